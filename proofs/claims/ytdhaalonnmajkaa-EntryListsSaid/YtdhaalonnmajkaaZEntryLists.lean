/-
  For every field, all notices and whatever hour and player are asked for the law EntryLists returns true and leaves its arguments as they were. No condition.
-/
import Derived.Deep.Cut
import Derived.Deep.CutRange
import Derived.Test.YtdhaalonnmajkaaRows
import Derived.Carry
import Derived.ProofKit
import Derived.Deep.Slices
import Derived.Deep.Fields
import Derived.Lib.SmallJoins
import Derived.Test.YtdhaalonnmajkaaZB03
import Derived.Test.YtdhaalonnmajkaaZB04
import Derived.Test.YtdhaalonnmajkaaZB05
import Derived.Test.YtdhaalonnmajkaaZB06
import Derived.Test.YtdhaalonnmajkaaZB08
import Derived.Test.YtdhaalonnmajkaaZB10
namespace Go.Proofs.Ytdhaalonnmajkaa
open Go.RowKit Go.Sort
attribute [local go_sem ↓] Go.wp_at_zero Go.wp_at_succ

def whereL (m c o : List Int) (k : Int) : Int × Int :=
  if 0 ≤ E.idx m k then (1, E.idx m k + 1) else if 0 ≤ E.idx c k then (2, E.idx c k + 1) else if 0 ≤ E.idx o k then (3, E.idx o k + 1) else (0, 0)
theorem idx_ge (l : List Int) (k : Int) : -1 ≤ E.idx l k := by
  unfold E.idx
  split <;> omega
set_option maxHeartbeats 6400000 in
theorem stand_ref (A1 : Option Addr) (n1 c1 : Nat) (m : List Int) (A2 : Option Addr) (n2 c2 : Nat) (c : List Int) (A3 : Option Addr) (n3 c3 : Nat) (o : List Int) (pl k : Int) (w : World) (h1 : m.length = n1) (r1 : RdI w w.heap.size A1 m) (m1 : n1 ≤ 900) (h2 : c.length = n2) (r2 : RdI w w.heap.size A2 c) (m2 : n2 ≤ 900) (h3 : o.length = n3) (r3 : RdI w w.heap.size A3 o) (m3 : n3 ≤ 900) :
    Calls Try.prog 38 #[.agg #[.slice A1 n1 c1, .slice A2 n2 c2, .slice A3 n3 c3, .int .i64 pl], .int .i64 k] w fun e w' => e = .returned (.tuple #[.int .i64 (whereL m c o k).1, .int .i64 (whereL m c o k).2]) ∧ Below w.heap.size w w' := by
  have H1 := hide h1
  have R1 := hide r1
  have H2 := hide h2
  have R2 := hide r2
  have H3 := hide h3
  have R3 := hide r3
  clear h1 r1 h2 r2 h3 r3
  obtain ⟨i1, hi1⟩ : ∃ q, E.idx m k = q := ⟨_, rfl⟩
  obtain ⟨i2, hi2⟩ : ∃ q, E.idx c k = q := ⟨_, rfl⟩
  obtain ⟨i3, hi3⟩ : ∃ q, E.idx o k = q := ⟨_, rfl⟩
  unfold whereL
  rw [hi1, hi2, hi3]
  obtain ⟨rr, hrr⟩ : ∃ q, (if 0 ≤ i1 then ((1 : Int), i1 + 1) else if 0 ≤ i2 then (2, i2 + 1) else if 0 ≤ i3 then (3, i3 + 1) else (0, 0)) = q := ⟨_, rfl⟩
  rw [hrr]
  have HRR := hide hrr
  clear hrr
  have g1 := idx_ge m k
  have g2 := idx_ge c k
  have g3 := idx_ge o k
  rw [hi1] at g1
  rw [hi2] at g2
  rw [hi3] at g3
  have I1 := hide hi1
  have I2 := hide hi2
  have I3 := hide hi3
  clear hi1 hi2 hi3
  go_enter Try.func38, Try.ntmps38
  go_upto_region 1 with fail
  obtain ⟨w0, hw0⟩ : ∃ q, w.alloc (.cells #[.slice A1 n1 c1, .slice A2 n2 c2, .slice A3 n3 c3, .int .i64 pl] 33) = q := ⟨_, rfl⟩
  have HB0 := hide (show Below w.heap.size w w0 by rw [← hw0]; (repeat' first | exact zbR _ _ | assumption | refine zbD ?_ | refine zbA ?_ ?_ _ | refine zbS ?_ ?_ _ | refine zbT ?_ (by assumption) ?_ | (simp; done) | (simp; omega) | omega))
  have HE0 := hide (show w0.heap[w.heap.size]? = some (.cells #[.slice A1 n1 c1, .slice A2 n2 c2, .slice A3 n3 c3, .int .i64 pl] 33 (0, 0)) by rw [← hw0]; exact World.alloc_heap_new _ _)
  rw [hw0]
  clear hw0
  have x0 : w0.cell? ⟨w.heap.size, 0, none⟩ = some (.slice A1 n1 c1) := (blk_cell HE0.out 0).trans rfl
  have x1 : w0.cell? ⟨w.heap.size, 1, none⟩ = some (.slice A2 n2 c2) := (blk_cell HE0.out 1).trans rfl
  have x2 : w0.cell? ⟨w.heap.size, 2, none⟩ = some (.slice A3 n3 c3) := (blk_cell HE0.out 2).trans rfl
  have lx := blk_lt HE0.out
  by_cases q1 : 0 ≤ i1
  · have e1 : 0 < i1 + 1 := by omega
    skip
    go_wp2_with (go_at_call 54; with_reducible refine (place_any A1 n1 c1 m k _ H1.out ((R1.out.below HB0.out).mono HB0.out.size) (by omega)).mono ?_; rintro e w' ⟨rfl, rfl⟩; rw [I1.out])
    exact bodyPost_ret (v := .tuple #[.int .i64 1, .int .i64 (i1 + 1)]) (by simp [results, Try.results38, go_sem]) rfl ⟨by rw [← HRR.out, if_pos q1], HB0.out⟩
  · have e1 : i1 = -1 := by omega
    skip
    subst e1
    by_cases q2 : 0 ≤ i2
    · have e2 : 0 < i2 + 1 := by omega
      skip
      go_wp2_with (first | (go_at_call 54; with_reducible refine (place_any A1 n1 c1 m k _ H1.out ((R1.out.below HB0.out).mono HB0.out.size) (by omega)).mono ?_; rintro e w' ⟨rfl, rfl⟩; rw [I1.out]) | (go_at_call 54; with_reducible refine (place_any A2 n2 c2 c k _ H2.out ((R2.out.below HB0.out).mono HB0.out.size) (by omega)).mono ?_; rintro e w' ⟨rfl, rfl⟩; rw [I2.out]))
      exact bodyPost_ret (v := .tuple #[.int .i64 2, .int .i64 (i2 + 1)]) (by simp [results, Try.results38, go_sem]) rfl ⟨by rw [← HRR.out, if_neg (by omega), if_pos q2], HB0.out⟩
    · have e2 : i2 = -1 := by omega
      skip
      subst e2
      by_cases q3 : 0 ≤ i3
      · have e3 : 0 < i3 + 1 := by omega
        skip
        go_wp2_with (first | (go_at_call 54; with_reducible refine (place_any A1 n1 c1 m k _ H1.out ((R1.out.below HB0.out).mono HB0.out.size) (by omega)).mono ?_; rintro e w' ⟨rfl, rfl⟩; rw [I1.out]) | (go_at_call 54; with_reducible refine (place_any A2 n2 c2 c k _ H2.out ((R2.out.below HB0.out).mono HB0.out.size) (by omega)).mono ?_; rintro e w' ⟨rfl, rfl⟩; rw [I2.out]) | (go_at_call 54; with_reducible refine (place_any A3 n3 c3 o k _ H3.out ((R3.out.below HB0.out).mono HB0.out.size) (by omega)).mono ?_; rintro e w' ⟨rfl, rfl⟩; rw [I3.out]))
        exact bodyPost_ret (v := .tuple #[.int .i64 3, .int .i64 (i3 + 1)]) (by simp [results, Try.results38, go_sem]) rfl ⟨by rw [← HRR.out, if_neg (by omega), if_neg (by omega), if_pos q3], HB0.out⟩
      · have e3 : i3 = -1 := by omega
        skip
        subst e3
        go_wp2_with (first | (go_at_call 54; with_reducible refine (place_any A1 n1 c1 m k _ H1.out ((R1.out.below HB0.out).mono HB0.out.size) (by omega)).mono ?_; rintro e w' ⟨rfl, rfl⟩; rw [I1.out]) | (go_at_call 54; with_reducible refine (place_any A2 n2 c2 c k _ H2.out ((R2.out.below HB0.out).mono HB0.out.size) (by omega)).mono ?_; rintro e w' ⟨rfl, rfl⟩; rw [I2.out]) | (go_at_call 54; with_reducible refine (place_any A3 n3 c3 o k _ H3.out ((R3.out.below HB0.out).mono HB0.out.size) (by omega)).mono ?_; rintro e w' ⟨rfl, rfl⟩; rw [I3.out]))
        exact bodyPost_ret (v := .tuple #[.int .i64 0, .int .i64 (0)]) (by simp [results, Try.results38, go_sem]) rfl ⟨by rw [← HRR.out, if_neg (by omega), if_neg (by omega), if_neg (by omega)], HB0.out⟩
set_option maxHeartbeats 6400000 in
theorem check_ref (f : E.Fd) (A : Option Addr) (n c : Nat) (l : List E.Nt) (h p : Int) (w : World) (hn : l.length = n) (hr : RdN w w.heap.size A l) (hm : n ≤ 1000000) :
    Calls Try.prog 34 #[.agg #[.int .i64 f.places, .int .i64 f.wilds, .int .i64 f.guards, .int .i64 f.close, .int .i64 f.freeze], .slice A n c, .int .i64 h, .int .i64 p] w fun e w' => e = .returned (.int .i64 (E.errE f l h p)) ∧ Below w.heap.size w w' := by
  have HN := hide hn
  have HR := hide hr
  have HM := hide hm
  clear hn hr hm
  obtain ⟨e0, he0⟩ : ∃ q, E.checkE f l = q := ⟨_, rfl⟩
  obtain ⟨r0, hr0⟩ : ∃ q, E.errE f l h p = q := ⟨_, rfl⟩
  have HE0 := hide he0
  have HR0 := hide hr0
  rw [hr0]
  clear he0 hr0
  go_enter Try.func34, Try.ntmps34
  go_upto_region 1 with fail
  obtain ⟨w0, hw0⟩ : ∃ q, w.alloc (.cells #[.int .i64 f.places, .int .i64 f.wilds, .int .i64 f.guards, .int .i64 f.close, .int .i64 f.freeze] 23) = q := ⟨_, rfl⟩
  have HB0 := hide (show Below w.heap.size w w0 by rw [← hw0]; (repeat' first | exact zbR _ _ | assumption | refine zbD ?_ | refine zbA ?_ ?_ _ | refine zbS ?_ ?_ _ | refine zbT ?_ (by assumption) ?_ | (simp; done) | (simp; omega) | omega))
  have HF0 := hide (show w0.heap[w.heap.size]? = some (.cells #[.int .i64 f.places, .int .i64 f.wilds, .int .i64 f.guards, .int .i64 f.close, .int .i64 f.freeze] 23 (0, 0)) by rw [← hw0]; exact World.alloc_heap_new _ _)
  rw [hw0]
  clear hw0
  have x0 : w0.cell? ⟨w.heap.size, 0, none⟩ = some (.int .i64 f.places) := (blk_cell HF0.out 0).trans rfl; have x1 : w0.cell? ⟨w.heap.size, 1, none⟩ = some (.int .i64 f.wilds) := (blk_cell HF0.out 1).trans rfl; have x2 : w0.cell? ⟨w.heap.size, 2, none⟩ = some (.int .i64 f.guards) := (blk_cell HF0.out 2).trans rfl; have x3 : w0.cell? ⟨w.heap.size, 3, none⟩ = some (.int .i64 f.close) := (blk_cell HF0.out 3).trans rfl; have x4 : w0.cell? ⟨w.heap.size, 4, none⟩ = some (.int .i64 f.freeze) := (blk_cell HF0.out 4).trans rfl
  have lx := blk_lt HF0.out
  go_upto_region 2 with (go_at_call 13; with_reducible refine (refCheck_any f A n c l w0 HN.out ((HR.out.below HB0.out).mono HB0.out.size) HM.out).mono ?_; rintro e w1 ⟨rfl, hb1⟩; rw [HE0.out]; have HB1 := hide (HB0.out.trans (hb1.mono HB0.out.size)); clear hb1)
  clear x0 x1 x2 x3 x4 lx
  by_cases q0 : e0 = 0
  · subst q0
    obtain ⟨a1, ha1⟩ : ∃ q, E.within h 0 9999 = q := ⟨_, rfl⟩
    obtain ⟨a2, ha2⟩ : ∃ q, E.within p 0 999 = q := ⟨_, rfl⟩
    have A1 := hide ha1
    have A2 := hide ha2
    clear ha1 ha2
    have HV := hide (show r0 = if a1 && a2 then 0 else 1 by rw [← HR0.out, ← A1.out, ← A2.out]; unfold E.errE; rw [HE0.out, if_neg (by decide)]; simp only [Bool.and_eq_true])
    cases a1
    · go_wp2_with (go_at_call 29; with_reducible refine (refWithin_any h 0 9999 _).mono ?_; rintro e w' ⟨rfl, rfl⟩; rw [A1.out])
      go_ret
      exact ⟨by rw [HV.out]; rfl, HB1.out⟩
    · cases a2
      · go_wp2_with (first | (go_at_call 29; with_reducible refine (refWithin_any h 0 9999 _).mono ?_; rintro e w' ⟨rfl, rfl⟩; rw [A1.out]) | (go_at_call 29; with_reducible refine (refWithin_any p 0 999 _).mono ?_; rintro e w' ⟨rfl, rfl⟩; rw [A2.out]))
        go_ret
        exact ⟨by rw [HV.out]; rfl, HB1.out⟩
      · go_wp2_with (first | (go_at_call 29; with_reducible refine (refWithin_any h 0 9999 _).mono ?_; rintro e w' ⟨rfl, rfl⟩; rw [A1.out]) | (go_at_call 29; with_reducible refine (refWithin_any p 0 999 _).mono ?_; rintro e w' ⟨rfl, rfl⟩; rw [A2.out]))
        go_ret
        exact ⟨by rw [HV.out]; rfl, HB1.out⟩
  · have HV := hide (show r0 = e0 by rw [← HR0.out]; unfold E.errE; rw [HE0.out, if_pos q0])
    go_wp2_with fail
    go_ret
    exact ⟨by rw [HV.out]; rfl, HB1.out⟩
end Go.Proofs.Ytdhaalonnmajkaa

namespace Go.Proofs.Ytdhaalonnmajkaa
open Go.RowKit Go.Sort
attribute [local go_sem ↓] Go.wp_at_zero Go.wp_at_succ

theorem ex_below {w w' : World} {k : Nat} {t : TypeId} (h : ∃ old : Array Value, w.heap[k]? = some (.cells old t (0, 0)) ∧ old.size = 4) (hb : Below w.heap.size w w') : ∃ old : Array Value, w'.heap[k]? = some (.cells old t (0, 0)) ∧ old.size = 4 := by
  obtain ⟨old, h1, h2⟩ := h
  exact ⟨old, (hb.block _ (blk_lt h1)).trans h1, h2⟩
def AfterP (f : E.Fd) (l : List E.Nt) (h : Int) (s : E.Rs) : Prop := ∀ (A : Option Addr) (n c : Nat) (w : World), l.length = n → RdN w w.heap.size A l →
    Calls Try.prog 36 #[.agg #[.int .i64 f.places, .int .i64 f.wilds, .int .i64 f.guards, .int .i64 f.close, .int .i64 f.freeze], .slice A n c, .int .i64 h] w fun e w' => ∃ v, e = .returned v ∧ StW w' (fun b => w.heap.size ≤ b) v s ∧ Below w.heap.size w w'
def RListVal (f : E.Fd) (s : E.Rs) (e : Ending) (w' : World) : Prop := ∃ (A3 : Option Addr) (n3 c3 : Nat) (A2 : Option Addr) (n2 c2 : Nat) (A4 : Option Addr) (m4 c4 : Nat), e = .returned (.tuple #[.agg #[.slice A3 n3 c3, .slice A2 n2 c2, .slice A4 m4 c4, .int .i64 (f.places + s.back - (n3 : Int))], .int .i64 0]) ∧ s.ins.length = n3 ∧ RdI w' w'.heap.size A3 s.ins ∧ s.wilds.length = n2 ∧ RdI w' w'.heap.size A2 s.wilds ∧ (outF (ordF s.people) s.ins).length = m4 ∧ RdI w' w'.heap.size A4 (outF (ordF s.people) s.ins)
set_option maxHeartbeats 6400000 in
set_option maxRecDepth 100000 in
theorem List_ref (f : E.Fd) (A : Option Addr) (n c : Nat) (l : List E.Nt) (h : Int) (s : E.Rs) (w : World) (hn : l.length = n) (hr : RdN w w.heap.size A l) (hm : n ≤ 1000000) (hA : E.errE f l h 0 = 0 → AfterP f l h s) (hs : E.errE f l h 0 = 0 → s.people.length ≤ 200 ∧ s.ins.length ≤ 400 ∧ 0 ≤ s.back ∧ s.back ≤ 1000) (hp : E.errE f l h 0 = 0 → 0 ≤ f.places ∧ f.places ≤ 1000) :
    Calls Try.prog 15 #[.agg #[.int .i64 f.places, .int .i64 f.wilds, .int .i64 f.guards, .int .i64 f.close, .int .i64 f.freeze], .slice A n c, .int .i64 h] w fun e w' => ((E.errE f l h 0 ≠ 0 ∧ e = .returned (.tuple #[noEnt, .int .i64 (E.errE f l h 0)])) ∨ (E.errE f l h 0 = 0 ∧ RListVal f s e w')) ∧ Below w.heap.size w w' := by
  have HN := hide hn
  have HR := hide hr
  have HM := hide hm
  clear hn hr hm
  obtain ⟨e0, he0⟩ : ∃ q, E.errE f l h 0 = q := ⟨_, rfl⟩
  have HE0 := hide he0
  rw [he0] at hA hs hp ⊢
  clear he0
  go_enter Try.func15, Try.ntmps15
  go_upto_region 1 with fail
  obtain ⟨w0, hw0⟩ : ∃ q, (w.alloc (.cells #[.int .i64 f.places, .int .i64 f.wilds, .int .i64 f.guards, .int .i64 f.close, .int .i64 f.freeze] 23)).alloc (.cells #[.slice none 0 0, .slice none 0 0, .slice none 0 0, .int .i64 0] 33) = q := ⟨_, rfl⟩
  have HB0 := hide (show Below w.heap.size w w0 by rw [← hw0]; (repeat' first | exact zbR _ _ | assumption | refine zbD ?_ | refine zbA ?_ ?_ _ | refine zbS ?_ ?_ _ | refine zbT ?_ (by assumption) ?_ | (simp; done) | (simp; omega) | omega))
  have HF0 := hide (show w0.heap[w.heap.size]? = some (.cells #[.int .i64 f.places, .int .i64 f.wilds, .int .i64 f.guards, .int .i64 f.close, .int .i64 f.freeze] 23 (0, 0)) by rw [← hw0]; exact (Below.heap_alloc _ _ _ (by first | (simp; done) | (simp; omega) | omega)).trans (World.alloc_heap_new _ _))
  have HT0 := hide (show w0.heap[w.heap.size + 1]? = some (.cells #[.slice none 0 0, .slice none 0 0, .slice none 0 0, .int .i64 0] 33 (0, 0)) by rw [← hw0]; exact (congrArg _ (by simp)).trans (World.alloc_heap_new _ _))
  rw [hw0]
  clear hw0
  have yf0 : w0.cell? ⟨w.heap.size, 0, none⟩ = some (.int .i64 f.places) := (blk_cell HF0.out 0).trans rfl
  have yf1 : w0.cell? ⟨w.heap.size, 1, none⟩ = some (.int .i64 f.wilds) := (blk_cell HF0.out 1).trans rfl
  have yf2 : w0.cell? ⟨w.heap.size, 2, none⟩ = some (.int .i64 f.guards) := (blk_cell HF0.out 2).trans rfl
  have yf3 : w0.cell? ⟨w.heap.size, 3, none⟩ = some (.int .i64 f.close) := (blk_cell HF0.out 3).trans rfl
  have yf4 : w0.cell? ⟨w.heap.size, 4, none⟩ = some (.int .i64 f.freeze) := (blk_cell HF0.out 4).trans rfl
  have lyf := blk_lt HF0.out
  go_upto_region 2 with (go_at_call 34; with_reducible refine (check_ref f A n c l h 0 w0 HN.out ((HR.out.below HB0.out).mono HB0.out.size) HM.out).mono ?_; rintro e w1 ⟨rfl, hb1⟩; rw [HE0.out]; have HB1 := hide hb1; clear hb1)
  clear yf0 yf1 yf2 yf3 yf4 lyf
  have HF1 := hide ((HB1.out.block _ (blk_lt HF0.out)).trans HF0.out)
  have HT1 := hide ((HB1.out.block _ (blk_lt HT0.out)).trans HT0.out)
  have HBW1 := hide (zbT HB0.out HB1.out HB0.out.size)
  clear HF0 HT0
  by_cases q0 : e0 = 0
  · subst q0
    have hA := hA rfl
    have HSB := hide (hs rfl)
    have HPL := hide (hp rfl)
    clear hs hp
    go_upto_region 4 with fail
    have hSof : ∀ w', w1.grownBy w' (some (w.heap.size + 1)) → (∃ old : Array Value, w'.heap[w.heap.size + 1]? = some (.cells old 33 (0, 0)) ∧ old.size = 4) → w1.grownBy w' (some (w.heap.size + 1)) ∧ (∃ old : Array Value, w'.heap[w.heap.size + 1]? = some (.cells old 33 (0, 0)) ∧ old.size = 4) ∧ w'.cell? ⟨w.heap.size, 0, none⟩ = some (.int .i64 f.places) ∧ w'.cell? ⟨w.heap.size, 1, none⟩ = some (.int .i64 f.wilds) ∧ w'.cell? ⟨w.heap.size, 2, none⟩ = some (.int .i64 f.guards) ∧ w'.cell? ⟨w.heap.size, 3, none⟩ = some (.int .i64 f.close) ∧ w'.cell? ⟨w.heap.size, 4, none⟩ = some (.int .i64 f.freeze) ∧ w.heap.size < w'.heap.size ∧ w.heap.size + 1 < w'.heap.size := fun w' hg hex => by
      have hF := (hg.block _ (blk_lt HF1.out) (fun e => by have := Option.some.inj e; omega)).trans HF1.out
      exact ⟨hg, hex, (blk_cell hF 0).trans rfl, (blk_cell hF 1).trans rfl, (blk_cell hF 2).trans rfl, (blk_cell hF 3).trans rfl, (blk_cell hF 4).trans rfl, blk_lt hF, Nat.lt_of_lt_of_le (blk_lt HT1.out) hg.size⟩
    have HRG : ∀ w', w1.grownBy w' (some (w.heap.size + 1)) → RdN w' w'.heap.size A l := fun w' hg => (HR.out.below (HBW1.out.trans (grown_below hg HBW1.out.size (fun g hg => by cases hg; omega)))).mono (Nat.le_trans HBW1.out.size hg.size)
    have hS : (fun w' => w1.grownBy w' (some (w.heap.size + 1)) ∧ (∃ old : Array Value, w'.heap[w.heap.size + 1]? = some (.cells old 33 (0, 0)) ∧ old.size = 4) ∧ w'.cell? ⟨w.heap.size, 0, none⟩ = some (.int .i64 f.places) ∧ w'.cell? ⟨w.heap.size, 1, none⟩ = some (.int .i64 f.wilds) ∧ w'.cell? ⟨w.heap.size, 2, none⟩ = some (.int .i64 f.guards) ∧ w'.cell? ⟨w.heap.size, 3, none⟩ = some (.int .i64 f.close) ∧ w'.cell? ⟨w.heap.size, 4, none⟩ = some (.int .i64 f.freeze) ∧ w.heap.size < w'.heap.size ∧ w.heap.size + 1 < w'.heap.size) w1 := hSof _ (World.grownBy.refl _ _) ⟨_, HT1.out, rfl⟩
    (try dsimp only at hS)
    refine wp_region_held_drew (S := (fun w' => w1.grownBy w' (some (w.heap.size + 1)) ∧ (∃ old : Array Value, w'.heap[w.heap.size + 1]? = some (.cells old 33 (0, 0)) ∧ old.size = 4) ∧ w'.cell? ⟨w.heap.size, 0, none⟩ = some (.int .i64 f.places) ∧ w'.cell? ⟨w.heap.size, 1, none⟩ = some (.int .i64 f.wilds) ∧ w'.cell? ⟨w.heap.size, 2, none⟩ = some (.int .i64 f.guards) ∧ w'.cell? ⟨w.heap.size, 3, none⟩ = some (.int .i64 f.close) ∧ w'.cell? ⟨w.heap.size, 4, none⟩ = some (.int .i64 f.freeze) ∧ w.heap.size < w'.heap.size ∧ w.heap.size + 1 < w'.heap.size)) (by kernel_rfl) ?_ (fun hD0 => ?_)
    · (try dsimp only); first | assumption | exact hSof _ (gr_none_drew _ _) ⟨_, HT1.out, rfl⟩
    refine tW ?_ 0 rfl (by kernel_rfl) (fun _ _ _ h => h) (by rfl) (by assumption) ?_ ?_; rotate_left; (focus (intro w hSw; (try dsimp only at hSw); go_simp; try with_reducible rfl)); try simp only [Act.put, zl, z0, z1]
    refine tW ?_ 1 rfl (by kernel_rfl) (fun _ _ _ h => h) (by rfl) (by assumption) ?_ ?_; rotate_left; (focus (intro w hSw; (try dsimp only at hSw); go_simp; try with_reducible rfl)); try simp only [Act.put, zl, z0, z1]
    refine tW ?_ 2 rfl (by kernel_rfl) (fun _ _ _ h => h) (by rfl) (by assumption) ?_ ?_; rotate_left; (focus (intro w hSw; (try dsimp only at hSw); go_simp; try with_reducible rfl)); try simp only [Act.put, zl, z0, z1]
    refine tW ?_ 3 rfl (by kernel_rfl) (fun _ _ _ h => h) (by rfl) (by assumption) ?_ ?_; rotate_left; (focus (intro w hSw; (try dsimp only at hSw); go_simp; try with_reducible rfl)); try simp only [Act.put, zl, z0, z1]
    refine wpAnyH_ready (rs := [4]) (by kernel_rfl) (by simp) ?_; refine consL 4 rfl (fun K hK => ?_) AllReadyH.nil
    (go_simp; go_at_call 36; refine (hA A n c _ HN.out (HRG _ hD0.1)).mono ?_; rintro e w5 ⟨v5, rfl, hst, hb5⟩; have hSn := hSof _ (gr_trans hD0.1 (gr_wide (gr_of hb5))) (ex_below hD0.2.1 hb5); obtain ⟨An, nn, cn, A2, n2, c2, A3, n3, c3, rfl, q1, q2, q3, q4, q5, q6⟩ := hst; have q7 := q6 w5 (Nat.le_refl _) (fun _ _ _ => rfl); have HQ6 := hide q6; have HQ := hide (And.intro q1 (And.intro q3 (And.intro q5 q7))); have HLA := hide (show w1.heap.size ≤ _ from hD0.1.size); clear q1 q2 q3 q4 q5 q6 q7 hb5; (try dsimp only at hSn))
    refine hK.out _ _ ?_ (fun hD1 => ?_)
    · (try dsimp only); first | assumption | exact hSof _ (gr_none_drew _ _) ⟨_, HT1.out, rfl⟩
    clear hK K hD0; try simp only [Act.put, zl, z0, z1]
    refine wpAnyH_ready (rs := [5]) (by kernel_rfl) (by simp) ?_; refine consL 5 rfl (fun K hK => ?_) AllReadyH.nil
    (go_simp; go_at_call 35; refine (entries_ref f An nn cn s.people A2 n2 c2 s.back A3 n3 c3 s.ins w5 HQ.out.1 HQ.out.2.2.2.1 (by have h1 := HQ.out.1; have h2 := HSB.out.1; omega) HQ.out.2.2.1 HQ.out.2.2.2.2.2 (by have h1 := HQ.out.2.2.1; have h2 := HSB.out.2.1; omega) HPL.out HSB.out.2.2).mono ?_; rintro e w6 ⟨A4, m4, c4, rfl, hl6, ho6, hb6⟩; have hSn := hSof _ (gr_trans hD1.1 (gr_wide (gr_of hb6))) (ex_below hD1.2.1 hb6); have HL6 := hide hl6; have HO6 := hide ho6; have HB6 := hide hb6; have HG6 := hide hSn.1; have HW5 := hide hD1.1.size; clear hl6 ho6 hb6; (try dsimp only at hSn))
    refine hK.out _ _ ?_ (fun hD2 => ?_)
    · (try dsimp only); first | assumption | exact hSof _ (gr_none_drew _ _) ⟨_, HT1.out, rfl⟩
    clear hK K hD1; try simp only [Act.put, zl, z0, z1]
    refine wpAnyH_ready (rs := [6]) (by kernel_rfl) (by simp) ?_; refine consL 6 rfl (fun K hK => ?_) AllReadyH.nil
    (have hx9 := hD2.2.1; obtain ⟨old9, ho9⟩ := hx9; refine step_row rfl 33 (.tmp 6) (.tmp 22) rfl _ _ rfl rfl 33 _ ho9.1 entRow ho9.2 (by simp [Value.oneCell']) ?_; refine cap_row2 ho9.1 (fun W9 hqr hgr hbr => ?_); have hSn := hSof _ (gr_trans hD2.1 hgr) ⟨_, hqr, rfl⟩; have HQR := hide hqr; have HGR := hide hgr; have HO9 := hide (HO6.out.kept hgr (.inr (row_ne HO6.out ho9.1 (by decide)))); clear hqr hgr hbr ho9; (try dsimp only at hSn))
    refine hK.out _ _ ?_ (fun hD3 => ?_)
    · (try dsimp only); first | assumption | exact hSof _ (gr_none_drew _ _) ⟨_, HT1.out, rfl⟩
    clear hK K hD2; try simp only [Act.put, zl, z0, z1]
    refine tW ?_ 7 rfl (by kernel_rfl) (fun _ _ _ h => h) (by rfl) (by assumption) ?_ ?_; rotate_left; (focus (intro w hSw; (try dsimp only at hSw); go_simp; try with_reducible rfl)); try simp only [Act.put, zl, z0, z1]
    refine wpAnyH_done (by kernel_rfl) ?_ _
    all_goals
      (try dsimp only [Act.put, List.getElem_toArray, List.getElem_cons_succ, List.getElem_cons_zero])
      (try simp only [zl, z0, z1])
      have HGS := hide hSn.1
      clear hSn hS hSof
      have HQ9 := hide (show W9.heap[w.heap.size + 1]? = some (.cells #[.slice A3 n3 c3, .slice A2 n2 c2, .slice A4 m4 c4, .int .i64 (f.places + s.back - (n3 : Int))] 33 (0, 0)) from HQR.out)
      have HB9 := hide (HBW1.out.trans (grown_below HGS.out HBW1.out.size (fun g hg => by cases hg; omega)))
      have q9 := HQ6.out W9 (Nat.le_trans HB6.out.size HGR.out.size) (fun b hb hk => (HGR.out.block b (Nat.lt_of_lt_of_le hb HB6.out.size) (fun e => by have h1 := Option.some.inj e; have h2 := blk_lt HT1.out; have h3 := HLA.out; omega)).trans (HB6.out.block b hb))
      have HR9 := hide q9
      clear q9
      have r0 : W9.cell? ⟨w.heap.size + 1, 0, none⟩ = some (.slice A3 n3 c3) := (blk_cell HQ9.out 0).trans rfl
      have r1 : W9.cell? ⟨w.heap.size + 1, 1, none⟩ = some (.slice A2 n2 c2) := (blk_cell HQ9.out 1).trans rfl
      have r2 : W9.cell? ⟨w.heap.size + 1, 2, none⟩ = some (.slice A4 m4 c4) := (blk_cell HQ9.out 2).trans rfl
      have r3 : W9.cell? ⟨w.heap.size + 1, 3, none⟩ = some (.int .i64 (f.places + s.back - (n3 : Int))) := (blk_cell HQ9.out 3).trans rfl
      have lr := blk_lt HQ9.out
      go_wp2_with fail
      exact bodyPost_ret (v := .tuple #[.agg #[.slice A3 n3 c3, .slice A2 n2 c2, .slice A4 m4 c4, .int .i64 (f.places + s.back - (n3 : Int))], .int .i64 0]) (by simp [results, Try.results15, go_sem, r0, r1, r2, r3]) rfl (by first | exact ⟨⟨A3, n3, c3, A2, n2, c2, A4, m4, c4, rfl, HQ.out.2.2.1, HR9.out.2.2, HQ.out.2.1, HR9.out.2.1, HL6.out, owns_RdI HO9.out HL6.out⟩, HB9.out⟩ | exact ⟨Or.inr ⟨rfl, A3, n3, c3, A2, n2, c2, A4, m4, c4, rfl, HQ.out.2.2.1, HR9.out.2.2, HQ.out.2.1, HR9.out.2.1, HL6.out, owns_RdI HO9.out HL6.out⟩, HB9.out⟩)
  · have HT1' := HT1.out
    have yt0 : w1.cell? ⟨w.heap.size + 1, 0, none⟩ = some (.slice none 0 0) := (blk_cell HT1.out 0).trans rfl
    have yt1 : w1.cell? ⟨w.heap.size + 1, 1, none⟩ = some (.slice none 0 0) := (blk_cell HT1.out 1).trans rfl
    have yt2 : w1.cell? ⟨w.heap.size + 1, 2, none⟩ = some (.slice none 0 0) := (blk_cell HT1.out 2).trans rfl
    have yt3 : w1.cell? ⟨w.heap.size + 1, 3, none⟩ = some (.int .i64 0) := (blk_cell HT1.out 3).trans rfl
    have lyt := blk_lt HT1.out
    have fz0 := blk_frozen HT1.out 0
    have fz1 := blk_frozen HT1.out 1
    have fz2 := blk_frozen HT1.out 2
    have fz3 := blk_frozen HT1.out 3
    go_wp2_with fail
    obtain ⟨w9, hw9⟩ : ∃ q, (((w1.setCell ⟨w.heap.size + 1, 0, none⟩ (.slice none 0 0)).setCell ⟨w.heap.size + 1, 1, none⟩ (.slice none 0 0)).setCell ⟨w.heap.size + 1, 2, none⟩ (.slice none 0 0)).setCell ⟨w.heap.size + 1, 3, none⟩ (.int .i64 0) = q := ⟨_, rfl⟩
    have HT9 := hide (show w9.heap[w.heap.size + 1]? = some (.cells #[.slice none 0 0, .slice none 0 0, .slice none 0 0, .int .i64 0] 33 (0, 0)) by rw [← hw9]; exact blk_set (blk_set (blk_set (blk_set HT1.out 0 _) 1 _) 2 _) 3 _)
    have HG9 := hide (show w1.grownBy w9 (some (w.heap.size + 1)) by rw [← hw9]; exact gr_trans (gr_trans (gr_trans (gr_set _ _ _ _) (gr_set _ _ _ _)) (gr_set _ _ _ _)) (gr_set _ _ _ _))
    have HB9 := hide (HBW1.out.trans (grown_below HG9.out HBW1.out.size (fun g hg => by cases hg; omega)))
    rw [hw9]
    clear hw9
    have r0 : w9.cell? ⟨w.heap.size + 1, 0, none⟩ = some (.slice none 0 0) := (blk_cell HT9.out 0).trans rfl
    have r1 : w9.cell? ⟨w.heap.size + 1, 1, none⟩ = some (.slice none 0 0) := (blk_cell HT9.out 1).trans rfl
    have r2 : w9.cell? ⟨w.heap.size + 1, 2, none⟩ = some (.slice none 0 0) := (blk_cell HT9.out 2).trans rfl
    have r3 : w9.cell? ⟨w.heap.size + 1, 3, none⟩ = some (.int .i64 0) := (blk_cell HT9.out 3).trans rfl
    have lr := blk_lt HT9.out
    exact bodyPost_ret (v := .tuple #[noEnt, .int .i64 e0]) (by simp [results, Try.results15, go_sem, noEnt, r0, r1, r2, r3]) rfl ⟨.inl ⟨q0, rfl⟩, HB9.out⟩
end Go.Proofs.Ytdhaalonnmajkaa

namespace Go.Proofs.Ytdhaalonnmajkaa
open Go.RowKit Go.Sort

set_option maxRecDepth 100000 in
theorem run_eql_nt (x y : E.Nt) (w : World) :
    (binOp .eql 40 (.agg #[.int .i64 x.id, .int .i64 x.hour, .int .i64 x.kind, .int .i64 x.player, .int .i64 x.rank]) (.agg #[.int .i64 y.id, .int .i64 y.hour, .int .i64 y.kind, .int .i64 y.player, .int .i64 y.rank])).run Try.prog w = .ok (.bool (decide (x = y))) w := by
  obtain ⟨a1, a2, a3, a4, a5⟩ := x
  obtain ⟨b1, b2, b3, b4, b5⟩ := y
  by_cases h1 : a1 = b1
  · by_cases h2 : a2 = b2
    · by_cases h3 : a3 = b3
      · by_cases h4 : a4 = b4
        · by_cases h5 : a5 = b5
          · simp [go_sem, h1, h2, h3, h4, h5, Try.underlying40]
          · simp [go_sem, h1, h2, h3, h4, h5, Try.underlying40]
        · simp [go_sem, h1, h2, h3, h4, Try.underlying40]
      · simp [go_sem, h1, h2, h3, Try.underlying40]
    · simp [go_sem, h1, h2, Try.underlying40]
  · simp [go_sem, h1, Try.underlying40]
attribute [local go_sem ↓] Go.wp_at_zero Go.wp_at_succ run_eql_nt
namespace E
theorem tscan {outs : List Nt} {x : Nt} {k : Nat} {y : Nt} (hy : outs[k]? = some y) : k + (outs.drop k).findIdx (tbef x) = if tbef x y = true then k else k + 1 + (outs.drop (k + 1)).findIdx (tbef x) := by
  obtain ⟨h1, h2⟩ := List.getElem?_eq_some_iff.1 hy
  rw [List.drop_eq_getElem_cons h1, h2, List.findIdx_cons]
  cases tbef x y <;> simp <;> omega
theorem tscan_mem {outs : List Nt} {x : Nt} {k : Nat} {y : Nt} (hy : outs[k]? = some y) : (outs.drop k).contains x = (decide (y = x) || (outs.drop (k + 1)).contains x) := by
  obtain ⟨h1, h2⟩ := List.getElem?_eq_some_iff.1 hy
  rw [List.drop_eq_getElem_cons h1, h2, List.contains_cons]
  congr 1
  rw [Bool.eq_iff_iff, beq_iff_eq, decide_eq_true_eq]
  exact eq_comm
theorem tswap : ∀ (outs : List Nt) (x : Nt) (j : Nat) (_ : j < outs.length) (na nb : Nt), (outs.take (j + 1) ++ x :: outs.drop (j + 1))[j]? = some na → (outs.take (j + 1) ++ x :: outs.drop (j + 1))[j + 1]? = some nb →
    ((outs.take (j + 1) ++ x :: outs.drop (j + 1)).set (j + 1) na).set j nb = outs.take j ++ x :: outs.drop j
  | [], _, _, h, _, _, _, _ => by simp at h
  | a :: r, x, 0, _, na, nb, h1, h2 => by
    have e1 : a = na := Option.some.inj h1
    have e2 : x = nb := Option.some.inj h2
    subst e1 e2
    rfl
  | a :: r, x, j + 1, h, na, nb, h1, h2 => by
    have ih := tswap r x j (by simpa using h) na nb h1 h2
    show a :: ((r.take (j + 1) ++ x :: r.drop (j + 1)).set (j + 1) na).set j nb = a :: (r.take j ++ x :: r.drop j)
    rw [ih]
end E
set_option maxHeartbeats 6400000 in
set_option maxRecDepth 100000 in
theorem taken_ref (A : Option Addr) (n c : Nat) (l : List E.Nt) (w : World) (hn : l.length = n) (hr : RdN w w.heap.size A l) (hm : n ≤ 200) :
    Calls Try.prog 51 #[.slice A n c] w fun e w' => ∃ A' m c', e = .returned (.slice A' m c') ∧ (l.foldl E.tins []).length = m ∧ w'.ownsRow w.heap.size 40 5 (.slice A' m c') m (flatN (l.foldl E.tins [])) ∧ Below w.heap.size w w' := by
  have HN := hide hn
  have HR := hide hr
  have HMX := hide hm
  clear hn hr hm
  go_enter Try.func51, Try.ntmps51
  go_wp2_with fail
  go_loopw [3, 4] (fun bf i wr => ∃ (i' : Nat) (A2 : Option Addr) (m c2 : Nat) (outs : List E.Nt), i' ≤ n ∧ bf = .slice A2 m c2 ∧ i = .int .i64 i' ∧ Hid (outs.length = m) ∧ Hid (outs = (l.take i').foldl E.tins []) ∧ Hid (wr.ownsRow w.heap.size 40 5 (.slice A2 m c2) m (flatN outs)) ∧ Hid (Below w.heap.size w wr)) (fun _ i _ => n - (intOf i).toNat)
  case atStart => exact ⟨0, none, 0, 0, [], by omega, rfl, rfl, hide rfl, hide rfl, hide (ownsN_nil _ _), hide (Below.refl _ _)⟩
  case round =>
    obtain ⟨i, A2, m, c2, outs, hi, rfl, rfl, HOL, HOE, HO, HBR⟩ := hrel
    have hnn := HMX.out
    have hol : m ≤ i := by have h1 := E.tfold_length (l.take i) []; rw [← HOE.out, HOL.out, List.length_take] at h1; simp at h1; omega
    by_cases hin : i < n
    · obtain ⟨x, hx⟩ : ∃ q, l[i]? = some q := ⟨_, List.getElem?_eq_getElem (by have := HN.out; omega)⟩
      have HX := hide hx
      have HTK := hide (show l.take (i + 1) = l.take i ++ [x] by rw [List.take_add_one, hx]; rfl)
      clear hx
      have hi1 : (i : Int) < (n : Int) := by omega
      have hi0 : (0 : Int) ≤ (i : Int) := by omega
      have hmw : IntKind.i64.wrap ((m : Int) - 1) = (m : Int) - 1 := IntWalk.i64_in _ (by omega)
      have hmw2 : IntKind.i64.wrap ((m : Int) + 1 - 1) = (m : Int) := by rw [show (m : Int) + 1 - 1 = (m : Int) by omega]; exact IntWalk.i64_in _ (by omega)
      have hmw3 : IntKind.i64.wrap (m : Int) = (m : Int) := IntWalk.i64_in _ (by omega)
      go_wp2_with fail
      go_loopw [5, 6, 7] (fun aa tt kk wr => ∃ (kn a : Nat) (tw : Bool), kn ≤ m ∧ aa = .int .i64 a ∧ tt = .bool tw ∧ kk = .int .i64 ((kn : Int) - 1) ∧ Hid (a = kn + (outs.drop kn).findIdx (E.tbef x)) ∧ Hid (tw = (outs.drop kn).contains x) ∧ Hid (wr.ownsRow w.heap.size 40 5 (.slice A2 m c2) m (flatN outs)) ∧ Hid (Below w.heap.size w wr)) (fun _ _ kk _ => (intOf kk + 1).toNat)
      case atStart => exact ⟨m, m, false, Nat.le_refl _, rfl, rfl, rfl, hide (by rw [List.drop_eq_nil_of_le (by have := HOL.out; omega)]; rfl), hide (by rw [List.drop_eq_nil_of_le (by have := HOL.out; omega)]; rfl), HO, HBR⟩
      case round =>
        clear HO HBR
        obtain ⟨kn, a, tw, hkn, rfl, rfl, rfl, HAT, HTW, HO, HBR⟩ := hrel
        by_cases hk0 : kn = 0
        · subst hk0
          have HTWN := hide (show tw = outs.contains x by rw [HTW.out, List.drop_zero])
          have HAT0 := hide (show a = outs.findIdx (E.tbef x) by rw [HAT.out, List.drop_zero, Nat.zero_add])
          have ham : a ≤ m := by have h1 := HAT0.out; have h2 := List.findIdx_le_length (p := E.tbef x) (xs := outs); rw [HOL.out] at h2; omega
          cases tw
          · obtain ⟨bl, ol, hAl, hbl, xc0, xc1, xc2, xc3, xc4⟩ := (HR.out.below HBR.out) i x HX.out
            subst hAl
            go_upto_region 15 with (at_builtin; refine wpList_app_N rfl (.tmp 75) (.tmp 80) rfl w.heap.size (.slice A2 m c2) outs m rfl (HO.out.kept (World.grownBy_alloc _ _ none) (Classical.em _)) HOL.out wr.heap.size x rfl (World.alloc_heap_new _ _) (by omega) (by have := HBR.out.size; simp; omega) ?_; intro A7 c7 w8 hown hgrow _; have HO7 := hide hown; have HB8 := hide ((zbA HBR.out HBR.out.size _).trans (grown_below (B := w.heap.size) hgrow (by have := HBR.out.size; simp; omega) (fun g hg => ((HO.out.kept (World.grownBy_alloc wr (.cells (ntCells x) 40) none) (Classical.em _)).lt g hg).1))); clear hown hgrow)
            obtain ⟨g, hg⟩ := own_form5 HO7.out (by omega)
            subst hg
            have HO8 := hide (show w8.ownsRow w.heap.size 40 5 (.slice (some ⟨g, 0, none⟩) (m + 1) c7) (m + 1) (flatN (outs ++ [x])) from HO7.out)
            have HOWM := hide (show ∀ (ms : List E.Nt) {W : World}, W.ownsRow w.heap.size 40 5 (.slice (some ⟨g, 0, none⟩) (m + 1) c7) (m + 1) (flatN ms) → Hid (W.ownsRow w.heap.size 40 5 (.slice (some ⟨g, 0, none⟩) (m + 1) c7) (m + 1) (flatN ms)) from fun ms W h => hide h)
            clear xc0 xc1 xc2 xc3 xc4 HO7
            go_loopw [8] (fun kk wr => ∃ k' : Nat, a ≤ k' ∧ k' ≤ m ∧ kk = .int .i64 k' ∧ Hid (wr.ownsRow w.heap.size 40 5 (.slice (some ⟨g, 0, none⟩) (m + 1) c7) (m + 1) (flatN (outs.take k' ++ x :: outs.drop k'))) ∧ Hid (Below w.heap.size w wr)) (fun kk _ => (intOf kk).toNat)
            case atStart => exact ⟨m, ham, Nat.le_refl _, rfl, hide (by rw [List.take_of_length_le (by have := HOL.out; omega), List.drop_eq_nil_of_le (by have := HOL.out; omega)]; exact HO8.out), HB8⟩
            case round =>
              obtain ⟨k, hak, hkm, rfl, HOW0, HR4⟩ := hrel
              obtain ⟨ms, hms⟩ : ∃ q, outs.take k ++ x :: outs.drop k = q := ⟨_, rfl⟩
              have HMS := hide hms.symm
              have HOW := hide (show wr.ownsRow w.heap.size 40 5 (.slice (some ⟨g, 0, none⟩) (m + 1) c7) (m + 1) (flatN ms) by rw [← hms]; exact HOW0.out)
              clear hms HOW0
              by_cases hka : k = a
              · subst hka
                have HFN := hide (show ms = (l.take (i + 1)).foldl E.tins [] by rw [HMS.out, HTK.out, List.foldl_append, ← HOE.out]; show _ = E.tins outs x; unfold E.tins; rw [if_neg (by rw [← HTWN.out]; decide), ← HAT0.out])
                go_wp2_with fail
                go_roundw
                case rel => exact ⟨i + 1, some ⟨g, 0, none⟩, m + 1, c7, ms, by omega, rfl, by go_num, hide (by rw [HMS.out, List.length_append, List.length_cons, List.length_take, List.length_drop, HOL.out]; omega), HFN, HOWM.out ms HOW.out, HR4⟩
                case measure => simp [intOf]; omega
              · obtain ⟨j, hj⟩ : ∃ j, k = j + 1 := ⟨k - 1, by omega⟩
                obtain ⟨J, hJ⟩ : ∃ J : Int, (k : Int) = J := ⟨_, rfl⟩
                rw [hJ]
                have hJa : (a : Int) < J := by omega
                have hJ0 : 0 < J := by omega
                have hJ00 : 0 ≤ J := by omega
                have hJn : J < (m : Int) + 1 := by omega
                have hJt : J.toNat = j + 1 := by omega
                have hwJ : IntKind.i64.wrap (J - 1) = (j : Int) := by rw [show J - 1 = (j : Int) by omega]; exact IntWalk.i64_in _ (by omega)
                have hjl : j < outs.length := by have := HOL.out; omega
                subst hj
                have HJ := hide hJ
                clear hJ
                have HLM := hide (show ms.length = m + 1 by rw [HMS.out, List.length_append, List.length_cons, List.length_take, List.length_drop, HOL.out]; omega)
                obtain ⟨na, hna⟩ : ∃ q, ms[j]? = some q := ⟨_, List.getElem?_eq_getElem (by have := HLM.out; omega)⟩
                obtain ⟨nb', hnb⟩ : ∃ q, ms[j + 1]? = some q := ⟨_, List.getElem?_eq_getElem (by have := HLM.out; omega)⟩
                have Hna := hide hna
                have Hnb' := hide hnb
                have HTH1 := hide (show wr.drew.there g ((j + 1) * 5) 5 from own_there (k := j + 1) HOW.out (by omega))
                clear hna hnb
                go_upto_region 17 with fail
                have hj0 : (0 : Int) ≤ (j : Int) := by omega
                have hjn : (j : Int) < (m : Int) + 1 := by omega
                have RLm := hide (owns_RdN HOW.out HLM.out)
                obtain ⟨bgna, ogna, egna, _, na0, na1, na2, na3, na4⟩ := RLm.out j na Hna.out
                simp only [Option.some.injEq, Addr.mk.injEq, and_true] at egna
                obtain ⟨rfl, rfl⟩ := egna
                rw [Nat.zero_add] at na0
                rw [Nat.zero_add] at na1
                rw [Nat.zero_add] at na2
                rw [Nat.zero_add] at na3
                rw [Nat.zero_add] at na4
                obtain ⟨bgnb, ognb, egnb, _, nb0, nb1, nb2, nb3, nb4⟩ := RLm.out (j + 1) nb' Hnb'.out
                simp only [Option.some.injEq, Addr.mk.injEq, and_true] at egnb
                obtain ⟨rfl, rfl⟩ := egnb
                rw [Nat.zero_add] at nb0
                rw [Nat.zero_add] at nb1
                rw [Nat.zero_add] at nb2
                rw [Nat.zero_add] at nb3
                rw [Nat.zero_add] at nb4
                refine wp_region_T_drew (S := (fun _ => Hid True)) 17 (by kernel_rfl) ?_ (fun hD0 => ?_)
                · (try dsimp only); first | exact hide trivial
                refine takeT (v := ?_) 0 rfl (by kernel_rfl) (by kernel_rfl) (by kernel_rfl) (by kernel_rfl) (fun _ _ _ h => h) (Or.inl ⟨by rfl, ?_⟩) (by assumption) ?_; rotate_left
                · (intro w hSw; (try dsimp only at hSw); go_simp; try with_reducible rfl)
                try simp only [Act.put, zl, z0, z1]
                refine takeT (v := ?_) 1 rfl (by kernel_rfl) (by kernel_rfl) (by kernel_rfl) (by kernel_rfl) (fun _ _ _ h => h) (Or.inl ⟨by rfl, ?_⟩) (by assumption) ?_; rotate_left
                · (intro w hSw; (try dsimp only at hSw); go_simp; try with_reducible rfl)
                try simp only [Act.put, zl, z0, z1]
                refine takeT (v := ?_) 2 rfl (by kernel_rfl) (by kernel_rfl) (by kernel_rfl) (by kernel_rfl) (fun _ _ _ h => h) (Or.inl ⟨by rfl, ?_⟩) (by assumption) ?_; rotate_left
                · (intro w hSw; (try dsimp only at hSw); go_simp; try with_reducible rfl)
                try simp only [Act.put, zl, z0, z1]
                refine takeT (v := ?_) 3 rfl (by kernel_rfl) (by kernel_rfl) (by kernel_rfl) (by kernel_rfl) (fun _ _ _ h => h) (Or.inl ⟨by rfl, ?_⟩) (by assumption) ?_; rotate_left
                · (intro w hSw; (try dsimp only at hSw); go_simp; try with_reducible rfl)
                try simp only [Act.put, zl, z0, z1]
                refine takeT (v := ?_) 4 rfl (by kernel_rfl) (by kernel_rfl) (by kernel_rfl) (by kernel_rfl) (fun _ _ _ h => h) (Or.inl ⟨by rfl, ?_⟩) (by assumption) ?_; rotate_left
                · (intro w hSw; (try dsimp only at hSw); go_simp; try with_reducible rfl)
                try simp only [Act.put, zl, z0, z1]
                refine takeT (v := ?_) 5 rfl (by kernel_rfl) (by kernel_rfl) (by kernel_rfl) (by kernel_rfl) (fun _ _ _ h => h) (Or.inl ⟨by rfl, ?_⟩) (by assumption) ?_; rotate_left
                · (intro w hSw; (try dsimp only at hSw); go_simp; try with_reducible rfl)
                try simp only [Act.put, zl, z0, z1]
                refine takeT (v := ?_) 6 rfl (by kernel_rfl) (by kernel_rfl) (by kernel_rfl) (by kernel_rfl) (fun _ _ _ h => h) (Or.inl ⟨by rfl, ?_⟩) (by assumption) ?_; rotate_left
                · (intro w hSw; (try dsimp only at hSw); go_simp; try with_reducible rfl)
                try simp only [Act.put, zl, z0, z1]
                refine takeT (v := ?_) 7 rfl (by kernel_rfl) (by kernel_rfl) (by kernel_rfl) (by kernel_rfl) (fun _ _ _ h => h) (Or.inl ⟨by rfl, ?_⟩) (by assumption) ?_; rotate_left
                · (intro w hSw; (try dsimp only at hSw); go_simp; try with_reducible rfl)
                try simp only [Act.put, zl, z0, z1]
                refine takeT (v := ?_) 8 rfl (by kernel_rfl) (by kernel_rfl) (by kernel_rfl) (by kernel_rfl) (fun _ _ _ h => h) (Or.inl ⟨by rfl, ?_⟩) (by assumption) ?_; rotate_left
                · (intro w hSw; (try dsimp only at hSw); go_simp; try with_reducible rfl)
                try simp only [Act.put, zl, z0, z1]
                refine takeT (v := ?_) 10 rfl (by kernel_rfl) (by kernel_rfl) (by kernel_rfl) (by kernel_rfl) (fun _ _ _ h => h) (Or.inl ⟨by rfl, ?_⟩) (by assumption) ?_; rotate_left
                · (intro w hSw; (try dsimp only at hSw); go_simp; try with_reducible rfl)
                try simp only [Act.put, zl, z0, z1]
                refine takeT (v := ?_) 11 rfl (by kernel_rfl) (by kernel_rfl) (by kernel_rfl) (by kernel_rfl) (fun _ _ _ h => h) (Or.inl ⟨by rfl, ?_⟩) (by assumption) ?_; rotate_left
                · (intro w hSw; (try dsimp only at hSw); go_simp; try with_reducible rfl)
                try simp only [Act.put, zl, z0, z1]
                refine takeT (v := ?_) 12 rfl (by kernel_rfl) (by kernel_rfl) (by kernel_rfl) (by kernel_rfl) (fun _ _ _ h => h) (Or.inl ⟨by rfl, ?_⟩) (by assumption) ?_; rotate_left
                · (intro w hSw; (try dsimp only at hSw); go_simp; try with_reducible rfl)
                try simp only [Act.put, zl, z0, z1]
                refine wpAnyT_ready (rs := [9, 13]) (by kernel_rfl) (by simp) ?_; refine consT 9 rfl (fun K hK => ?_) ?_; go_simp
                refine hK.out _ _ ?_ (fun hD1 => ?_)
                · (try dsimp only); first | exact hD0 | (first | exact hide trivial)
                clear hK K hD0; try simp only [Act.put, zl, z0, z1]
                refine wpAnyT_ready (rs := [13]) (by kernel_rfl) (by simp) ?_; refine consT 13 rfl (fun K hK => ?_) AllReadyT.nil; go_simp
                refine hK.out _ _ ?_ (fun hD2 => ?_)
                · (try dsimp only); first | exact hD1 | (first | exact hide trivial)
                clear hK K hD1; try simp only [Act.put, zl, z0, z1]
                refine takeT (v := ?_) 14 rfl (by kernel_rfl) (by kernel_rfl) (by kernel_rfl) (by kernel_rfl) (fun _ _ _ h => h) (Or.inl ⟨by rfl, ?_⟩) (by assumption) ?_; rotate_left
                · (intro w hSw; (try dsimp only at hSw); go_simp; try with_reducible rfl)
                try simp only [Act.put, zl, z0, z1]
                refine wpAnyT_ready (rs := [15]) (by kernel_rfl) (by simp) ?_; refine consT 15 rfl (fun K hK => ?_) AllReadyT.nil
                (refine step_store_mid rfl 40 (.tmp 104) (.tmp 99) rfl g ((j + 1) * 5) (nc na).toArray rfl rfl HTH1.out ntSize (nc_one na) ?_; refine cap_gen (K := K) (fun W1 hW1 => ?_); have HO5 := hide (show W1.ownsRow w.heap.size 40 5 (.slice (some ⟨g, 0, none⟩) (m + 1) c7) (m + 1) (flatN (ms.set (j + 1) na)) by rw [hW1]; exact own_set5 (show wr.drew.ownsRow w.heap.size 40 5 (.slice (some ⟨g, 0, none⟩) (m + 1) c7) (m + 1) (flatN ms) from HOW.out) HLM.out (j + 1) na); have HG5 := hide (show wr.drew.grownBy W1 (some g) by rw [hW1]; exact grown_set5 wr.drew g ((j + 1) * 5) na); clear hW1)
                refine hK.out _ _ ?_ (fun hD3 => ?_)
                · (try dsimp only); first | exact hide trivial
                clear hK K hD2; try simp only [Act.put, zl, z0, z1]
                refine takeT (v := ?_) 16 rfl (by kernel_rfl) (by kernel_rfl) (by kernel_rfl) (by kernel_rfl) (fun _ _ _ h => h) (Or.inl ⟨by rfl, ?_⟩) (by assumption) ?_; rotate_left
                · (intro w hSw; (try dsimp only at hSw); go_simp; try with_reducible rfl)
                try simp only [Act.put, zl, z0, z1]
                refine wpAnyT_ready (rs := [17]) (by kernel_rfl) (by simp) ?_
                refine lastT rfl (fun K hK => ?_)
                (try dsimp only at hD3)
                (refine step_store_mid rfl 40 (.tmp 105) (.tmp 103) rfl g (j * 5) (nc nb').toArray rfl rfl (own_there HO5.out (by omega)) ntSize (nc_one nb') ?_; refine cap_gen (K := K) (fun W2 hW2 => ?_); have HO6 := hide (show W2.ownsRow w.heap.size 40 5 (.slice (some ⟨g, 0, none⟩) (m + 1) c7) (m + 1) (flatN ((ms.set (j + 1) na).set j nb')) by rw [hW2]; exact own_set5 HO5.out (by rw [List.length_set]; exact HLM.out) j nb'); have HG6 := hide (show W1.grownBy W2 (some g) by rw [hW2]; exact grown_set5 W1 g (j * 5) nb'); clear hW2)
                refine hK.out _ _ ?_
                clear hK K
                try simp only [Act.put, zl, z0, z1]
                refine wpAnyT_done (by kernel_rfl) ?_ _
                rotate_left 1
                refine consT 13 rfl (fun K hK => ?_) AllReadyT.nil
                go_simp
                refine hK.out _ _ ?_ (fun hD1 => ?_)
                · (try dsimp only); first | exact hD0 | (first | exact hide trivial)
                clear hK K hD0; try simp only [Act.put, zl, z0, z1]
                refine wpAnyT_ready (rs := [9]) (by kernel_rfl) (by simp) ?_; refine consT 9 rfl (fun K hK => ?_) AllReadyT.nil; go_simp
                refine hK.out _ _ ?_ (fun hD2 => ?_)
                · (try dsimp only); first | exact hD1 | (first | exact hide trivial)
                clear hK K hD1; try simp only [Act.put, zl, z0, z1]
                refine takeT (v := ?_) 14 rfl (by kernel_rfl) (by kernel_rfl) (by kernel_rfl) (by kernel_rfl) (fun _ _ _ h => h) (Or.inl ⟨by rfl, ?_⟩) (by assumption) ?_; rotate_left
                · (intro w hSw; (try dsimp only at hSw); go_simp; try with_reducible rfl)
                try simp only [Act.put, zl, z0, z1]
                refine wpAnyT_ready (rs := [15]) (by kernel_rfl) (by simp) ?_; refine consT 15 rfl (fun K hK => ?_) AllReadyT.nil
                (refine step_store_mid rfl 40 (.tmp 104) (.tmp 99) rfl g ((j + 1) * 5) (nc na).toArray rfl rfl HTH1.out ntSize (nc_one na) ?_; refine cap_gen (K := K) (fun W1 hW1 => ?_); have HO5 := hide (show W1.ownsRow w.heap.size 40 5 (.slice (some ⟨g, 0, none⟩) (m + 1) c7) (m + 1) (flatN (ms.set (j + 1) na)) by rw [hW1]; exact own_set5 (show wr.drew.ownsRow w.heap.size 40 5 (.slice (some ⟨g, 0, none⟩) (m + 1) c7) (m + 1) (flatN ms) from HOW.out) HLM.out (j + 1) na); have HG5 := hide (show wr.drew.grownBy W1 (some g) by rw [hW1]; exact grown_set5 wr.drew g ((j + 1) * 5) na); clear hW1)
                refine hK.out _ _ ?_ (fun hD3 => ?_)
                · (try dsimp only); first | exact hide trivial
                clear hK K hD2; try simp only [Act.put, zl, z0, z1]
                refine takeT (v := ?_) 16 rfl (by kernel_rfl) (by kernel_rfl) (by kernel_rfl) (by kernel_rfl) (fun _ _ _ h => h) (Or.inl ⟨by rfl, ?_⟩) (by assumption) ?_; rotate_left
                · (intro w hSw; (try dsimp only at hSw); go_simp; try with_reducible rfl)
                try simp only [Act.put, zl, z0, z1]
                refine wpAnyT_ready (rs := [17]) (by kernel_rfl) (by simp) ?_
                refine lastT rfl (fun K hK => ?_)
                (try dsimp only at hD3)
                (refine step_store_mid rfl 40 (.tmp 105) (.tmp 103) rfl g (j * 5) (nc nb').toArray rfl rfl (own_there HO5.out (by omega)) ntSize (nc_one nb') ?_; refine cap_gen (K := K) (fun W2 hW2 => ?_); have HO6 := hide (show W2.ownsRow w.heap.size 40 5 (.slice (some ⟨g, 0, none⟩) (m + 1) c7) (m + 1) (flatN ((ms.set (j + 1) na).set j nb')) by rw [hW2]; exact own_set5 HO5.out (by rw [List.length_set]; exact HLM.out) j nb'); have HG6 := hide (show W1.grownBy W2 (some g) by rw [hW2]; exact grown_set5 W1 g (j * 5) nb'); clear hW2)
                refine hK.out _ _ ?_
                clear hK K
                try simp only [Act.put, zl, z0, z1]
                refine wpAnyT_done (by kernel_rfl) ?_ _
                all_goals focus
                  (try dsimp only [Exit.inBlock, Exit.then])
                  clear na0 na1 na2 na3 na4 nb0 nb1 nb2 nb3 nb4
                  have HR5 := hide (HR4.out.drew.trans (grown_below (B := w.heap.size) (gr_trans HG5.out HG6.out) HR4.out.drew.size (fun q hq => by have h1 := Option.some.inj hq; have h2 := (HOW.out.lt g rfl).1; omega)))
                  go_wp2_with fail
                  go_roundw
                  case rel => exact ⟨j, by omega, by omega, rfl, hide (by rw [← E.tswap outs x j hjl na nb' (by rw [← HMS.out]; exact Hna.out) (by rw [← HMS.out]; exact Hnb'.out), ← HMS.out]; exact HO6.out), HR5⟩
                  case measure => simp [intOf]; omega
          · go_wp2_with fail
            go_roundw
            case rel => exact ⟨i + 1, A2, m, c2, outs, by omega, rfl, by go_num, HOL, hide (by rw [HTK.out, List.foldl_append, ← HOE.out]; show _ = E.tins outs x; unfold E.tins; rw [if_pos HTWN.out.symm]), HO, HBR⟩
            case measure => simp [intOf]; omega
        · obtain ⟨k, rfl⟩ : ∃ k, kn = k + 1 := ⟨kn - 1, by omega⟩
          obtain ⟨y, hy⟩ : ∃ q, outs[k]? = some q := ⟨_, List.getElem?_eq_getElem (by have := HOL.out; omega)⟩
          have HY := hide hy
          clear hy hk0
          have hkm : k < m := by omega
          rw [show (((k + 1 : Nat) : Int) - 1) = (k : Int) from by omega]
          have hk0 : (0 : Int) ≤ (k : Int) := by omega
          have hk1 : (k : Int) < (m : Int) := by omega
          have hkw : IntKind.i64.wrap ((k : Int) - 1) = (k : Int) - 1 := IntWalk.i64_in _ (by omega)
          cases tw
          · obtain ⟨tw', htw'⟩ : ∃ q, decide (y = x) = q := ⟨_, rfl⟩
            have HTW' := hide (show (decide (y = x) || false) = tw' by rw [htw']; cases tw' <;> rfl)
            have PE := hide htw'
            clear htw'
            go_upto_region 9 with fail
            obtain ⟨V, hV⟩ : ∃ V, (wr).drew = V := ⟨_, rfl⟩
            have HB4 := hide (show Below w.heap.size w V by rw [← hV]; exact zbD HBR.out)
            have HOV := hide (show V.ownsRow w.heap.size 40 5 (.slice A2 m c2) m (flatN outs) by rw [← hV]; exact HO.out)
            obtain ⟨bl, ol, hAl, _, xc0, xc1, xc2, xc3, xc4⟩ := (HR.out.below HB4.out) i x HX.out
            subst hAl
            obtain ⟨bq, oq, hAq, _, yc0, yc1, yc2, yc3, yc4⟩ := (owns_RdN HOV.out HOL.out) k y HY.out
            subst hAq
            refine wp_region_still_lit (by kernel_rfl) (by kernel_rfl) ?_
            change wpStill _ _ (wr).drew (fun a' => Exit.then _ _ Exit.normal a' (wr).drew) _ _
            rw [hV]
            clear hV
            with_reducible refine stTake (v := ?_) (by kernel_rfl) ?_ ?_; rotate_left
            · (go_simp; (try with_reducible rfl))
            (try simp only [Act.put, zl, List.set_cons_zero, List.set_cons_succ])
            with_reducible refine stTake (v := ?_) (by kernel_rfl) ?_ ?_; rotate_left
            · (go_simp; (try with_reducible rfl))
            (try simp only [Act.put, zl, List.set_cons_zero, List.set_cons_succ])
            with_reducible refine stTake (v := ?_) (by kernel_rfl) ?_ ?_; rotate_left
            · (go_simp; (try with_reducible rfl))
            (try simp only [Act.put, zl, List.set_cons_zero, List.set_cons_succ])
            with_reducible refine stTake (v := ?_) (by kernel_rfl) ?_ ?_; rotate_left
            · (go_simp; (try with_reducible rfl))
            (try simp only [Act.put, zl, List.set_cons_zero, List.set_cons_succ])
            with_reducible refine stTake (v := ?_) (by kernel_rfl) ?_ ?_; rotate_left
            · (go_simp; (try with_reducible rfl))
            (try simp only [Act.put, zl, List.set_cons_zero, List.set_cons_succ])
            with_reducible refine stTake (v := ?_) (by kernel_rfl) ?_ ?_; rotate_left
            · (go_simp; (try with_reducible rfl))
            (try simp only [Act.put, zl, List.set_cons_zero, List.set_cons_succ])
            with_reducible refine stTake (v := ?_) (by kernel_rfl) ?_ ?_; rotate_left
            · (go_simp; (try with_reducible rfl))
            (try simp only [Act.put, zl, List.set_cons_zero, List.set_cons_succ])
            with_reducible refine stTake (v := ?_) (by kernel_rfl) ?_ ?_; rotate_left
            · (go_simp; (try with_reducible rfl))
            (try simp only [Act.put, zl, List.set_cons_zero, List.set_cons_succ])
            with_reducible refine stTake (v := ?_) (by kernel_rfl) ?_ ?_; rotate_left
            · (go_simp; (try with_reducible rfl))
            (try simp only [Act.put, zl, List.set_cons_zero, List.set_cons_succ])
            with_reducible refine stTake (v := ?_) (by kernel_rfl) ?_ ?_; rotate_left
            · (go_simp; (try with_reducible rfl))
            (try simp only [Act.put, zl, List.set_cons_zero, List.set_cons_succ])
            with_reducible refine stTake (v := ?_) (by kernel_rfl) ?_ ?_; rotate_left
            · (go_simp; (try with_reducible rfl))
            (try simp only [Act.put, zl, List.set_cons_zero, List.set_cons_succ])
            with_reducible refine stTake (v := ?_) (by kernel_rfl) ?_ ?_; rotate_left
            · (go_simp; (try with_reducible rfl))
            (try simp only [Act.put, zl, List.set_cons_zero, List.set_cons_succ])
            with_reducible refine stTake (v := ?_) (by kernel_rfl) ?_ ?_; rotate_left
            · (go_simp; (try with_reducible rfl))
            (try simp only [Act.put, zl, List.set_cons_zero, List.set_cons_succ])
            refine wpStill_nil ?_
            (try simp only [PE.out])
            go_upto_region 10 with fail
            clear xc0 xc1 xc2 xc3 xc4 yc0 yc1 yc2 yc3 yc4
            obtain ⟨a1, hba1⟩ : ∃ b, decide (x.hour < y.hour) = b := ⟨_, rfl⟩
            have Pa1 := hide hba1
            have Pa1' := hide (show decide (x.hour < y.hour) = a1 from hba1)
            clear hba1
            cases a1
            · obtain ⟨a2, hba2⟩ : ∃ b, decide (x.hour = y.hour) = b := ⟨_, rfl⟩
              have Pa2 := hide hba2
              have Pa2' := hide (show (x.hour == y.hour) = a2 from hba2)
              clear hba2
              cases a2
              · obtain ⟨V2, hV⟩ : ∃ V2, (V).drew = V2 := ⟨_, rfl⟩
                have HB5 := hide (show Below w.heap.size w V2 by rw [← hV]; exact zbD HB4.out)
                have HOV2 := hide (show V2.ownsRow w.heap.size 40 5 (.slice (some ⟨bq, oq, none⟩) m c2) m (flatN outs) by rw [← hV]; exact HOV.out)
                obtain ⟨bl2, ol2, hAl2, _, xd0, xd1, xd2, xd3, xd4⟩ := (HR.out.below HB5.out) i x HX.out
                injection hAl2 with hAl2
                injection hAl2 with hl1 hl2
                subst hl1 hl2
                obtain ⟨bq2, oq2, hAq2, _, yd0, yd1, yd2, yd3, yd4⟩ := (owns_RdN HOV2.out HOL.out) k y HY.out
                injection hAq2 with hAq2
                injection hAq2 with hq1 hq2
                subst hq1 hq2
                refine wp_region_still_lit (by kernel_rfl) (by kernel_rfl) ?_
                change wpStill _ _ (V).drew (fun a' => Exit.then _ _ Exit.normal a' (V).drew) _ _
                rw [hV]
                clear hV
                with_reducible refine stTake (v := ?_) (by kernel_rfl) ?_ ?_; rotate_left
                · (go_simp; (try with_reducible rfl))
                (try simp only [Act.put, zl, List.set_cons_zero, List.set_cons_succ])
                with_reducible refine stTake (v := ?_) (by kernel_rfl) ?_ ?_; rotate_left
                · (go_simp; (try with_reducible rfl))
                (try simp only [Act.put, zl, List.set_cons_zero, List.set_cons_succ])
                with_reducible refine stTake (v := ?_) (by kernel_rfl) ?_ ?_; rotate_left
                · (go_simp; (try with_reducible rfl))
                (try simp only [Act.put, zl, List.set_cons_zero, List.set_cons_succ])
                with_reducible refine stTake (v := ?_) (by kernel_rfl) ?_ ?_; rotate_left
                · (go_simp; (try with_reducible rfl))
                (try simp only [Act.put, zl, List.set_cons_zero, List.set_cons_succ])
                with_reducible refine stTake (v := ?_) (by kernel_rfl) ?_ ?_; rotate_left
                · (go_simp; (try with_reducible rfl))
                (try simp only [Act.put, zl, List.set_cons_zero, List.set_cons_succ])
                with_reducible refine stTake (v := ?_) (by kernel_rfl) ?_ ?_; rotate_left
                · (go_simp; (try with_reducible rfl))
                (try simp only [Act.put, zl, List.set_cons_zero, List.set_cons_succ])
                with_reducible refine stTake (v := ?_) (by kernel_rfl) ?_ ?_; rotate_left
                · (go_simp; (try with_reducible rfl))
                (try simp only [Act.put, zl, List.set_cons_zero, List.set_cons_succ])
                with_reducible refine stTake (v := ?_) (by kernel_rfl) ?_ ?_; rotate_left
                · (go_simp; (try with_reducible rfl))
                (try simp only [Act.put, zl, List.set_cons_zero, List.set_cons_succ])
                with_reducible refine stTake (v := ?_) (by kernel_rfl) ?_ ?_; rotate_left
                · (go_simp; (try with_reducible rfl))
                (try simp only [Act.put, zl, List.set_cons_zero, List.set_cons_succ])
                with_reducible refine stTake (v := ?_) (by kernel_rfl) ?_ ?_; rotate_left
                · (go_simp; (try with_reducible rfl))
                (try simp only [Act.put, zl, List.set_cons_zero, List.set_cons_succ])
                with_reducible refine stTake (v := ?_) (by kernel_rfl) ?_ ?_; rotate_left
                · (go_simp; (try simp only [Pa1.out, Pa1'.out]); (try with_reducible rfl))
                (try simp only [Act.put, zl, List.set_cons_zero, List.set_cons_succ])
                with_reducible refine stTake (v := ?_) (by kernel_rfl) ?_ ?_; rotate_left
                · (go_simp; (try with_reducible rfl))
                (try simp only [Act.put, zl, List.set_cons_zero, List.set_cons_succ])
                with_reducible refine stTake (v := ?_) (by kernel_rfl) ?_ ?_; rotate_left
                · (go_simp; (try with_reducible rfl))
                (try simp only [Act.put, zl, List.set_cons_zero, List.set_cons_succ])
                with_reducible refine stTake (v := ?_) (by kernel_rfl) ?_ ?_; rotate_left
                · (go_simp; (try with_reducible rfl))
                (try simp only [Act.put, zl, List.set_cons_zero, List.set_cons_succ])
                with_reducible refine stTake (v := ?_) (by kernel_rfl) ?_ ?_; rotate_left
                · (go_simp; (try with_reducible rfl))
                (try simp only [Act.put, zl, List.set_cons_zero, List.set_cons_succ])
                with_reducible refine stTake (v := ?_) (by kernel_rfl) ?_ ?_; rotate_left
                · (go_simp; (try with_reducible rfl))
                (try simp only [Act.put, zl, List.set_cons_zero, List.set_cons_succ])
                with_reducible refine stTake (v := ?_) (by kernel_rfl) ?_ ?_; rotate_left
                · (go_simp; (try with_reducible rfl))
                (try simp only [Act.put, zl, List.set_cons_zero, List.set_cons_succ])
                with_reducible refine stTake (v := ?_) (by kernel_rfl) ?_ ?_; rotate_left
                · (go_simp; (try with_reducible rfl))
                (try simp only [Act.put, zl, List.set_cons_zero, List.set_cons_succ])
                with_reducible refine stTake (v := ?_) (by kernel_rfl) ?_ ?_; rotate_left
                · (go_simp; (try with_reducible rfl))
                (try simp only [Act.put, zl, List.set_cons_zero, List.set_cons_succ])
                with_reducible refine stTake (v := ?_) (by kernel_rfl) ?_ ?_; rotate_left
                · (go_simp; (try with_reducible rfl))
                (try simp only [Act.put, zl, List.set_cons_zero, List.set_cons_succ])
                with_reducible refine stTake (v := ?_) (by kernel_rfl) ?_ ?_; rotate_left
                · (go_simp; (try with_reducible rfl))
                (try simp only [Act.put, zl, List.set_cons_zero, List.set_cons_succ])
                with_reducible refine stTake (v := ?_) (by kernel_rfl) ?_ ?_; rotate_left
                · (go_simp; (try with_reducible rfl))
                (try simp only [Act.put, zl, List.set_cons_zero, List.set_cons_succ])
                with_reducible refine stTake (v := ?_) (by kernel_rfl) ?_ ?_; rotate_left
                · (go_simp; (try simp only [Pa2.out, Pa2'.out]); (try with_reducible rfl))
                (try simp only [Act.put, zl, List.set_cons_zero, List.set_cons_succ])
                with_reducible refine stTake (v := ?_) (by kernel_rfl) ?_ ?_; rotate_left
                · (go_simp; (try with_reducible rfl))
                (try simp only [Act.put, zl, List.set_cons_zero, List.set_cons_succ])
                with_reducible refine stSkip (by kernel_rfl) ?_
                (try simp only [Act.put, zl, List.set_cons_zero, List.set_cons_succ])
                with_reducible refine stSkip (by kernel_rfl) ?_
                (try simp only [Act.put, zl, List.set_cons_zero, List.set_cons_succ])
                with_reducible refine stSkip (by kernel_rfl) ?_
                (try simp only [Act.put, zl, List.set_cons_zero, List.set_cons_succ])
                with_reducible refine stSkip (by kernel_rfl) ?_
                (try simp only [Act.put, zl, List.set_cons_zero, List.set_cons_succ])
                with_reducible refine stSkip (by kernel_rfl) ?_
                (try simp only [Act.put, zl, List.set_cons_zero, List.set_cons_succ])
                with_reducible refine stSkip (by kernel_rfl) ?_
                (try simp only [Act.put, zl, List.set_cons_zero, List.set_cons_succ])
                with_reducible refine stSkip (by kernel_rfl) ?_
                (try simp only [Act.put, zl, List.set_cons_zero, List.set_cons_succ])
                with_reducible refine stSkip (by kernel_rfl) ?_
                (try simp only [Act.put, zl, List.set_cons_zero, List.set_cons_succ])
                with_reducible refine stSkip (by kernel_rfl) ?_
                (try simp only [Act.put, zl, List.set_cons_zero, List.set_cons_succ])
                with_reducible refine stSkip (by kernel_rfl) ?_
                (try simp only [Act.put, zl, List.set_cons_zero, List.set_cons_succ])
                with_reducible refine stSkip (by kernel_rfl) ?_
                (try simp only [Act.put, zl, List.set_cons_zero, List.set_cons_succ])
                with_reducible refine stTake (v := ?_) (by kernel_rfl) ?_ ?_; rotate_left
                · (go_simp; (try with_reducible rfl))
                (try simp only [Act.put, zl, List.set_cons_zero, List.set_cons_succ])
                with_reducible refine stTake (v := ?_) (by kernel_rfl) ?_ ?_; rotate_left
                · (go_simp; (try with_reducible rfl))
                (try simp only [Act.put, zl, List.set_cons_zero, List.set_cons_succ])
                refine wpStill_nil ?_
                have hbf : E.tbef x y = false := by unfold E.tbef; rw [Pa1.out, Pa2.out]; rfl
                clear xd0 xd1 xd2 xd3 xd4 yd0 yd1 yd2 yd3 yd4
                go_wp2_with fail
                go_roundw
                case rel => exact ⟨k, a, tw', by omega, rfl, rfl, rfl, hide (by rw [E.tscan HY.out, hbf]; exact HAT.out), hide (by rw [E.tscan_mem HY.out, ← HTW.out, HTW'.out]), HOV2, HB5⟩
                case measure => simp [intOf]
              · obtain ⟨a3, hba3⟩ : ∃ b, decide (x.id < y.id) = b := ⟨_, rfl⟩
                have Pa3 := hide hba3
                have Pa3' := hide (show decide (x.id < y.id) = a3 from hba3)
                clear hba3
                cases a3
                · obtain ⟨V2, hV⟩ : ∃ V2, (V).drew = V2 := ⟨_, rfl⟩
                  have HB5 := hide (show Below w.heap.size w V2 by rw [← hV]; exact zbD HB4.out)
                  have HOV2 := hide (show V2.ownsRow w.heap.size 40 5 (.slice (some ⟨bq, oq, none⟩) m c2) m (flatN outs) by rw [← hV]; exact HOV.out)
                  obtain ⟨bl2, ol2, hAl2, _, xd0, xd1, xd2, xd3, xd4⟩ := (HR.out.below HB5.out) i x HX.out
                  injection hAl2 with hAl2
                  injection hAl2 with hl1 hl2
                  subst hl1 hl2
                  obtain ⟨bq2, oq2, hAq2, _, yd0, yd1, yd2, yd3, yd4⟩ := (owns_RdN HOV2.out HOL.out) k y HY.out
                  injection hAq2 with hAq2
                  injection hAq2 with hq1 hq2
                  subst hq1 hq2
                  refine wp_region_still_lit (by kernel_rfl) (by kernel_rfl) ?_
                  change wpStill _ _ (V).drew (fun a' => Exit.then _ _ Exit.normal a' (V).drew) _ _
                  rw [hV]
                  clear hV
                  with_reducible refine stTake (v := ?_) (by kernel_rfl) ?_ ?_; rotate_left
                  · (go_simp; (try with_reducible rfl))
                  (try simp only [Act.put, zl, List.set_cons_zero, List.set_cons_succ])
                  with_reducible refine stTake (v := ?_) (by kernel_rfl) ?_ ?_; rotate_left
                  · (go_simp; (try with_reducible rfl))
                  (try simp only [Act.put, zl, List.set_cons_zero, List.set_cons_succ])
                  with_reducible refine stTake (v := ?_) (by kernel_rfl) ?_ ?_; rotate_left
                  · (go_simp; (try with_reducible rfl))
                  (try simp only [Act.put, zl, List.set_cons_zero, List.set_cons_succ])
                  with_reducible refine stTake (v := ?_) (by kernel_rfl) ?_ ?_; rotate_left
                  · (go_simp; (try with_reducible rfl))
                  (try simp only [Act.put, zl, List.set_cons_zero, List.set_cons_succ])
                  with_reducible refine stTake (v := ?_) (by kernel_rfl) ?_ ?_; rotate_left
                  · (go_simp; (try with_reducible rfl))
                  (try simp only [Act.put, zl, List.set_cons_zero, List.set_cons_succ])
                  with_reducible refine stTake (v := ?_) (by kernel_rfl) ?_ ?_; rotate_left
                  · (go_simp; (try with_reducible rfl))
                  (try simp only [Act.put, zl, List.set_cons_zero, List.set_cons_succ])
                  with_reducible refine stTake (v := ?_) (by kernel_rfl) ?_ ?_; rotate_left
                  · (go_simp; (try with_reducible rfl))
                  (try simp only [Act.put, zl, List.set_cons_zero, List.set_cons_succ])
                  with_reducible refine stTake (v := ?_) (by kernel_rfl) ?_ ?_; rotate_left
                  · (go_simp; (try with_reducible rfl))
                  (try simp only [Act.put, zl, List.set_cons_zero, List.set_cons_succ])
                  with_reducible refine stTake (v := ?_) (by kernel_rfl) ?_ ?_; rotate_left
                  · (go_simp; (try with_reducible rfl))
                  (try simp only [Act.put, zl, List.set_cons_zero, List.set_cons_succ])
                  with_reducible refine stTake (v := ?_) (by kernel_rfl) ?_ ?_; rotate_left
                  · (go_simp; (try with_reducible rfl))
                  (try simp only [Act.put, zl, List.set_cons_zero, List.set_cons_succ])
                  with_reducible refine stTake (v := ?_) (by kernel_rfl) ?_ ?_; rotate_left
                  · (go_simp; (try simp only [Pa1.out, Pa1'.out]); (try with_reducible rfl))
                  (try simp only [Act.put, zl, List.set_cons_zero, List.set_cons_succ])
                  with_reducible refine stTake (v := ?_) (by kernel_rfl) ?_ ?_; rotate_left
                  · (go_simp; (try with_reducible rfl))
                  (try simp only [Act.put, zl, List.set_cons_zero, List.set_cons_succ])
                  with_reducible refine stTake (v := ?_) (by kernel_rfl) ?_ ?_; rotate_left
                  · (go_simp; (try with_reducible rfl))
                  (try simp only [Act.put, zl, List.set_cons_zero, List.set_cons_succ])
                  with_reducible refine stTake (v := ?_) (by kernel_rfl) ?_ ?_; rotate_left
                  · (go_simp; (try with_reducible rfl))
                  (try simp only [Act.put, zl, List.set_cons_zero, List.set_cons_succ])
                  with_reducible refine stTake (v := ?_) (by kernel_rfl) ?_ ?_; rotate_left
                  · (go_simp; (try with_reducible rfl))
                  (try simp only [Act.put, zl, List.set_cons_zero, List.set_cons_succ])
                  with_reducible refine stTake (v := ?_) (by kernel_rfl) ?_ ?_; rotate_left
                  · (go_simp; (try with_reducible rfl))
                  (try simp only [Act.put, zl, List.set_cons_zero, List.set_cons_succ])
                  with_reducible refine stTake (v := ?_) (by kernel_rfl) ?_ ?_; rotate_left
                  · (go_simp; (try with_reducible rfl))
                  (try simp only [Act.put, zl, List.set_cons_zero, List.set_cons_succ])
                  with_reducible refine stTake (v := ?_) (by kernel_rfl) ?_ ?_; rotate_left
                  · (go_simp; (try with_reducible rfl))
                  (try simp only [Act.put, zl, List.set_cons_zero, List.set_cons_succ])
                  with_reducible refine stTake (v := ?_) (by kernel_rfl) ?_ ?_; rotate_left
                  · (go_simp; (try with_reducible rfl))
                  (try simp only [Act.put, zl, List.set_cons_zero, List.set_cons_succ])
                  with_reducible refine stTake (v := ?_) (by kernel_rfl) ?_ ?_; rotate_left
                  · (go_simp; (try with_reducible rfl))
                  (try simp only [Act.put, zl, List.set_cons_zero, List.set_cons_succ])
                  with_reducible refine stTake (v := ?_) (by kernel_rfl) ?_ ?_; rotate_left
                  · (go_simp; (try with_reducible rfl))
                  (try simp only [Act.put, zl, List.set_cons_zero, List.set_cons_succ])
                  with_reducible refine stTake (v := ?_) (by kernel_rfl) ?_ ?_; rotate_left
                  · (go_simp; (try with_reducible rfl))
                  (try simp only [Act.put, zl, List.set_cons_zero, List.set_cons_succ])
                  with_reducible refine stTake (v := ?_) (by kernel_rfl) ?_ ?_; rotate_left
                  · (go_simp; (try simp only [Pa2.out, Pa2'.out]); (try with_reducible rfl))
                  (try simp only [Act.put, zl, List.set_cons_zero, List.set_cons_succ])
                  with_reducible refine stTake (v := ?_) (by kernel_rfl) ?_ ?_; rotate_left
                  · (go_simp; (try with_reducible rfl))
                  (try simp only [Act.put, zl, List.set_cons_zero, List.set_cons_succ])
                  with_reducible refine stTake (v := ?_) (by kernel_rfl) ?_ ?_; rotate_left
                  · (go_simp; (try with_reducible rfl))
                  (try simp only [Act.put, zl, List.set_cons_zero, List.set_cons_succ])
                  with_reducible refine stTake (v := ?_) (by kernel_rfl) ?_ ?_; rotate_left
                  · (go_simp; (try with_reducible rfl))
                  (try simp only [Act.put, zl, List.set_cons_zero, List.set_cons_succ])
                  with_reducible refine stTake (v := ?_) (by kernel_rfl) ?_ ?_; rotate_left
                  · (go_simp; (try with_reducible rfl))
                  (try simp only [Act.put, zl, List.set_cons_zero, List.set_cons_succ])
                  with_reducible refine stTake (v := ?_) (by kernel_rfl) ?_ ?_; rotate_left
                  · (go_simp; (try with_reducible rfl))
                  (try simp only [Act.put, zl, List.set_cons_zero, List.set_cons_succ])
                  with_reducible refine stTake (v := ?_) (by kernel_rfl) ?_ ?_; rotate_left
                  · (go_simp; (try with_reducible rfl))
                  (try simp only [Act.put, zl, List.set_cons_zero, List.set_cons_succ])
                  with_reducible refine stTake (v := ?_) (by kernel_rfl) ?_ ?_; rotate_left
                  · (go_simp; (try with_reducible rfl))
                  (try simp only [Act.put, zl, List.set_cons_zero, List.set_cons_succ])
                  with_reducible refine stTake (v := ?_) (by kernel_rfl) ?_ ?_; rotate_left
                  · (go_simp; (try with_reducible rfl))
                  (try simp only [Act.put, zl, List.set_cons_zero, List.set_cons_succ])
                  with_reducible refine stTake (v := ?_) (by kernel_rfl) ?_ ?_; rotate_left
                  · (go_simp; (try with_reducible rfl))
                  (try simp only [Act.put, zl, List.set_cons_zero, List.set_cons_succ])
                  with_reducible refine stTake (v := ?_) (by kernel_rfl) ?_ ?_; rotate_left
                  · (go_simp; (try with_reducible rfl))
                  (try simp only [Act.put, zl, List.set_cons_zero, List.set_cons_succ])
                  with_reducible refine stTake (v := ?_) (by kernel_rfl) ?_ ?_; rotate_left
                  · (go_simp; (try with_reducible rfl))
                  (try simp only [Act.put, zl, List.set_cons_zero, List.set_cons_succ])
                  with_reducible refine stTake (v := ?_) (by kernel_rfl) ?_ ?_; rotate_left
                  · (go_simp; (try simp only [Pa3.out, Pa3'.out]); (try with_reducible rfl))
                  (try simp only [Act.put, zl, List.set_cons_zero, List.set_cons_succ])
                  with_reducible refine stTake (v := ?_) (by kernel_rfl) ?_ ?_; rotate_left
                  · (go_simp; (try with_reducible rfl))
                  (try simp only [Act.put, zl, List.set_cons_zero, List.set_cons_succ])
                  with_reducible refine stTake (v := ?_) (by kernel_rfl) ?_ ?_; rotate_left
                  · (go_simp; (try with_reducible rfl))
                  (try simp only [Act.put, zl, List.set_cons_zero, List.set_cons_succ])
                  refine wpStill_nil ?_
                  have hbf : E.tbef x y = false := by unfold E.tbef; rw [Pa1.out, Pa2.out, Pa3.out]; rfl
                  clear xd0 xd1 xd2 xd3 xd4 yd0 yd1 yd2 yd3 yd4
                  go_wp2_with fail
                  go_roundw
                  case rel => exact ⟨k, a, tw', by omega, rfl, rfl, rfl, hide (by rw [E.tscan HY.out, hbf]; exact HAT.out), hide (by rw [E.tscan_mem HY.out, ← HTW.out, HTW'.out]), HOV2, HB5⟩
                  case measure => simp [intOf]
                · obtain ⟨V2, hV⟩ : ∃ V2, (V).drew = V2 := ⟨_, rfl⟩
                  have HB5 := hide (show Below w.heap.size w V2 by rw [← hV]; exact zbD HB4.out)
                  have HOV2 := hide (show V2.ownsRow w.heap.size 40 5 (.slice (some ⟨bq, oq, none⟩) m c2) m (flatN outs) by rw [← hV]; exact HOV.out)
                  obtain ⟨bl2, ol2, hAl2, _, xd0, xd1, xd2, xd3, xd4⟩ := (HR.out.below HB5.out) i x HX.out
                  injection hAl2 with hAl2
                  injection hAl2 with hl1 hl2
                  subst hl1 hl2
                  obtain ⟨bq2, oq2, hAq2, _, yd0, yd1, yd2, yd3, yd4⟩ := (owns_RdN HOV2.out HOL.out) k y HY.out
                  injection hAq2 with hAq2
                  injection hAq2 with hq1 hq2
                  subst hq1 hq2
                  refine wp_region_still_lit (by kernel_rfl) (by kernel_rfl) ?_
                  change wpStill _ _ (V).drew (fun a' => Exit.then _ _ Exit.normal a' (V).drew) _ _
                  rw [hV]
                  clear hV
                  with_reducible refine stTake (v := ?_) (by kernel_rfl) ?_ ?_; rotate_left
                  · (go_simp; (try with_reducible rfl))
                  (try simp only [Act.put, zl, List.set_cons_zero, List.set_cons_succ])
                  with_reducible refine stTake (v := ?_) (by kernel_rfl) ?_ ?_; rotate_left
                  · (go_simp; (try with_reducible rfl))
                  (try simp only [Act.put, zl, List.set_cons_zero, List.set_cons_succ])
                  with_reducible refine stTake (v := ?_) (by kernel_rfl) ?_ ?_; rotate_left
                  · (go_simp; (try with_reducible rfl))
                  (try simp only [Act.put, zl, List.set_cons_zero, List.set_cons_succ])
                  with_reducible refine stTake (v := ?_) (by kernel_rfl) ?_ ?_; rotate_left
                  · (go_simp; (try with_reducible rfl))
                  (try simp only [Act.put, zl, List.set_cons_zero, List.set_cons_succ])
                  with_reducible refine stTake (v := ?_) (by kernel_rfl) ?_ ?_; rotate_left
                  · (go_simp; (try with_reducible rfl))
                  (try simp only [Act.put, zl, List.set_cons_zero, List.set_cons_succ])
                  with_reducible refine stTake (v := ?_) (by kernel_rfl) ?_ ?_; rotate_left
                  · (go_simp; (try with_reducible rfl))
                  (try simp only [Act.put, zl, List.set_cons_zero, List.set_cons_succ])
                  with_reducible refine stTake (v := ?_) (by kernel_rfl) ?_ ?_; rotate_left
                  · (go_simp; (try with_reducible rfl))
                  (try simp only [Act.put, zl, List.set_cons_zero, List.set_cons_succ])
                  with_reducible refine stTake (v := ?_) (by kernel_rfl) ?_ ?_; rotate_left
                  · (go_simp; (try with_reducible rfl))
                  (try simp only [Act.put, zl, List.set_cons_zero, List.set_cons_succ])
                  with_reducible refine stTake (v := ?_) (by kernel_rfl) ?_ ?_; rotate_left
                  · (go_simp; (try with_reducible rfl))
                  (try simp only [Act.put, zl, List.set_cons_zero, List.set_cons_succ])
                  with_reducible refine stTake (v := ?_) (by kernel_rfl) ?_ ?_; rotate_left
                  · (go_simp; (try with_reducible rfl))
                  (try simp only [Act.put, zl, List.set_cons_zero, List.set_cons_succ])
                  with_reducible refine stTake (v := ?_) (by kernel_rfl) ?_ ?_; rotate_left
                  · (go_simp; (try simp only [Pa1.out, Pa1'.out]); (try with_reducible rfl))
                  (try simp only [Act.put, zl, List.set_cons_zero, List.set_cons_succ])
                  with_reducible refine stTake (v := ?_) (by kernel_rfl) ?_ ?_; rotate_left
                  · (go_simp; (try with_reducible rfl))
                  (try simp only [Act.put, zl, List.set_cons_zero, List.set_cons_succ])
                  with_reducible refine stTake (v := ?_) (by kernel_rfl) ?_ ?_; rotate_left
                  · (go_simp; (try with_reducible rfl))
                  (try simp only [Act.put, zl, List.set_cons_zero, List.set_cons_succ])
                  with_reducible refine stTake (v := ?_) (by kernel_rfl) ?_ ?_; rotate_left
                  · (go_simp; (try with_reducible rfl))
                  (try simp only [Act.put, zl, List.set_cons_zero, List.set_cons_succ])
                  with_reducible refine stTake (v := ?_) (by kernel_rfl) ?_ ?_; rotate_left
                  · (go_simp; (try with_reducible rfl))
                  (try simp only [Act.put, zl, List.set_cons_zero, List.set_cons_succ])
                  with_reducible refine stTake (v := ?_) (by kernel_rfl) ?_ ?_; rotate_left
                  · (go_simp; (try with_reducible rfl))
                  (try simp only [Act.put, zl, List.set_cons_zero, List.set_cons_succ])
                  with_reducible refine stTake (v := ?_) (by kernel_rfl) ?_ ?_; rotate_left
                  · (go_simp; (try with_reducible rfl))
                  (try simp only [Act.put, zl, List.set_cons_zero, List.set_cons_succ])
                  with_reducible refine stTake (v := ?_) (by kernel_rfl) ?_ ?_; rotate_left
                  · (go_simp; (try with_reducible rfl))
                  (try simp only [Act.put, zl, List.set_cons_zero, List.set_cons_succ])
                  with_reducible refine stTake (v := ?_) (by kernel_rfl) ?_ ?_; rotate_left
                  · (go_simp; (try with_reducible rfl))
                  (try simp only [Act.put, zl, List.set_cons_zero, List.set_cons_succ])
                  with_reducible refine stTake (v := ?_) (by kernel_rfl) ?_ ?_; rotate_left
                  · (go_simp; (try with_reducible rfl))
                  (try simp only [Act.put, zl, List.set_cons_zero, List.set_cons_succ])
                  with_reducible refine stTake (v := ?_) (by kernel_rfl) ?_ ?_; rotate_left
                  · (go_simp; (try with_reducible rfl))
                  (try simp only [Act.put, zl, List.set_cons_zero, List.set_cons_succ])
                  with_reducible refine stTake (v := ?_) (by kernel_rfl) ?_ ?_; rotate_left
                  · (go_simp; (try with_reducible rfl))
                  (try simp only [Act.put, zl, List.set_cons_zero, List.set_cons_succ])
                  with_reducible refine stTake (v := ?_) (by kernel_rfl) ?_ ?_; rotate_left
                  · (go_simp; (try simp only [Pa2.out, Pa2'.out]); (try with_reducible rfl))
                  (try simp only [Act.put, zl, List.set_cons_zero, List.set_cons_succ])
                  with_reducible refine stTake (v := ?_) (by kernel_rfl) ?_ ?_; rotate_left
                  · (go_simp; (try with_reducible rfl))
                  (try simp only [Act.put, zl, List.set_cons_zero, List.set_cons_succ])
                  with_reducible refine stTake (v := ?_) (by kernel_rfl) ?_ ?_; rotate_left
                  · (go_simp; (try with_reducible rfl))
                  (try simp only [Act.put, zl, List.set_cons_zero, List.set_cons_succ])
                  with_reducible refine stTake (v := ?_) (by kernel_rfl) ?_ ?_; rotate_left
                  · (go_simp; (try with_reducible rfl))
                  (try simp only [Act.put, zl, List.set_cons_zero, List.set_cons_succ])
                  with_reducible refine stTake (v := ?_) (by kernel_rfl) ?_ ?_; rotate_left
                  · (go_simp; (try with_reducible rfl))
                  (try simp only [Act.put, zl, List.set_cons_zero, List.set_cons_succ])
                  with_reducible refine stTake (v := ?_) (by kernel_rfl) ?_ ?_; rotate_left
                  · (go_simp; (try with_reducible rfl))
                  (try simp only [Act.put, zl, List.set_cons_zero, List.set_cons_succ])
                  with_reducible refine stTake (v := ?_) (by kernel_rfl) ?_ ?_; rotate_left
                  · (go_simp; (try with_reducible rfl))
                  (try simp only [Act.put, zl, List.set_cons_zero, List.set_cons_succ])
                  with_reducible refine stTake (v := ?_) (by kernel_rfl) ?_ ?_; rotate_left
                  · (go_simp; (try with_reducible rfl))
                  (try simp only [Act.put, zl, List.set_cons_zero, List.set_cons_succ])
                  with_reducible refine stTake (v := ?_) (by kernel_rfl) ?_ ?_; rotate_left
                  · (go_simp; (try with_reducible rfl))
                  (try simp only [Act.put, zl, List.set_cons_zero, List.set_cons_succ])
                  with_reducible refine stTake (v := ?_) (by kernel_rfl) ?_ ?_; rotate_left
                  · (go_simp; (try with_reducible rfl))
                  (try simp only [Act.put, zl, List.set_cons_zero, List.set_cons_succ])
                  with_reducible refine stTake (v := ?_) (by kernel_rfl) ?_ ?_; rotate_left
                  · (go_simp; (try with_reducible rfl))
                  (try simp only [Act.put, zl, List.set_cons_zero, List.set_cons_succ])
                  with_reducible refine stTake (v := ?_) (by kernel_rfl) ?_ ?_; rotate_left
                  · (go_simp; (try with_reducible rfl))
                  (try simp only [Act.put, zl, List.set_cons_zero, List.set_cons_succ])
                  with_reducible refine stTake (v := ?_) (by kernel_rfl) ?_ ?_; rotate_left
                  · (go_simp; (try simp only [Pa3.out, Pa3'.out]); (try with_reducible rfl))
                  (try simp only [Act.put, zl, List.set_cons_zero, List.set_cons_succ])
                  with_reducible refine stTake (v := ?_) (by kernel_rfl) ?_ ?_; rotate_left
                  · (go_simp; (try with_reducible rfl))
                  (try simp only [Act.put, zl, List.set_cons_zero, List.set_cons_succ])
                  with_reducible refine stTake (v := ?_) (by kernel_rfl) ?_ ?_; rotate_left
                  · (go_simp; (try with_reducible rfl))
                  (try simp only [Act.put, zl, List.set_cons_zero, List.set_cons_succ])
                  refine wpStill_nil ?_
                  have hbf : E.tbef x y = true := by unfold E.tbef; rw [Pa1.out, Pa2.out, Pa3.out]; rfl
                  clear xd0 xd1 xd2 xd3 xd4 yd0 yd1 yd2 yd3 yd4
                  go_wp2_with fail
                  go_roundw
                  case rel => exact ⟨k, k, tw', by omega, rfl, rfl, rfl, hide (by rw [E.tscan HY.out, hbf]; rfl), hide (by rw [E.tscan_mem HY.out, ← HTW.out, HTW'.out]), HOV2, HB5⟩
                  case measure => simp [intOf]
            · obtain ⟨V2, hV⟩ : ∃ V2, (V).drew = V2 := ⟨_, rfl⟩
              have HB5 := hide (show Below w.heap.size w V2 by rw [← hV]; exact zbD HB4.out)
              have HOV2 := hide (show V2.ownsRow w.heap.size 40 5 (.slice (some ⟨bq, oq, none⟩) m c2) m (flatN outs) by rw [← hV]; exact HOV.out)
              obtain ⟨bl2, ol2, hAl2, _, xd0, xd1, xd2, xd3, xd4⟩ := (HR.out.below HB5.out) i x HX.out
              injection hAl2 with hAl2
              injection hAl2 with hl1 hl2
              subst hl1 hl2
              obtain ⟨bq2, oq2, hAq2, _, yd0, yd1, yd2, yd3, yd4⟩ := (owns_RdN HOV2.out HOL.out) k y HY.out
              injection hAq2 with hAq2
              injection hAq2 with hq1 hq2
              subst hq1 hq2
              refine wp_region_still_lit (by kernel_rfl) (by kernel_rfl) ?_
              change wpStill _ _ (V).drew (fun a' => Exit.then _ _ Exit.normal a' (V).drew) _ _
              rw [hV]
              clear hV
              with_reducible refine stTake (v := ?_) (by kernel_rfl) ?_ ?_; rotate_left
              · (go_simp; (try with_reducible rfl))
              (try simp only [Act.put, zl, List.set_cons_zero, List.set_cons_succ])
              with_reducible refine stTake (v := ?_) (by kernel_rfl) ?_ ?_; rotate_left
              · (go_simp; (try with_reducible rfl))
              (try simp only [Act.put, zl, List.set_cons_zero, List.set_cons_succ])
              with_reducible refine stTake (v := ?_) (by kernel_rfl) ?_ ?_; rotate_left
              · (go_simp; (try with_reducible rfl))
              (try simp only [Act.put, zl, List.set_cons_zero, List.set_cons_succ])
              with_reducible refine stTake (v := ?_) (by kernel_rfl) ?_ ?_; rotate_left
              · (go_simp; (try with_reducible rfl))
              (try simp only [Act.put, zl, List.set_cons_zero, List.set_cons_succ])
              with_reducible refine stTake (v := ?_) (by kernel_rfl) ?_ ?_; rotate_left
              · (go_simp; (try with_reducible rfl))
              (try simp only [Act.put, zl, List.set_cons_zero, List.set_cons_succ])
              with_reducible refine stTake (v := ?_) (by kernel_rfl) ?_ ?_; rotate_left
              · (go_simp; (try with_reducible rfl))
              (try simp only [Act.put, zl, List.set_cons_zero, List.set_cons_succ])
              with_reducible refine stTake (v := ?_) (by kernel_rfl) ?_ ?_; rotate_left
              · (go_simp; (try with_reducible rfl))
              (try simp only [Act.put, zl, List.set_cons_zero, List.set_cons_succ])
              with_reducible refine stTake (v := ?_) (by kernel_rfl) ?_ ?_; rotate_left
              · (go_simp; (try with_reducible rfl))
              (try simp only [Act.put, zl, List.set_cons_zero, List.set_cons_succ])
              with_reducible refine stTake (v := ?_) (by kernel_rfl) ?_ ?_; rotate_left
              · (go_simp; (try with_reducible rfl))
              (try simp only [Act.put, zl, List.set_cons_zero, List.set_cons_succ])
              with_reducible refine stTake (v := ?_) (by kernel_rfl) ?_ ?_; rotate_left
              · (go_simp; (try with_reducible rfl))
              (try simp only [Act.put, zl, List.set_cons_zero, List.set_cons_succ])
              with_reducible refine stTake (v := ?_) (by kernel_rfl) ?_ ?_; rotate_left
              · (go_simp; (try simp only [Pa1.out, Pa1'.out]); (try with_reducible rfl))
              (try simp only [Act.put, zl, List.set_cons_zero, List.set_cons_succ])
              with_reducible refine stTake (v := ?_) (by kernel_rfl) ?_ ?_; rotate_left
              · (go_simp; (try with_reducible rfl))
              (try simp only [Act.put, zl, List.set_cons_zero, List.set_cons_succ])
              with_reducible refine stSkip (by kernel_rfl) ?_
              (try simp only [Act.put, zl, List.set_cons_zero, List.set_cons_succ])
              with_reducible refine stSkip (by kernel_rfl) ?_
              (try simp only [Act.put, zl, List.set_cons_zero, List.set_cons_succ])
              with_reducible refine stSkip (by kernel_rfl) ?_
              (try simp only [Act.put, zl, List.set_cons_zero, List.set_cons_succ])
              with_reducible refine stSkip (by kernel_rfl) ?_
              (try simp only [Act.put, zl, List.set_cons_zero, List.set_cons_succ])
              with_reducible refine stSkip (by kernel_rfl) ?_
              (try simp only [Act.put, zl, List.set_cons_zero, List.set_cons_succ])
              with_reducible refine stSkip (by kernel_rfl) ?_
              (try simp only [Act.put, zl, List.set_cons_zero, List.set_cons_succ])
              with_reducible refine stSkip (by kernel_rfl) ?_
              (try simp only [Act.put, zl, List.set_cons_zero, List.set_cons_succ])
              with_reducible refine stSkip (by kernel_rfl) ?_
              (try simp only [Act.put, zl, List.set_cons_zero, List.set_cons_succ])
              with_reducible refine stSkip (by kernel_rfl) ?_
              (try simp only [Act.put, zl, List.set_cons_zero, List.set_cons_succ])
              with_reducible refine stSkip (by kernel_rfl) ?_
              (try simp only [Act.put, zl, List.set_cons_zero, List.set_cons_succ])
              with_reducible refine stSkip (by kernel_rfl) ?_
              (try simp only [Act.put, zl, List.set_cons_zero, List.set_cons_succ])
              with_reducible refine stSkip (by kernel_rfl) ?_
              (try simp only [Act.put, zl, List.set_cons_zero, List.set_cons_succ])
              with_reducible refine stSkip (by kernel_rfl) ?_
              (try simp only [Act.put, zl, List.set_cons_zero, List.set_cons_succ])
              with_reducible refine stSkip (by kernel_rfl) ?_
              (try simp only [Act.put, zl, List.set_cons_zero, List.set_cons_succ])
              with_reducible refine stSkip (by kernel_rfl) ?_
              (try simp only [Act.put, zl, List.set_cons_zero, List.set_cons_succ])
              with_reducible refine stSkip (by kernel_rfl) ?_
              (try simp only [Act.put, zl, List.set_cons_zero, List.set_cons_succ])
              with_reducible refine stSkip (by kernel_rfl) ?_
              (try simp only [Act.put, zl, List.set_cons_zero, List.set_cons_succ])
              with_reducible refine stSkip (by kernel_rfl) ?_
              (try simp only [Act.put, zl, List.set_cons_zero, List.set_cons_succ])
              with_reducible refine stSkip (by kernel_rfl) ?_
              (try simp only [Act.put, zl, List.set_cons_zero, List.set_cons_succ])
              with_reducible refine stSkip (by kernel_rfl) ?_
              (try simp only [Act.put, zl, List.set_cons_zero, List.set_cons_succ])
              with_reducible refine stSkip (by kernel_rfl) ?_
              (try simp only [Act.put, zl, List.set_cons_zero, List.set_cons_succ])
              with_reducible refine stSkip (by kernel_rfl) ?_
              (try simp only [Act.put, zl, List.set_cons_zero, List.set_cons_succ])
              with_reducible refine stSkip (by kernel_rfl) ?_
              (try simp only [Act.put, zl, List.set_cons_zero, List.set_cons_succ])
              with_reducible refine stSkip (by kernel_rfl) ?_
              (try simp only [Act.put, zl, List.set_cons_zero, List.set_cons_succ])
              with_reducible refine stTake (v := ?_) (by kernel_rfl) ?_ ?_; rotate_left
              · (go_simp; (try with_reducible rfl))
              (try simp only [Act.put, zl, List.set_cons_zero, List.set_cons_succ])
              refine wpStill_nil ?_
              have hbf : E.tbef x y = true := by unfold E.tbef; rw [Pa1.out]; rfl
              clear xd0 xd1 xd2 xd3 xd4 yd0 yd1 yd2 yd3 yd4
              go_wp2_with fail
              go_roundw
              case rel => exact ⟨k, k, tw', by omega, rfl, rfl, rfl, hide (by rw [E.tscan HY.out, hbf]; rfl), hide (by rw [E.tscan_mem HY.out, ← HTW.out, HTW'.out]), HOV2, HB5⟩
              case measure => simp [intOf]
          · obtain ⟨tw', htw'⟩ : ∃ q, (decide (y = x) || true) = q := ⟨_, rfl⟩
            have HTW' := hide htw'
            have htt : tw' = true := by rw [← htw']; cases decide (y = x) <;> rfl
            clear htw'
            subst htt
            go_upto_region 9 with fail
            obtain ⟨V, hV⟩ : ∃ V, (wr).drew = V := ⟨_, rfl⟩
            have HB4 := hide (show Below w.heap.size w V by rw [← hV]; exact zbD HBR.out)
            have HOV := hide (show V.ownsRow w.heap.size 40 5 (.slice A2 m c2) m (flatN outs) by rw [← hV]; exact HO.out)
            obtain ⟨bl, ol, hAl, _, xc0, xc1, xc2, xc3, xc4⟩ := (HR.out.below HB4.out) i x HX.out
            subst hAl
            obtain ⟨bq, oq, hAq, _, yc0, yc1, yc2, yc3, yc4⟩ := (owns_RdN HOV.out HOL.out) k y HY.out
            subst hAq
            refine wp_region_still_lit (by kernel_rfl) (by kernel_rfl) ?_
            change wpStill _ _ (wr).drew (fun a' => Exit.then _ _ Exit.normal a' (wr).drew) _ _
            rw [hV]
            clear hV
            with_reducible refine stTake (v := ?_) (by kernel_rfl) ?_ ?_; rotate_left
            · (go_simp; (try with_reducible rfl))
            (try simp only [Act.put, zl, List.set_cons_zero, List.set_cons_succ])
            with_reducible refine stTake (v := ?_) (by kernel_rfl) ?_ ?_; rotate_left
            · (go_simp; (try with_reducible rfl))
            (try simp only [Act.put, zl, List.set_cons_zero, List.set_cons_succ])
            with_reducible refine stSkip (by kernel_rfl) ?_
            (try simp only [Act.put, zl, List.set_cons_zero, List.set_cons_succ])
            with_reducible refine stSkip (by kernel_rfl) ?_
            (try simp only [Act.put, zl, List.set_cons_zero, List.set_cons_succ])
            with_reducible refine stSkip (by kernel_rfl) ?_
            (try simp only [Act.put, zl, List.set_cons_zero, List.set_cons_succ])
            with_reducible refine stSkip (by kernel_rfl) ?_
            (try simp only [Act.put, zl, List.set_cons_zero, List.set_cons_succ])
            with_reducible refine stSkip (by kernel_rfl) ?_
            (try simp only [Act.put, zl, List.set_cons_zero, List.set_cons_succ])
            with_reducible refine stSkip (by kernel_rfl) ?_
            (try simp only [Act.put, zl, List.set_cons_zero, List.set_cons_succ])
            with_reducible refine stSkip (by kernel_rfl) ?_
            (try simp only [Act.put, zl, List.set_cons_zero, List.set_cons_succ])
            with_reducible refine stSkip (by kernel_rfl) ?_
            (try simp only [Act.put, zl, List.set_cons_zero, List.set_cons_succ])
            with_reducible refine stSkip (by kernel_rfl) ?_
            (try simp only [Act.put, zl, List.set_cons_zero, List.set_cons_succ])
            with_reducible refine stTake (v := ?_) (by kernel_rfl) ?_ ?_; rotate_left
            · (go_simp; (try with_reducible rfl))
            (try simp only [Act.put, zl, List.set_cons_zero, List.set_cons_succ])
            with_reducible refine stTake (v := ?_) (by kernel_rfl) ?_ ?_; rotate_left
            · (go_simp; (try with_reducible rfl))
            (try simp only [Act.put, zl, List.set_cons_zero, List.set_cons_succ])
            refine wpStill_nil ?_
            go_upto_region 10 with fail
            clear xc0 xc1 xc2 xc3 xc4 yc0 yc1 yc2 yc3 yc4
            obtain ⟨a1, hba1⟩ : ∃ b, decide (x.hour < y.hour) = b := ⟨_, rfl⟩
            have Pa1 := hide hba1
            have Pa1' := hide (show decide (x.hour < y.hour) = a1 from hba1)
            clear hba1
            cases a1
            · obtain ⟨a2, hba2⟩ : ∃ b, decide (x.hour = y.hour) = b := ⟨_, rfl⟩
              have Pa2 := hide hba2
              have Pa2' := hide (show (x.hour == y.hour) = a2 from hba2)
              clear hba2
              cases a2
              · obtain ⟨V2, hV⟩ : ∃ V2, (V).drew = V2 := ⟨_, rfl⟩
                have HB5 := hide (show Below w.heap.size w V2 by rw [← hV]; exact zbD HB4.out)
                have HOV2 := hide (show V2.ownsRow w.heap.size 40 5 (.slice (some ⟨bq, oq, none⟩) m c2) m (flatN outs) by rw [← hV]; exact HOV.out)
                obtain ⟨bl2, ol2, hAl2, _, xd0, xd1, xd2, xd3, xd4⟩ := (HR.out.below HB5.out) i x HX.out
                injection hAl2 with hAl2
                injection hAl2 with hl1 hl2
                subst hl1 hl2
                obtain ⟨bq2, oq2, hAq2, _, yd0, yd1, yd2, yd3, yd4⟩ := (owns_RdN HOV2.out HOL.out) k y HY.out
                injection hAq2 with hAq2
                injection hAq2 with hq1 hq2
                subst hq1 hq2
                refine wp_region_still_lit (by kernel_rfl) (by kernel_rfl) ?_
                change wpStill _ _ (V).drew (fun a' => Exit.then _ _ Exit.normal a' (V).drew) _ _
                rw [hV]
                clear hV
                with_reducible refine stTake (v := ?_) (by kernel_rfl) ?_ ?_; rotate_left
                · (go_simp; (try with_reducible rfl))
                (try simp only [Act.put, zl, List.set_cons_zero, List.set_cons_succ])
                with_reducible refine stTake (v := ?_) (by kernel_rfl) ?_ ?_; rotate_left
                · (go_simp; (try with_reducible rfl))
                (try simp only [Act.put, zl, List.set_cons_zero, List.set_cons_succ])
                with_reducible refine stTake (v := ?_) (by kernel_rfl) ?_ ?_; rotate_left
                · (go_simp; (try with_reducible rfl))
                (try simp only [Act.put, zl, List.set_cons_zero, List.set_cons_succ])
                with_reducible refine stTake (v := ?_) (by kernel_rfl) ?_ ?_; rotate_left
                · (go_simp; (try with_reducible rfl))
                (try simp only [Act.put, zl, List.set_cons_zero, List.set_cons_succ])
                with_reducible refine stTake (v := ?_) (by kernel_rfl) ?_ ?_; rotate_left
                · (go_simp; (try with_reducible rfl))
                (try simp only [Act.put, zl, List.set_cons_zero, List.set_cons_succ])
                with_reducible refine stTake (v := ?_) (by kernel_rfl) ?_ ?_; rotate_left
                · (go_simp; (try with_reducible rfl))
                (try simp only [Act.put, zl, List.set_cons_zero, List.set_cons_succ])
                with_reducible refine stTake (v := ?_) (by kernel_rfl) ?_ ?_; rotate_left
                · (go_simp; (try with_reducible rfl))
                (try simp only [Act.put, zl, List.set_cons_zero, List.set_cons_succ])
                with_reducible refine stTake (v := ?_) (by kernel_rfl) ?_ ?_; rotate_left
                · (go_simp; (try with_reducible rfl))
                (try simp only [Act.put, zl, List.set_cons_zero, List.set_cons_succ])
                with_reducible refine stTake (v := ?_) (by kernel_rfl) ?_ ?_; rotate_left
                · (go_simp; (try with_reducible rfl))
                (try simp only [Act.put, zl, List.set_cons_zero, List.set_cons_succ])
                with_reducible refine stTake (v := ?_) (by kernel_rfl) ?_ ?_; rotate_left
                · (go_simp; (try with_reducible rfl))
                (try simp only [Act.put, zl, List.set_cons_zero, List.set_cons_succ])
                with_reducible refine stTake (v := ?_) (by kernel_rfl) ?_ ?_; rotate_left
                · (go_simp; (try simp only [Pa1.out, Pa1'.out]); (try with_reducible rfl))
                (try simp only [Act.put, zl, List.set_cons_zero, List.set_cons_succ])
                with_reducible refine stTake (v := ?_) (by kernel_rfl) ?_ ?_; rotate_left
                · (go_simp; (try with_reducible rfl))
                (try simp only [Act.put, zl, List.set_cons_zero, List.set_cons_succ])
                with_reducible refine stTake (v := ?_) (by kernel_rfl) ?_ ?_; rotate_left
                · (go_simp; (try with_reducible rfl))
                (try simp only [Act.put, zl, List.set_cons_zero, List.set_cons_succ])
                with_reducible refine stTake (v := ?_) (by kernel_rfl) ?_ ?_; rotate_left
                · (go_simp; (try with_reducible rfl))
                (try simp only [Act.put, zl, List.set_cons_zero, List.set_cons_succ])
                with_reducible refine stTake (v := ?_) (by kernel_rfl) ?_ ?_; rotate_left
                · (go_simp; (try with_reducible rfl))
                (try simp only [Act.put, zl, List.set_cons_zero, List.set_cons_succ])
                with_reducible refine stTake (v := ?_) (by kernel_rfl) ?_ ?_; rotate_left
                · (go_simp; (try with_reducible rfl))
                (try simp only [Act.put, zl, List.set_cons_zero, List.set_cons_succ])
                with_reducible refine stTake (v := ?_) (by kernel_rfl) ?_ ?_; rotate_left
                · (go_simp; (try with_reducible rfl))
                (try simp only [Act.put, zl, List.set_cons_zero, List.set_cons_succ])
                with_reducible refine stTake (v := ?_) (by kernel_rfl) ?_ ?_; rotate_left
                · (go_simp; (try with_reducible rfl))
                (try simp only [Act.put, zl, List.set_cons_zero, List.set_cons_succ])
                with_reducible refine stTake (v := ?_) (by kernel_rfl) ?_ ?_; rotate_left
                · (go_simp; (try with_reducible rfl))
                (try simp only [Act.put, zl, List.set_cons_zero, List.set_cons_succ])
                with_reducible refine stTake (v := ?_) (by kernel_rfl) ?_ ?_; rotate_left
                · (go_simp; (try with_reducible rfl))
                (try simp only [Act.put, zl, List.set_cons_zero, List.set_cons_succ])
                with_reducible refine stTake (v := ?_) (by kernel_rfl) ?_ ?_; rotate_left
                · (go_simp; (try with_reducible rfl))
                (try simp only [Act.put, zl, List.set_cons_zero, List.set_cons_succ])
                with_reducible refine stTake (v := ?_) (by kernel_rfl) ?_ ?_; rotate_left
                · (go_simp; (try with_reducible rfl))
                (try simp only [Act.put, zl, List.set_cons_zero, List.set_cons_succ])
                with_reducible refine stTake (v := ?_) (by kernel_rfl) ?_ ?_; rotate_left
                · (go_simp; (try simp only [Pa2.out, Pa2'.out]); (try with_reducible rfl))
                (try simp only [Act.put, zl, List.set_cons_zero, List.set_cons_succ])
                with_reducible refine stTake (v := ?_) (by kernel_rfl) ?_ ?_; rotate_left
                · (go_simp; (try with_reducible rfl))
                (try simp only [Act.put, zl, List.set_cons_zero, List.set_cons_succ])
                with_reducible refine stSkip (by kernel_rfl) ?_
                (try simp only [Act.put, zl, List.set_cons_zero, List.set_cons_succ])
                with_reducible refine stSkip (by kernel_rfl) ?_
                (try simp only [Act.put, zl, List.set_cons_zero, List.set_cons_succ])
                with_reducible refine stSkip (by kernel_rfl) ?_
                (try simp only [Act.put, zl, List.set_cons_zero, List.set_cons_succ])
                with_reducible refine stSkip (by kernel_rfl) ?_
                (try simp only [Act.put, zl, List.set_cons_zero, List.set_cons_succ])
                with_reducible refine stSkip (by kernel_rfl) ?_
                (try simp only [Act.put, zl, List.set_cons_zero, List.set_cons_succ])
                with_reducible refine stSkip (by kernel_rfl) ?_
                (try simp only [Act.put, zl, List.set_cons_zero, List.set_cons_succ])
                with_reducible refine stSkip (by kernel_rfl) ?_
                (try simp only [Act.put, zl, List.set_cons_zero, List.set_cons_succ])
                with_reducible refine stSkip (by kernel_rfl) ?_
                (try simp only [Act.put, zl, List.set_cons_zero, List.set_cons_succ])
                with_reducible refine stSkip (by kernel_rfl) ?_
                (try simp only [Act.put, zl, List.set_cons_zero, List.set_cons_succ])
                with_reducible refine stSkip (by kernel_rfl) ?_
                (try simp only [Act.put, zl, List.set_cons_zero, List.set_cons_succ])
                with_reducible refine stSkip (by kernel_rfl) ?_
                (try simp only [Act.put, zl, List.set_cons_zero, List.set_cons_succ])
                with_reducible refine stTake (v := ?_) (by kernel_rfl) ?_ ?_; rotate_left
                · (go_simp; (try with_reducible rfl))
                (try simp only [Act.put, zl, List.set_cons_zero, List.set_cons_succ])
                with_reducible refine stTake (v := ?_) (by kernel_rfl) ?_ ?_; rotate_left
                · (go_simp; (try with_reducible rfl))
                (try simp only [Act.put, zl, List.set_cons_zero, List.set_cons_succ])
                refine wpStill_nil ?_
                have hbf : E.tbef x y = false := by unfold E.tbef; rw [Pa1.out, Pa2.out]; rfl
                clear xd0 xd1 xd2 xd3 xd4 yd0 yd1 yd2 yd3 yd4
                go_wp2_with fail
                go_roundw
                case rel => exact ⟨k, a, true, by omega, rfl, rfl, rfl, hide (by rw [E.tscan HY.out, hbf]; exact HAT.out), hide (by rw [E.tscan_mem HY.out, ← HTW.out, HTW'.out]), HOV2, HB5⟩
                case measure => simp [intOf]
              · obtain ⟨a3, hba3⟩ : ∃ b, decide (x.id < y.id) = b := ⟨_, rfl⟩
                have Pa3 := hide hba3
                have Pa3' := hide (show decide (x.id < y.id) = a3 from hba3)
                clear hba3
                cases a3
                · obtain ⟨V2, hV⟩ : ∃ V2, (V).drew = V2 := ⟨_, rfl⟩
                  have HB5 := hide (show Below w.heap.size w V2 by rw [← hV]; exact zbD HB4.out)
                  have HOV2 := hide (show V2.ownsRow w.heap.size 40 5 (.slice (some ⟨bq, oq, none⟩) m c2) m (flatN outs) by rw [← hV]; exact HOV.out)
                  obtain ⟨bl2, ol2, hAl2, _, xd0, xd1, xd2, xd3, xd4⟩ := (HR.out.below HB5.out) i x HX.out
                  injection hAl2 with hAl2
                  injection hAl2 with hl1 hl2
                  subst hl1 hl2
                  obtain ⟨bq2, oq2, hAq2, _, yd0, yd1, yd2, yd3, yd4⟩ := (owns_RdN HOV2.out HOL.out) k y HY.out
                  injection hAq2 with hAq2
                  injection hAq2 with hq1 hq2
                  subst hq1 hq2
                  refine wp_region_still_lit (by kernel_rfl) (by kernel_rfl) ?_
                  change wpStill _ _ (V).drew (fun a' => Exit.then _ _ Exit.normal a' (V).drew) _ _
                  rw [hV]
                  clear hV
                  with_reducible refine stTake (v := ?_) (by kernel_rfl) ?_ ?_; rotate_left
                  · (go_simp; (try with_reducible rfl))
                  (try simp only [Act.put, zl, List.set_cons_zero, List.set_cons_succ])
                  with_reducible refine stTake (v := ?_) (by kernel_rfl) ?_ ?_; rotate_left
                  · (go_simp; (try with_reducible rfl))
                  (try simp only [Act.put, zl, List.set_cons_zero, List.set_cons_succ])
                  with_reducible refine stTake (v := ?_) (by kernel_rfl) ?_ ?_; rotate_left
                  · (go_simp; (try with_reducible rfl))
                  (try simp only [Act.put, zl, List.set_cons_zero, List.set_cons_succ])
                  with_reducible refine stTake (v := ?_) (by kernel_rfl) ?_ ?_; rotate_left
                  · (go_simp; (try with_reducible rfl))
                  (try simp only [Act.put, zl, List.set_cons_zero, List.set_cons_succ])
                  with_reducible refine stTake (v := ?_) (by kernel_rfl) ?_ ?_; rotate_left
                  · (go_simp; (try with_reducible rfl))
                  (try simp only [Act.put, zl, List.set_cons_zero, List.set_cons_succ])
                  with_reducible refine stTake (v := ?_) (by kernel_rfl) ?_ ?_; rotate_left
                  · (go_simp; (try with_reducible rfl))
                  (try simp only [Act.put, zl, List.set_cons_zero, List.set_cons_succ])
                  with_reducible refine stTake (v := ?_) (by kernel_rfl) ?_ ?_; rotate_left
                  · (go_simp; (try with_reducible rfl))
                  (try simp only [Act.put, zl, List.set_cons_zero, List.set_cons_succ])
                  with_reducible refine stTake (v := ?_) (by kernel_rfl) ?_ ?_; rotate_left
                  · (go_simp; (try with_reducible rfl))
                  (try simp only [Act.put, zl, List.set_cons_zero, List.set_cons_succ])
                  with_reducible refine stTake (v := ?_) (by kernel_rfl) ?_ ?_; rotate_left
                  · (go_simp; (try with_reducible rfl))
                  (try simp only [Act.put, zl, List.set_cons_zero, List.set_cons_succ])
                  with_reducible refine stTake (v := ?_) (by kernel_rfl) ?_ ?_; rotate_left
                  · (go_simp; (try with_reducible rfl))
                  (try simp only [Act.put, zl, List.set_cons_zero, List.set_cons_succ])
                  with_reducible refine stTake (v := ?_) (by kernel_rfl) ?_ ?_; rotate_left
                  · (go_simp; (try simp only [Pa1.out, Pa1'.out]); (try with_reducible rfl))
                  (try simp only [Act.put, zl, List.set_cons_zero, List.set_cons_succ])
                  with_reducible refine stTake (v := ?_) (by kernel_rfl) ?_ ?_; rotate_left
                  · (go_simp; (try with_reducible rfl))
                  (try simp only [Act.put, zl, List.set_cons_zero, List.set_cons_succ])
                  with_reducible refine stTake (v := ?_) (by kernel_rfl) ?_ ?_; rotate_left
                  · (go_simp; (try with_reducible rfl))
                  (try simp only [Act.put, zl, List.set_cons_zero, List.set_cons_succ])
                  with_reducible refine stTake (v := ?_) (by kernel_rfl) ?_ ?_; rotate_left
                  · (go_simp; (try with_reducible rfl))
                  (try simp only [Act.put, zl, List.set_cons_zero, List.set_cons_succ])
                  with_reducible refine stTake (v := ?_) (by kernel_rfl) ?_ ?_; rotate_left
                  · (go_simp; (try with_reducible rfl))
                  (try simp only [Act.put, zl, List.set_cons_zero, List.set_cons_succ])
                  with_reducible refine stTake (v := ?_) (by kernel_rfl) ?_ ?_; rotate_left
                  · (go_simp; (try with_reducible rfl))
                  (try simp only [Act.put, zl, List.set_cons_zero, List.set_cons_succ])
                  with_reducible refine stTake (v := ?_) (by kernel_rfl) ?_ ?_; rotate_left
                  · (go_simp; (try with_reducible rfl))
                  (try simp only [Act.put, zl, List.set_cons_zero, List.set_cons_succ])
                  with_reducible refine stTake (v := ?_) (by kernel_rfl) ?_ ?_; rotate_left
                  · (go_simp; (try with_reducible rfl))
                  (try simp only [Act.put, zl, List.set_cons_zero, List.set_cons_succ])
                  with_reducible refine stTake (v := ?_) (by kernel_rfl) ?_ ?_; rotate_left
                  · (go_simp; (try with_reducible rfl))
                  (try simp only [Act.put, zl, List.set_cons_zero, List.set_cons_succ])
                  with_reducible refine stTake (v := ?_) (by kernel_rfl) ?_ ?_; rotate_left
                  · (go_simp; (try with_reducible rfl))
                  (try simp only [Act.put, zl, List.set_cons_zero, List.set_cons_succ])
                  with_reducible refine stTake (v := ?_) (by kernel_rfl) ?_ ?_; rotate_left
                  · (go_simp; (try with_reducible rfl))
                  (try simp only [Act.put, zl, List.set_cons_zero, List.set_cons_succ])
                  with_reducible refine stTake (v := ?_) (by kernel_rfl) ?_ ?_; rotate_left
                  · (go_simp; (try with_reducible rfl))
                  (try simp only [Act.put, zl, List.set_cons_zero, List.set_cons_succ])
                  with_reducible refine stTake (v := ?_) (by kernel_rfl) ?_ ?_; rotate_left
                  · (go_simp; (try simp only [Pa2.out, Pa2'.out]); (try with_reducible rfl))
                  (try simp only [Act.put, zl, List.set_cons_zero, List.set_cons_succ])
                  with_reducible refine stTake (v := ?_) (by kernel_rfl) ?_ ?_; rotate_left
                  · (go_simp; (try with_reducible rfl))
                  (try simp only [Act.put, zl, List.set_cons_zero, List.set_cons_succ])
                  with_reducible refine stTake (v := ?_) (by kernel_rfl) ?_ ?_; rotate_left
                  · (go_simp; (try with_reducible rfl))
                  (try simp only [Act.put, zl, List.set_cons_zero, List.set_cons_succ])
                  with_reducible refine stTake (v := ?_) (by kernel_rfl) ?_ ?_; rotate_left
                  · (go_simp; (try with_reducible rfl))
                  (try simp only [Act.put, zl, List.set_cons_zero, List.set_cons_succ])
                  with_reducible refine stTake (v := ?_) (by kernel_rfl) ?_ ?_; rotate_left
                  · (go_simp; (try with_reducible rfl))
                  (try simp only [Act.put, zl, List.set_cons_zero, List.set_cons_succ])
                  with_reducible refine stTake (v := ?_) (by kernel_rfl) ?_ ?_; rotate_left
                  · (go_simp; (try with_reducible rfl))
                  (try simp only [Act.put, zl, List.set_cons_zero, List.set_cons_succ])
                  with_reducible refine stTake (v := ?_) (by kernel_rfl) ?_ ?_; rotate_left
                  · (go_simp; (try with_reducible rfl))
                  (try simp only [Act.put, zl, List.set_cons_zero, List.set_cons_succ])
                  with_reducible refine stTake (v := ?_) (by kernel_rfl) ?_ ?_; rotate_left
                  · (go_simp; (try with_reducible rfl))
                  (try simp only [Act.put, zl, List.set_cons_zero, List.set_cons_succ])
                  with_reducible refine stTake (v := ?_) (by kernel_rfl) ?_ ?_; rotate_left
                  · (go_simp; (try with_reducible rfl))
                  (try simp only [Act.put, zl, List.set_cons_zero, List.set_cons_succ])
                  with_reducible refine stTake (v := ?_) (by kernel_rfl) ?_ ?_; rotate_left
                  · (go_simp; (try with_reducible rfl))
                  (try simp only [Act.put, zl, List.set_cons_zero, List.set_cons_succ])
                  with_reducible refine stTake (v := ?_) (by kernel_rfl) ?_ ?_; rotate_left
                  · (go_simp; (try with_reducible rfl))
                  (try simp only [Act.put, zl, List.set_cons_zero, List.set_cons_succ])
                  with_reducible refine stTake (v := ?_) (by kernel_rfl) ?_ ?_; rotate_left
                  · (go_simp; (try with_reducible rfl))
                  (try simp only [Act.put, zl, List.set_cons_zero, List.set_cons_succ])
                  with_reducible refine stTake (v := ?_) (by kernel_rfl) ?_ ?_; rotate_left
                  · (go_simp; (try simp only [Pa3.out, Pa3'.out]); (try with_reducible rfl))
                  (try simp only [Act.put, zl, List.set_cons_zero, List.set_cons_succ])
                  with_reducible refine stTake (v := ?_) (by kernel_rfl) ?_ ?_; rotate_left
                  · (go_simp; (try with_reducible rfl))
                  (try simp only [Act.put, zl, List.set_cons_zero, List.set_cons_succ])
                  with_reducible refine stTake (v := ?_) (by kernel_rfl) ?_ ?_; rotate_left
                  · (go_simp; (try with_reducible rfl))
                  (try simp only [Act.put, zl, List.set_cons_zero, List.set_cons_succ])
                  refine wpStill_nil ?_
                  have hbf : E.tbef x y = false := by unfold E.tbef; rw [Pa1.out, Pa2.out, Pa3.out]; rfl
                  clear xd0 xd1 xd2 xd3 xd4 yd0 yd1 yd2 yd3 yd4
                  go_wp2_with fail
                  go_roundw
                  case rel => exact ⟨k, a, true, by omega, rfl, rfl, rfl, hide (by rw [E.tscan HY.out, hbf]; exact HAT.out), hide (by rw [E.tscan_mem HY.out, ← HTW.out, HTW'.out]), HOV2, HB5⟩
                  case measure => simp [intOf]
                · obtain ⟨V2, hV⟩ : ∃ V2, (V).drew = V2 := ⟨_, rfl⟩
                  have HB5 := hide (show Below w.heap.size w V2 by rw [← hV]; exact zbD HB4.out)
                  have HOV2 := hide (show V2.ownsRow w.heap.size 40 5 (.slice (some ⟨bq, oq, none⟩) m c2) m (flatN outs) by rw [← hV]; exact HOV.out)
                  obtain ⟨bl2, ol2, hAl2, _, xd0, xd1, xd2, xd3, xd4⟩ := (HR.out.below HB5.out) i x HX.out
                  injection hAl2 with hAl2
                  injection hAl2 with hl1 hl2
                  subst hl1 hl2
                  obtain ⟨bq2, oq2, hAq2, _, yd0, yd1, yd2, yd3, yd4⟩ := (owns_RdN HOV2.out HOL.out) k y HY.out
                  injection hAq2 with hAq2
                  injection hAq2 with hq1 hq2
                  subst hq1 hq2
                  refine wp_region_still_lit (by kernel_rfl) (by kernel_rfl) ?_
                  change wpStill _ _ (V).drew (fun a' => Exit.then _ _ Exit.normal a' (V).drew) _ _
                  rw [hV]
                  clear hV
                  with_reducible refine stTake (v := ?_) (by kernel_rfl) ?_ ?_; rotate_left
                  · (go_simp; (try with_reducible rfl))
                  (try simp only [Act.put, zl, List.set_cons_zero, List.set_cons_succ])
                  with_reducible refine stTake (v := ?_) (by kernel_rfl) ?_ ?_; rotate_left
                  · (go_simp; (try with_reducible rfl))
                  (try simp only [Act.put, zl, List.set_cons_zero, List.set_cons_succ])
                  with_reducible refine stTake (v := ?_) (by kernel_rfl) ?_ ?_; rotate_left
                  · (go_simp; (try with_reducible rfl))
                  (try simp only [Act.put, zl, List.set_cons_zero, List.set_cons_succ])
                  with_reducible refine stTake (v := ?_) (by kernel_rfl) ?_ ?_; rotate_left
                  · (go_simp; (try with_reducible rfl))
                  (try simp only [Act.put, zl, List.set_cons_zero, List.set_cons_succ])
                  with_reducible refine stTake (v := ?_) (by kernel_rfl) ?_ ?_; rotate_left
                  · (go_simp; (try with_reducible rfl))
                  (try simp only [Act.put, zl, List.set_cons_zero, List.set_cons_succ])
                  with_reducible refine stTake (v := ?_) (by kernel_rfl) ?_ ?_; rotate_left
                  · (go_simp; (try with_reducible rfl))
                  (try simp only [Act.put, zl, List.set_cons_zero, List.set_cons_succ])
                  with_reducible refine stTake (v := ?_) (by kernel_rfl) ?_ ?_; rotate_left
                  · (go_simp; (try with_reducible rfl))
                  (try simp only [Act.put, zl, List.set_cons_zero, List.set_cons_succ])
                  with_reducible refine stTake (v := ?_) (by kernel_rfl) ?_ ?_; rotate_left
                  · (go_simp; (try with_reducible rfl))
                  (try simp only [Act.put, zl, List.set_cons_zero, List.set_cons_succ])
                  with_reducible refine stTake (v := ?_) (by kernel_rfl) ?_ ?_; rotate_left
                  · (go_simp; (try with_reducible rfl))
                  (try simp only [Act.put, zl, List.set_cons_zero, List.set_cons_succ])
                  with_reducible refine stTake (v := ?_) (by kernel_rfl) ?_ ?_; rotate_left
                  · (go_simp; (try with_reducible rfl))
                  (try simp only [Act.put, zl, List.set_cons_zero, List.set_cons_succ])
                  with_reducible refine stTake (v := ?_) (by kernel_rfl) ?_ ?_; rotate_left
                  · (go_simp; (try simp only [Pa1.out, Pa1'.out]); (try with_reducible rfl))
                  (try simp only [Act.put, zl, List.set_cons_zero, List.set_cons_succ])
                  with_reducible refine stTake (v := ?_) (by kernel_rfl) ?_ ?_; rotate_left
                  · (go_simp; (try with_reducible rfl))
                  (try simp only [Act.put, zl, List.set_cons_zero, List.set_cons_succ])
                  with_reducible refine stTake (v := ?_) (by kernel_rfl) ?_ ?_; rotate_left
                  · (go_simp; (try with_reducible rfl))
                  (try simp only [Act.put, zl, List.set_cons_zero, List.set_cons_succ])
                  with_reducible refine stTake (v := ?_) (by kernel_rfl) ?_ ?_; rotate_left
                  · (go_simp; (try with_reducible rfl))
                  (try simp only [Act.put, zl, List.set_cons_zero, List.set_cons_succ])
                  with_reducible refine stTake (v := ?_) (by kernel_rfl) ?_ ?_; rotate_left
                  · (go_simp; (try with_reducible rfl))
                  (try simp only [Act.put, zl, List.set_cons_zero, List.set_cons_succ])
                  with_reducible refine stTake (v := ?_) (by kernel_rfl) ?_ ?_; rotate_left
                  · (go_simp; (try with_reducible rfl))
                  (try simp only [Act.put, zl, List.set_cons_zero, List.set_cons_succ])
                  with_reducible refine stTake (v := ?_) (by kernel_rfl) ?_ ?_; rotate_left
                  · (go_simp; (try with_reducible rfl))
                  (try simp only [Act.put, zl, List.set_cons_zero, List.set_cons_succ])
                  with_reducible refine stTake (v := ?_) (by kernel_rfl) ?_ ?_; rotate_left
                  · (go_simp; (try with_reducible rfl))
                  (try simp only [Act.put, zl, List.set_cons_zero, List.set_cons_succ])
                  with_reducible refine stTake (v := ?_) (by kernel_rfl) ?_ ?_; rotate_left
                  · (go_simp; (try with_reducible rfl))
                  (try simp only [Act.put, zl, List.set_cons_zero, List.set_cons_succ])
                  with_reducible refine stTake (v := ?_) (by kernel_rfl) ?_ ?_; rotate_left
                  · (go_simp; (try with_reducible rfl))
                  (try simp only [Act.put, zl, List.set_cons_zero, List.set_cons_succ])
                  with_reducible refine stTake (v := ?_) (by kernel_rfl) ?_ ?_; rotate_left
                  · (go_simp; (try with_reducible rfl))
                  (try simp only [Act.put, zl, List.set_cons_zero, List.set_cons_succ])
                  with_reducible refine stTake (v := ?_) (by kernel_rfl) ?_ ?_; rotate_left
                  · (go_simp; (try with_reducible rfl))
                  (try simp only [Act.put, zl, List.set_cons_zero, List.set_cons_succ])
                  with_reducible refine stTake (v := ?_) (by kernel_rfl) ?_ ?_; rotate_left
                  · (go_simp; (try simp only [Pa2.out, Pa2'.out]); (try with_reducible rfl))
                  (try simp only [Act.put, zl, List.set_cons_zero, List.set_cons_succ])
                  with_reducible refine stTake (v := ?_) (by kernel_rfl) ?_ ?_; rotate_left
                  · (go_simp; (try with_reducible rfl))
                  (try simp only [Act.put, zl, List.set_cons_zero, List.set_cons_succ])
                  with_reducible refine stTake (v := ?_) (by kernel_rfl) ?_ ?_; rotate_left
                  · (go_simp; (try with_reducible rfl))
                  (try simp only [Act.put, zl, List.set_cons_zero, List.set_cons_succ])
                  with_reducible refine stTake (v := ?_) (by kernel_rfl) ?_ ?_; rotate_left
                  · (go_simp; (try with_reducible rfl))
                  (try simp only [Act.put, zl, List.set_cons_zero, List.set_cons_succ])
                  with_reducible refine stTake (v := ?_) (by kernel_rfl) ?_ ?_; rotate_left
                  · (go_simp; (try with_reducible rfl))
                  (try simp only [Act.put, zl, List.set_cons_zero, List.set_cons_succ])
                  with_reducible refine stTake (v := ?_) (by kernel_rfl) ?_ ?_; rotate_left
                  · (go_simp; (try with_reducible rfl))
                  (try simp only [Act.put, zl, List.set_cons_zero, List.set_cons_succ])
                  with_reducible refine stTake (v := ?_) (by kernel_rfl) ?_ ?_; rotate_left
                  · (go_simp; (try with_reducible rfl))
                  (try simp only [Act.put, zl, List.set_cons_zero, List.set_cons_succ])
                  with_reducible refine stTake (v := ?_) (by kernel_rfl) ?_ ?_; rotate_left
                  · (go_simp; (try with_reducible rfl))
                  (try simp only [Act.put, zl, List.set_cons_zero, List.set_cons_succ])
                  with_reducible refine stTake (v := ?_) (by kernel_rfl) ?_ ?_; rotate_left
                  · (go_simp; (try with_reducible rfl))
                  (try simp only [Act.put, zl, List.set_cons_zero, List.set_cons_succ])
                  with_reducible refine stTake (v := ?_) (by kernel_rfl) ?_ ?_; rotate_left
                  · (go_simp; (try with_reducible rfl))
                  (try simp only [Act.put, zl, List.set_cons_zero, List.set_cons_succ])
                  with_reducible refine stTake (v := ?_) (by kernel_rfl) ?_ ?_; rotate_left
                  · (go_simp; (try with_reducible rfl))
                  (try simp only [Act.put, zl, List.set_cons_zero, List.set_cons_succ])
                  with_reducible refine stTake (v := ?_) (by kernel_rfl) ?_ ?_; rotate_left
                  · (go_simp; (try with_reducible rfl))
                  (try simp only [Act.put, zl, List.set_cons_zero, List.set_cons_succ])
                  with_reducible refine stTake (v := ?_) (by kernel_rfl) ?_ ?_; rotate_left
                  · (go_simp; (try simp only [Pa3.out, Pa3'.out]); (try with_reducible rfl))
                  (try simp only [Act.put, zl, List.set_cons_zero, List.set_cons_succ])
                  with_reducible refine stTake (v := ?_) (by kernel_rfl) ?_ ?_; rotate_left
                  · (go_simp; (try with_reducible rfl))
                  (try simp only [Act.put, zl, List.set_cons_zero, List.set_cons_succ])
                  with_reducible refine stTake (v := ?_) (by kernel_rfl) ?_ ?_; rotate_left
                  · (go_simp; (try with_reducible rfl))
                  (try simp only [Act.put, zl, List.set_cons_zero, List.set_cons_succ])
                  refine wpStill_nil ?_
                  have hbf : E.tbef x y = true := by unfold E.tbef; rw [Pa1.out, Pa2.out, Pa3.out]; rfl
                  clear xd0 xd1 xd2 xd3 xd4 yd0 yd1 yd2 yd3 yd4
                  go_wp2_with fail
                  go_roundw
                  case rel => exact ⟨k, k, true, by omega, rfl, rfl, rfl, hide (by rw [E.tscan HY.out, hbf]; rfl), hide (by rw [E.tscan_mem HY.out, ← HTW.out, HTW'.out]), HOV2, HB5⟩
                  case measure => simp [intOf]
            · obtain ⟨V2, hV⟩ : ∃ V2, (V).drew = V2 := ⟨_, rfl⟩
              have HB5 := hide (show Below w.heap.size w V2 by rw [← hV]; exact zbD HB4.out)
              have HOV2 := hide (show V2.ownsRow w.heap.size 40 5 (.slice (some ⟨bq, oq, none⟩) m c2) m (flatN outs) by rw [← hV]; exact HOV.out)
              obtain ⟨bl2, ol2, hAl2, _, xd0, xd1, xd2, xd3, xd4⟩ := (HR.out.below HB5.out) i x HX.out
              injection hAl2 with hAl2
              injection hAl2 with hl1 hl2
              subst hl1 hl2
              obtain ⟨bq2, oq2, hAq2, _, yd0, yd1, yd2, yd3, yd4⟩ := (owns_RdN HOV2.out HOL.out) k y HY.out
              injection hAq2 with hAq2
              injection hAq2 with hq1 hq2
              subst hq1 hq2
              refine wp_region_still_lit (by kernel_rfl) (by kernel_rfl) ?_
              change wpStill _ _ (V).drew (fun a' => Exit.then _ _ Exit.normal a' (V).drew) _ _
              rw [hV]
              clear hV
              with_reducible refine stTake (v := ?_) (by kernel_rfl) ?_ ?_; rotate_left
              · (go_simp; (try with_reducible rfl))
              (try simp only [Act.put, zl, List.set_cons_zero, List.set_cons_succ])
              with_reducible refine stTake (v := ?_) (by kernel_rfl) ?_ ?_; rotate_left
              · (go_simp; (try with_reducible rfl))
              (try simp only [Act.put, zl, List.set_cons_zero, List.set_cons_succ])
              with_reducible refine stTake (v := ?_) (by kernel_rfl) ?_ ?_; rotate_left
              · (go_simp; (try with_reducible rfl))
              (try simp only [Act.put, zl, List.set_cons_zero, List.set_cons_succ])
              with_reducible refine stTake (v := ?_) (by kernel_rfl) ?_ ?_; rotate_left
              · (go_simp; (try with_reducible rfl))
              (try simp only [Act.put, zl, List.set_cons_zero, List.set_cons_succ])
              with_reducible refine stTake (v := ?_) (by kernel_rfl) ?_ ?_; rotate_left
              · (go_simp; (try with_reducible rfl))
              (try simp only [Act.put, zl, List.set_cons_zero, List.set_cons_succ])
              with_reducible refine stTake (v := ?_) (by kernel_rfl) ?_ ?_; rotate_left
              · (go_simp; (try with_reducible rfl))
              (try simp only [Act.put, zl, List.set_cons_zero, List.set_cons_succ])
              with_reducible refine stTake (v := ?_) (by kernel_rfl) ?_ ?_; rotate_left
              · (go_simp; (try with_reducible rfl))
              (try simp only [Act.put, zl, List.set_cons_zero, List.set_cons_succ])
              with_reducible refine stTake (v := ?_) (by kernel_rfl) ?_ ?_; rotate_left
              · (go_simp; (try with_reducible rfl))
              (try simp only [Act.put, zl, List.set_cons_zero, List.set_cons_succ])
              with_reducible refine stTake (v := ?_) (by kernel_rfl) ?_ ?_; rotate_left
              · (go_simp; (try with_reducible rfl))
              (try simp only [Act.put, zl, List.set_cons_zero, List.set_cons_succ])
              with_reducible refine stTake (v := ?_) (by kernel_rfl) ?_ ?_; rotate_left
              · (go_simp; (try with_reducible rfl))
              (try simp only [Act.put, zl, List.set_cons_zero, List.set_cons_succ])
              with_reducible refine stTake (v := ?_) (by kernel_rfl) ?_ ?_; rotate_left
              · (go_simp; (try simp only [Pa1.out, Pa1'.out]); (try with_reducible rfl))
              (try simp only [Act.put, zl, List.set_cons_zero, List.set_cons_succ])
              with_reducible refine stTake (v := ?_) (by kernel_rfl) ?_ ?_; rotate_left
              · (go_simp; (try with_reducible rfl))
              (try simp only [Act.put, zl, List.set_cons_zero, List.set_cons_succ])
              with_reducible refine stSkip (by kernel_rfl) ?_
              (try simp only [Act.put, zl, List.set_cons_zero, List.set_cons_succ])
              with_reducible refine stSkip (by kernel_rfl) ?_
              (try simp only [Act.put, zl, List.set_cons_zero, List.set_cons_succ])
              with_reducible refine stSkip (by kernel_rfl) ?_
              (try simp only [Act.put, zl, List.set_cons_zero, List.set_cons_succ])
              with_reducible refine stSkip (by kernel_rfl) ?_
              (try simp only [Act.put, zl, List.set_cons_zero, List.set_cons_succ])
              with_reducible refine stSkip (by kernel_rfl) ?_
              (try simp only [Act.put, zl, List.set_cons_zero, List.set_cons_succ])
              with_reducible refine stSkip (by kernel_rfl) ?_
              (try simp only [Act.put, zl, List.set_cons_zero, List.set_cons_succ])
              with_reducible refine stSkip (by kernel_rfl) ?_
              (try simp only [Act.put, zl, List.set_cons_zero, List.set_cons_succ])
              with_reducible refine stSkip (by kernel_rfl) ?_
              (try simp only [Act.put, zl, List.set_cons_zero, List.set_cons_succ])
              with_reducible refine stSkip (by kernel_rfl) ?_
              (try simp only [Act.put, zl, List.set_cons_zero, List.set_cons_succ])
              with_reducible refine stSkip (by kernel_rfl) ?_
              (try simp only [Act.put, zl, List.set_cons_zero, List.set_cons_succ])
              with_reducible refine stSkip (by kernel_rfl) ?_
              (try simp only [Act.put, zl, List.set_cons_zero, List.set_cons_succ])
              with_reducible refine stSkip (by kernel_rfl) ?_
              (try simp only [Act.put, zl, List.set_cons_zero, List.set_cons_succ])
              with_reducible refine stSkip (by kernel_rfl) ?_
              (try simp only [Act.put, zl, List.set_cons_zero, List.set_cons_succ])
              with_reducible refine stSkip (by kernel_rfl) ?_
              (try simp only [Act.put, zl, List.set_cons_zero, List.set_cons_succ])
              with_reducible refine stSkip (by kernel_rfl) ?_
              (try simp only [Act.put, zl, List.set_cons_zero, List.set_cons_succ])
              with_reducible refine stSkip (by kernel_rfl) ?_
              (try simp only [Act.put, zl, List.set_cons_zero, List.set_cons_succ])
              with_reducible refine stSkip (by kernel_rfl) ?_
              (try simp only [Act.put, zl, List.set_cons_zero, List.set_cons_succ])
              with_reducible refine stSkip (by kernel_rfl) ?_
              (try simp only [Act.put, zl, List.set_cons_zero, List.set_cons_succ])
              with_reducible refine stSkip (by kernel_rfl) ?_
              (try simp only [Act.put, zl, List.set_cons_zero, List.set_cons_succ])
              with_reducible refine stSkip (by kernel_rfl) ?_
              (try simp only [Act.put, zl, List.set_cons_zero, List.set_cons_succ])
              with_reducible refine stSkip (by kernel_rfl) ?_
              (try simp only [Act.put, zl, List.set_cons_zero, List.set_cons_succ])
              with_reducible refine stSkip (by kernel_rfl) ?_
              (try simp only [Act.put, zl, List.set_cons_zero, List.set_cons_succ])
              with_reducible refine stSkip (by kernel_rfl) ?_
              (try simp only [Act.put, zl, List.set_cons_zero, List.set_cons_succ])
              with_reducible refine stSkip (by kernel_rfl) ?_
              (try simp only [Act.put, zl, List.set_cons_zero, List.set_cons_succ])
              with_reducible refine stTake (v := ?_) (by kernel_rfl) ?_ ?_; rotate_left
              · (go_simp; (try with_reducible rfl))
              (try simp only [Act.put, zl, List.set_cons_zero, List.set_cons_succ])
              refine wpStill_nil ?_
              have hbf : E.tbef x y = true := by unfold E.tbef; rw [Pa1.out]; rfl
              clear xd0 xd1 xd2 xd3 xd4 yd0 yd1 yd2 yd3 yd4
              go_wp2_with fail
              go_roundw
              case rel => exact ⟨k, k, true, by omega, rfl, rfl, rfl, hide (by rw [E.tscan HY.out, hbf]; rfl), hide (by rw [E.tscan_mem HY.out, ← HTW.out, HTW'.out]), HOV2, HB5⟩
              case measure => simp [intOf]
    · have hin2 : i = n := by omega
      subst hin2
      go_wp2_with fail
      go_ret
      exact ⟨A2, m, c2, rfl, by rw [← HOL.out, HOE.out, List.take_of_length_le (by rw [HN.out]; exact Nat.le_refl _)], by have h := HO.out; rw [HOE.out, List.take_of_length_le (by rw [HN.out]; exact Nat.le_refl _)] at h; exact h, HBR.out⟩
theorem takenP_holds : TakenP := fun A n c l d w hn hr hd => by
  have h := taken_ref A n c l w hn hr (by have := (E.diffs_spec hd).1; omega)
  rw [E.taken_same hd] at h
  exact h
end Go.Proofs.Ytdhaalonnmajkaa

namespace Go.Proofs.Ytdhaalonnmajkaa
open Go.RowKit Go.Sort
attribute [local go_sem ↓] Go.wp_at_zero Go.wp_at_succ

theorem outF_le (os : List E.Rp) (ins : List Int) : (outF os ins).length ≤ os.length := by
  unfold outF
  rw [List.length_map]
  exact List.length_filter_le _ _
set_option maxHeartbeats 6400000 in
set_option maxRecDepth 100000 in
theorem Stand_ref (f : E.Fd) (A : Option Addr) (n c : Nat) (l : List E.Nt) (h p : Int) (s : E.Rs) (w : World) (hn : l.length = n) (hr : RdN w w.heap.size A l) (hm : n ≤ 1000000) (hA : E.errE f l h p = 0 → AfterP f l h s) (hs : E.errE f l h p = 0 → s.people.length ≤ 200 ∧ s.ins.length ≤ 400 ∧ (0 ≤ s.back ∧ s.back ≤ 1000) ∧ s.wilds.length ≤ 400) (hp : E.errE f l h p = 0 → 0 ≤ f.places ∧ f.places ≤ 1000) :
    Calls Try.prog 17 #[.agg #[.int .i64 f.places, .int .i64 f.wilds, .int .i64 f.guards, .int .i64 f.close, .int .i64 f.freeze], .slice A n c, .int .i64 h, .int .i64 p] w fun e w' => e = .returned (if E.errE f l h p = 0 then .tuple #[.int .i64 (whereL s.ins s.wilds (outF (ordF s.people) s.ins) p).1, .int .i64 (whereL s.ins s.wilds (outF (ordF s.people) s.ins) p).2, .int .i64 0] else .tuple #[.int .i64 0, .int .i64 0, .int .i64 (E.errE f l h p)]) ∧ Below w.heap.size w w' := by
  have HN := hide hn
  have HR := hide hr
  have HM := hide hm
  clear hn hr hm
  obtain ⟨e0, he0⟩ : ∃ q, E.errE f l h p = q := ⟨_, rfl⟩
  have HE0 := hide he0
  rw [he0] at hA hs hp ⊢
  clear he0
  obtain ⟨wh, hwh⟩ : ∃ q, whereL s.ins s.wilds (outF (ordF s.people) s.ins) p = q := ⟨_, rfl⟩
  have HWH := hide hwh
  rw [hwh]
  clear hwh
  obtain ⟨vv, hvv⟩ : ∃ q : Value, (if e0 = 0 then .tuple #[.int .i64 wh.1, .int .i64 wh.2, .int .i64 0] else .tuple #[.int .i64 0, .int .i64 0, .int .i64 e0]) = q := ⟨_, rfl⟩
  have HVV := hide hvv
  rw [hvv]
  clear hvv
  go_enter Try.func17, Try.ntmps17
  go_upto_region 1 with fail
  obtain ⟨w0, hw0⟩ : ∃ q, w.alloc (.cells #[.int .i64 f.places, .int .i64 f.wilds, .int .i64 f.guards, .int .i64 f.close, .int .i64 f.freeze] 23) = q := ⟨_, rfl⟩
  have HB0 := hide (show Below w.heap.size w w0 by rw [← hw0]; (repeat' first | exact zbR _ _ | assumption | refine zbD ?_ | refine zbA ?_ ?_ _ | refine zbS ?_ ?_ _ | refine zbT ?_ (by assumption) ?_ | (simp; done) | (simp; omega) | omega))
  have HF0 := hide (show w0.heap[w.heap.size]? = some (.cells #[.int .i64 f.places, .int .i64 f.wilds, .int .i64 f.guards, .int .i64 f.close, .int .i64 f.freeze] 23 (0, 0)) by rw [← hw0]; exact World.alloc_heap_new _ _)
  rw [hw0]
  clear hw0
  have yf0 : w0.cell? ⟨w.heap.size, 0, none⟩ = some (.int .i64 f.places) := (blk_cell HF0.out 0).trans rfl
  have yf1 : w0.cell? ⟨w.heap.size, 1, none⟩ = some (.int .i64 f.wilds) := (blk_cell HF0.out 1).trans rfl
  have yf2 : w0.cell? ⟨w.heap.size, 2, none⟩ = some (.int .i64 f.guards) := (blk_cell HF0.out 2).trans rfl
  have yf3 : w0.cell? ⟨w.heap.size, 3, none⟩ = some (.int .i64 f.close) := (blk_cell HF0.out 3).trans rfl
  have yf4 : w0.cell? ⟨w.heap.size, 4, none⟩ = some (.int .i64 f.freeze) := (blk_cell HF0.out 4).trans rfl
  have lyf := blk_lt HF0.out
  go_upto_region 2 with (go_at_call 34; with_reducible refine (check_ref f A n c l h p w0 HN.out ((HR.out.below HB0.out).mono HB0.out.size) HM.out).mono ?_; rintro e w1 ⟨rfl, hb1⟩; rw [HE0.out]; have HB1 := hide hb1; clear hb1)
  clear yf0 yf1 yf2 yf3 yf4 lyf
  have HF1 := hide ((HB1.out.block _ (blk_lt HF0.out)).trans HF0.out)
  have HBW1 := hide (zbT HB0.out HB1.out HB0.out.size)
  clear HF0
  by_cases q0 : e0 = 0
  · subst q0
    have hA := hA rfl
    have HSB := hide (hs rfl)
    have HPL := hide (hp rfl)
    clear hs hp
    go_upto_region 4 with fail
    have hSof : ∀ w', Below w1.heap.size w1 w' → Below w1.heap.size w1 w' ∧ w'.cell? ⟨w.heap.size, 0, none⟩ = some (.int .i64 f.places) ∧ w'.cell? ⟨w.heap.size, 1, none⟩ = some (.int .i64 f.wilds) ∧ w'.cell? ⟨w.heap.size, 2, none⟩ = some (.int .i64 f.guards) ∧ w'.cell? ⟨w.heap.size, 3, none⟩ = some (.int .i64 f.close) ∧ w'.cell? ⟨w.heap.size, 4, none⟩ = some (.int .i64 f.freeze) ∧ w.heap.size < w'.heap.size := fun w' hb => by
      have hF := (hb.block _ (blk_lt HF1.out)).trans HF1.out
      exact ⟨hb, (blk_cell hF 0).trans rfl, (blk_cell hF 1).trans rfl, (blk_cell hF 2).trans rfl, (blk_cell hF 3).trans rfl, (blk_cell hF 4).trans rfl, blk_lt hF⟩
    have HRG : ∀ w', Below w1.heap.size w1 w' → RdN w' w'.heap.size A l := fun w' hb => (HR.out.below (zbT HBW1.out hb HBW1.out.size)).mono (Nat.le_trans HBW1.out.size hb.size)
    have hS : (fun w' => Below w1.heap.size w1 w' ∧ w'.cell? ⟨w.heap.size, 0, none⟩ = some (.int .i64 f.places) ∧ w'.cell? ⟨w.heap.size, 1, none⟩ = some (.int .i64 f.wilds) ∧ w'.cell? ⟨w.heap.size, 2, none⟩ = some (.int .i64 f.guards) ∧ w'.cell? ⟨w.heap.size, 3, none⟩ = some (.int .i64 f.close) ∧ w'.cell? ⟨w.heap.size, 4, none⟩ = some (.int .i64 f.freeze) ∧ w.heap.size < w'.heap.size) w1 := hSof _ (zbR _ _)
    (try dsimp only at hS)
    refine wp_region_held_drew (S := (fun w' => Below w1.heap.size w1 w' ∧ w'.cell? ⟨w.heap.size, 0, none⟩ = some (.int .i64 f.places) ∧ w'.cell? ⟨w.heap.size, 1, none⟩ = some (.int .i64 f.wilds) ∧ w'.cell? ⟨w.heap.size, 2, none⟩ = some (.int .i64 f.guards) ∧ w'.cell? ⟨w.heap.size, 3, none⟩ = some (.int .i64 f.close) ∧ w'.cell? ⟨w.heap.size, 4, none⟩ = some (.int .i64 f.freeze) ∧ w.heap.size < w'.heap.size)) (by kernel_rfl) ?_ (fun hD0 => ?_)
    · (try dsimp only); first | assumption | exact hSof _ (zbD (zbR _ _))
    refine tW ?_ 0 rfl (by kernel_rfl) (fun _ _ _ h => h) (by rfl) (by assumption) ?_ ?_; rotate_left; (focus (intro w hSw; (try dsimp only at hSw); go_simp; try with_reducible rfl)); try simp only [Act.put, zl, z0, z1]
    refine tW ?_ 1 rfl (by kernel_rfl) (fun _ _ _ h => h) (by rfl) (by assumption) ?_ ?_; rotate_left; (focus (intro w hSw; (try dsimp only at hSw); go_simp; try with_reducible rfl)); try simp only [Act.put, zl, z0, z1]
    refine tW ?_ 2 rfl (by kernel_rfl) (fun _ _ _ h => h) (by rfl) (by assumption) ?_ ?_; rotate_left; (focus (intro w hSw; (try dsimp only at hSw); go_simp; try with_reducible rfl)); try simp only [Act.put, zl, z0, z1]
    refine tW ?_ 3 rfl (by kernel_rfl) (fun _ _ _ h => h) (by rfl) (by assumption) ?_ ?_; rotate_left; (focus (intro w hSw; (try dsimp only at hSw); go_simp; try with_reducible rfl)); try simp only [Act.put, zl, z0, z1]
    refine tW ?_ 6 rfl (by kernel_rfl) (fun _ _ _ h => h) (by rfl) (by assumption) ?_ ?_; rotate_left; (focus (intro w hSw; (try dsimp only at hSw); go_simp; try with_reducible rfl)); try simp only [Act.put, zl, z0, z1]
    refine wpAnyH_ready (rs := [4]) (by kernel_rfl) (by simp) ?_; refine consL 4 rfl (fun K hK => ?_) AllReadyH.nil
    (go_simp; go_at_call 36; refine (hA A n c _ HN.out (HRG _ hD0.1)).mono ?_; rintro e w5 ⟨v5, rfl, hst, hb5⟩; have hSn := hSof _ (zbT hD0.1 hb5 hD0.1.size); obtain ⟨An, nn, cn, A2, n2, c2, A3, n3, c3, rfl, q1, q2, q3, q4, q5, q6⟩ := hst; have q7 := q6 w5 (Nat.le_refl _) (fun _ _ _ => rfl); have HQ6 := hide q6; have HQ := hide (And.intro q1 (And.intro q3 (And.intro q5 q7))); clear q1 q2 q3 q4 q5 q6 q7 hb5; (try dsimp only at hSn))
    refine hK.out _ _ ?_ (fun hD1 => ?_)
    · (try dsimp only); first | assumption | exact hSof _ (zbD (zbR _ _))
    clear hK K hD0; try simp only [Act.put, zl, z0, z1]
    refine wpAnyH_ready (rs := [5]) (by kernel_rfl) (by simp) ?_; refine consL 5 rfl (fun K hK => ?_) AllReadyH.nil
    (go_simp; go_at_call 35; refine (entries_ref f An nn cn s.people A2 n2 c2 s.back A3 n3 c3 s.ins w5 HQ.out.1 HQ.out.2.2.2.1 (by have h1 := HQ.out.1; have h2 := HSB.out.1; omega) HQ.out.2.2.1 HQ.out.2.2.2.2.2 (by have h1 := HQ.out.2.2.1; have h2 := HSB.out.2.1; omega) HPL.out HSB.out.2.2.1).mono ?_; rintro e w6 ⟨A4, m4, c4, rfl, hl6, ho6, hb6⟩; have hSn := hSof _ (zbT hD1.1 hb6 hD1.1.size); have HL6 := hide hl6; have HO6 := hide ho6; have HB6 := hide hb6; clear hl6 ho6 hb6; (try dsimp only at hSn))
    refine hK.out _ _ ?_ (fun hD2 => ?_)
    · (try dsimp only); first | assumption | exact hSof _ (zbD (zbR _ _))
    clear hK K hD1; try simp only [Act.put, zl, z0, z1]
    refine wpAnyH_ready (rs := [7]) (by kernel_rfl) (by simp) ?_; refine consL 7 rfl (fun K hK => ?_) AllReadyH.nil
    (go_simp; go_at_call 38; refine (stand_ref A3 n3 c3 s.ins A2 n2 c2 s.wilds A4 m4 c4 (outF (ordF s.people) s.ins) (f.places + s.back - (n3 : Int)) p w6 HQ.out.2.2.1 (HQ6.out w6 HB6.out.size (fun b hb _ => HB6.out.block b hb)).2.2 (by have h1 := HQ.out.2.2.1; have h2 := HSB.out.2.1; omega) HQ.out.2.1 (HQ6.out w6 HB6.out.size (fun b hb _ => HB6.out.block b hb)).2.1 (by have h1 := HQ.out.2.1; have h2 := HSB.out.2.2.2; omega) HL6.out (owns_RdI HO6.out HL6.out) (by have h1 := HL6.out; have h2 := outF_le (ordF s.people) s.ins; have h3 := ordF_length s.people; have h4 := HSB.out.1; omega)).mono ?_; rintro e w7 ⟨rfl, hb7⟩; rw [HWH.out]; have hSn := hSof _ (zbT hD2.1 hb7 hD2.1.size); clear hb7; (try dsimp only at hSn))
    refine hK.out _ _ ?_ (fun hD3 => ?_)
    · (try dsimp only); first | assumption | exact hSof _ (zbD (zbR _ _))
    clear hK K hD2; try simp only [Act.put, zl, z0, z1]
    refine tW ?_ 8 rfl (by kernel_rfl) (fun _ _ _ h => h) (by rfl) (by assumption) ?_ ?_; rotate_left; (focus (intro w hSw; (try dsimp only at hSw); go_simp; try with_reducible rfl)); try simp only [Act.put, zl, z0, z1]
    refine tW ?_ 9 rfl (by kernel_rfl) (fun _ _ _ h => h) (by rfl) (by assumption) ?_ ?_; rotate_left; (focus (intro w hSw; (try dsimp only at hSw); go_simp; try with_reducible rfl)); try simp only [Act.put, zl, z0, z1]
    refine tW ?_ 10 rfl (by kernel_rfl) (fun _ _ _ h => h) (by rfl) (by assumption) ?_ ?_; rotate_left; (focus (intro w hSw; (try dsimp only at hSw); go_simp; try with_reducible rfl)); try simp only [Act.put, zl, z0, z1]
    refine tW ?_ 11 rfl (by kernel_rfl) (fun _ _ _ h => h) (by rfl) (by assumption) ?_ ?_; rotate_left; (focus (intro w hSw; (try dsimp only at hSw); go_simp; try with_reducible rfl)); try simp only [Act.put, zl, z0, z1]
    refine tW ?_ 12 rfl (by kernel_rfl) (fun _ _ _ h => h) (by rfl) (by assumption) ?_ ?_; rotate_left; (focus (intro w hSw; (try dsimp only at hSw); go_simp; try with_reducible rfl)); try simp only [Act.put, zl, z0, z1]
    refine wpAnyH_done (by kernel_rfl) ?_ _
    (try dsimp only [Act.put, List.getElem_toArray, List.getElem_cons_succ, List.getElem_cons_zero])
    (try simp only [zl, z0, z1])
    have HB9 := hide (zbT HBW1.out hSn.1 HBW1.out.size)
    clear hSn hS hSof
    go_wp2_with fail
    exact bodyPost_ret (v := .tuple #[.int .i64 wh.1, .int .i64 wh.2, .int .i64 0]) (by simp [results, Try.results17, go_sem]) rfl ⟨by rw [← HVV.out]; first | rw [if_pos rfl] | rw [if_pos trivial], HB9.out⟩
  · go_wp2_with fail
    exact bodyPost_ret (v := .tuple #[.int .i64 0, .int .i64 0, .int .i64 e0]) (by simp [results, Try.results17, go_sem]) rfl ⟨by rw [← HVV.out, if_neg q0], HBW1.out⟩

theorem AfterP_of {f : E.Fd} {l d : List E.Nt} (hd : E.diffs l = some d) (hv : E.validField f = true) (h : Int) : AfterP f l h (E.rafter f d h) := fun A n c w hn hr => by
  have hp := E.valid_places hv
  have := After_ref takeP_holds takenP_holds f A n c l d h w hn hr hd (E.diffs_len hd) (one_ok hd hv) (by omega)
  rw [E.aft_same f (E.diffs_spec hd).2.1 h] at this
  exact this
theorem rafter_bd {f : E.Fd} {l d : List E.Nt} (hd : E.diffs l = some d) (hv : E.validField f = true) (h : Int) : (E.rafter f d h).people.length ≤ 200 ∧ (E.rafter f d h).ins.length ≤ 400 ∧ (0 ≤ (E.rafter f d h).back ∧ (E.rafter f d h).back ≤ 1000) ∧ (E.rafter f d h).wilds.length ≤ 400 := by
  obtain ⟨_, ht, _⟩ := E.diffs_spec hd
  have hdl := E.diffs_len hd
  have hf := E.valid_places hv
  have hl2 := List.length_filter_le (fun x : E.Nt => decide (x.hour ≤ h)) d
  have hb := E.rfold_bd (f := f) (d.filter fun x => decide (x.hour ≤ h)) E.Rs.new 0 ⟨by simp [E.Rs.new], by simp [E.Rs.new], Int.le_refl _, Int.le_refl _, fun p hp => by cases hp⟩ (fun y hy => (E.valid_player (ht.valid y (List.mem_filter.1 hy).1)).1)
  have hb2 := E.fold_bd (d.filter fun x => decide (x.hour ≤ h)) (E.St.new f) 0 ⟨by show f.places ≤ _; omega, by simp [E.St.new], by simp [E.St.new], Int.le_refl _, by show 0 ≤ f.places; omega, Int.le_refl _⟩
  have hside := (E.after_side hd hv h).1
  have a1 := hb.people
  have a2 := hb.wilds
  have a3 := hb.back0
  have a4 := hb.back
  have a6 := hb2.main
  have a7 : (E.rafter f d h).ins = ((d.filter fun x => decide (x.hour ≤ h)).foldl E.St.take (E.St.new f)).main := hside.ins
  refine ⟨?_, ?_, ⟨a3, ?_⟩, ?_⟩
  · show ((d.filter fun x => decide (x.hour ≤ h)).foldl (E.rone f) E.Rs.new).people.length ≤ 200; omega
  · rw [a7]; omega
  · show ((d.filter fun x => decide (x.hour ≤ h)).foldl (E.rone f) E.Rs.new).back ≤ 1000; omega
  · show ((d.filter fun x => decide (x.hour ≤ h)).foldl (E.rone f) E.Rs.new).wilds.length ≤ 400; omega
end Go.Proofs.Ytdhaalonnmajkaa

namespace Go.Proofs.Ytdhaalonnmajkaa
open Go.RowKit Go.Sort
attribute [local go_sem ↓] Go.wp_at_zero Go.wp_at_succ

def listV (f : E.Fd) (l : List E.Nt) (h : Int) : List Int × List Int × List Int × Int :=
  if E.errE f l h 0 = 0 then (match E.diffs l with | some d => ((E.atL f h d).main, (E.atL f h d).cards, (E.atL f h d).alts, (E.atL f h d).f.places - ((E.atL f h d).main.length : Int)) | none => ([], [], [], 0)) else ([], [], [], 0)
theorem listV_ok {f : E.Fd} {l d : List E.Nt} {h : Int} (he : E.errE f l h 0 = 0) (hd : E.diffs l = some d) : listV f l h = ((E.atL f h d).main, (E.atL f h d).cards, (E.atL f h d).alts, (E.atL f h d).f.places - ((E.atL f h d).main.length : Int)) := by
  unfold listV; rw [if_pos he, hd]
theorem listV_no {f : E.Fd} {l : List E.Nt} {h : Int} (he : E.errE f l h 0 ≠ 0) : listV f l h = ([], [], [], 0) := by
  unfold listV; rw [if_neg he]
theorem side_of {f : E.Fd} {l d : List E.Nt} (hd : E.diffs l = some d) (hv : E.validField f = true) (h : Int) : (E.rafter f d h).ins = (E.atL f h d).main ∧ (E.rafter f d h).wilds = (E.atL f h d).cards ∧ outF (ordF (E.rafter f d h).people) (E.rafter f d h).ins = (E.atL f h d).alts ∧ (E.atL f h d).f.places = f.places + (E.rafter f d h).back := by
  obtain ⟨hs, hr⟩ := E.after_side hd hv h
  have hok := (E.atL_ok f h (fun x hx => E.valid_player ((E.diffs_spec hd).2.1.valid x hx))).1
  exact ⟨hs.ins, hs.wilds, E.out_side hs hok hr, hs.places⟩
theorem listV_bd {f : E.Fd} {l : List E.Nt} {h : Int} {M C O : List Int} {P : Int} (hv : listV f l h = (M, C, O, P)) : M.length ≤ 1000 ∧ C.length ≤ 1000 ∧ O.length ≤ 1000 := by
  by_cases he : E.errE f l h 0 = 0
  · obtain ⟨hc, hvf, _⟩ := E.errE_ok he
    obtain ⟨d, hd⟩ := E.check_diffs hc
    rw [listV_ok he hd] at hv
    obtain ⟨s1, s2, s3, _⟩ := side_of hd hvf h
    obtain ⟨b1, b2, _, b4⟩ := rafter_bd hd hvf h
    have h1 := outF_le (ordF (E.rafter f d h).people) (E.rafter f d h).ins
    have h2 := ordF_length (E.rafter f d h).people
    rw [s3] at h1
    rw [s1] at b2
    rw [s2] at b4
    cases hv
    omega
  · rw [listV_no he] at hv
    cases hv
    simp
theorem prog_list (f : E.Fd) (A : Option Addr) (n c : Nat) (l : List E.Nt) (h e0 : Int) (M C O : List Int) (P : Int) (w : World) (hn : l.length = n) (hr : RdN w w.heap.size A l) (hid : ∀ x ∈ l, (Lit.int .i64 x.id).wf = true) (hm : n ≤ 1000000) (he : E.errE f l h 0 = e0) (hv : listV f l h = (M, C, O, P)) :
    Calls Try.prog 14 #[.agg #[.int .i64 f.places, .int .i64 f.wilds, .int .i64 f.guards, .int .i64 f.close, .int .i64 f.freeze], .slice A n c, .int .i64 h] w fun e w' => ∃ A1 c1 A2 c2 A3 c3, e = .returned (.tuple #[.agg #[.slice A1 M.length c1, .slice A2 C.length c2, .slice A3 O.length c3, .int .i64 P], .int .i64 e0]) ∧ RdI w' w'.heap.size A1 M ∧ RdI w' w'.heap.size A2 C ∧ RdI w' w'.heap.size A3 O ∧ Below w.heap.size w w' := by
  subst he
  refine (List_any f A n c l h w hn hr hid hm).mono ?_
  rintro e w' ⟨(⟨h0, rfl⟩ | ⟨h0, d, A1, c1, A2, c2, A3, c3, hd, rfl, h1, h2, h3⟩), hb⟩
  · rw [listV_no h0] at hv
    cases hv
    exact ⟨none, 0, none, 0, none, 0, rfl, (fun k p hk => by simp at hk), (fun k p hk => by simp at hk), (fun k p hk => by simp at hk), hb⟩
  · rw [listV_ok h0 hd] at hv
    cases hv
    exact ⟨A1, c1, A2, c2, A3, c3, by rw [h0], owns_RdI h1 rfl, owns_RdI h2 rfl, owns_RdI h3 rfl, hb⟩
theorem ref_list (f : E.Fd) (A : Option Addr) (n c : Nat) (l : List E.Nt) (h e0 : Int) (M C O : List Int) (P : Int) (w : World) (hn : l.length = n) (hr : RdN w w.heap.size A l) (hm : n ≤ 1000000) (he : E.errE f l h 0 = e0) (hv : listV f l h = (M, C, O, P)) :
    Calls Try.prog 15 #[.agg #[.int .i64 f.places, .int .i64 f.wilds, .int .i64 f.guards, .int .i64 f.close, .int .i64 f.freeze], .slice A n c, .int .i64 h] w fun e w' => ∃ A1 c1 A2 c2 A3 c3, e = .returned (.tuple #[.agg #[.slice A1 M.length c1, .slice A2 C.length c2, .slice A3 O.length c3, .int .i64 P], .int .i64 e0]) ∧ RdI w' w'.heap.size A1 M ∧ RdI w' w'.heap.size A2 C ∧ RdI w' w'.heap.size A3 O ∧ Below w.heap.size w w' := by
  subst he
  by_cases h0 : E.errE f l h 0 = 0
  · obtain ⟨hc, hvf, _⟩ := E.errE_ok h0
    obtain ⟨d, hd⟩ := E.check_diffs hc
    obtain ⟨s1, s2, s3, s4⟩ := side_of hd hvf h
    obtain ⟨b1, b2, b3, b4⟩ := rafter_bd hd hvf h
    have hp := E.valid_places hvf
    rw [listV_ok h0 hd] at hv
    cases hv
    refine (List_ref f A n c l h (E.rafter f d h) w hn hr hm (fun _ => AfterP_of hd hvf h) (fun _ => ⟨b1, b2, b3⟩) (fun _ => by omega)).mono ?_
    rintro e w' ⟨(⟨hne, _⟩ | ⟨_, A3, n3, c3, A2, n2, c2, A4, m4, c4, rfl, q1, q2, q3, q4, q5, q6⟩), hb⟩
    · exact absurd h0 hne
    · rw [s3] at q5 q6
      rw [s1] at q1 q2
      rw [s2] at q3 q4
      subst q1 q3 q5
      exact ⟨A3, c3, A2, c2, A4, c4, by rw [h0, s4], q2, q4, q6, hb⟩
  · rw [listV_no h0] at hv
    cases hv
    refine (List_ref f A n c l h E.Rs.new w hn hr hm (fun q => absurd q h0) (fun q => absurd q h0) (fun q => absurd q h0)).mono ?_
    rintro e w' ⟨(⟨_, rfl⟩ | ⟨hq, _⟩), hb⟩
    · exact ⟨none, 0, none, 0, none, 0, rfl, (fun k p hk => by simp at hk), (fun k p hk => by simp at hk), (fun k p hk => by simp at hk), hb⟩
    · exact absurd hq h0
theorem ref_stand (f : E.Fd) (A : Option Addr) (n c : Nat) (l : List E.Nt) (h p : Int) (w : World) (hn : l.length = n) (hr : RdN w w.heap.size A l) (hm : n ≤ 1000000) :
    Calls Try.prog 17 #[.agg #[.int .i64 f.places, .int .i64 f.wilds, .int .i64 f.guards, .int .i64 f.close, .int .i64 f.freeze], .slice A n c, .int .i64 h, .int .i64 p] w fun e w' => e = .returned (StandVal f l h p) ∧ Below w.heap.size w w' := by
  by_cases h0 : E.errE f l h p = 0
  · obtain ⟨hc, hvf, _⟩ := E.errE_ok h0
    obtain ⟨d, hd⟩ := E.check_diffs hc
    obtain ⟨s1, s2, s3, s4⟩ := side_of hd hvf h
    have hb := rafter_bd hd hvf h
    have hp := E.valid_places hvf
    have key : whereL (E.rafter f d h).ins (E.rafter f d h).wilds (outF (ordF (E.rafter f d h).people) (E.rafter f d h).ins) p = standV f l h p := by
      rw [s3, s1, s2]
      unfold standV
      rw [hd]
      rfl
    have := Stand_ref f A n c l h p (E.rafter f d h) w hn hr hm (fun _ => AfterP_of hd hvf h) (fun _ => hb) (fun _ => by omega)
    rw [key] at this
    exact this
  · refine (Stand_ref f A n c l h p E.Rs.new w hn hr hm (fun q => absurd q h0) (fun q => absurd q h0) (fun q => absurd q h0)).mono ?_
    rintro e w' ⟨rfl, hb⟩
    refine ⟨?_, hb⟩
    unfold StandVal
    rw [if_neg h0, if_neg h0]
theorem standVal_form (f : E.Fd) (l : List E.Nt) (h p : Int) : ∃ a b e1, StandVal f l h p = .tuple #[.int .i64 a, .int .i64 b, .int .i64 e1] := by
  unfold StandVal
  split
  · exact ⟨_, _, _, rfl⟩
  · exact ⟨_, _, _, rfl⟩
theorem open_form (f : E.Fd) (A : Option Addr) (n c : Nat) (l : List E.Nt) (w : World) (hn : l.length = n) (hr : RdN w w.heap.size A l) (hid : ∀ x ∈ l, (Lit.int .i64 x.id).wf = true) (hm : n ≤ 1000000) :
    Calls Try.prog 28 #[.agg #[.int .i64 f.places, .int .i64 f.wilds, .int .i64 f.guards, .int .i64 f.close, .int .i64 f.freeze], .slice A n c] w fun e w' => ∃ (g1 g2 g3 g4 g5 : Int) (A' : Option Addr) (m' c' : Nat), e = .returned (.tuple #[.agg #[.int .i64 g1, .int .i64 g2, .int .i64 g3, .int .i64 g4, .int .i64 g5, .slice A' m' c'], .int .i64 (E.checkE f l)]) ∧ Below w.heap.size w w' := by
  refine (open_any f A n c l w hn hr hid hm).mono ?_
  rintro e w' ⟨(⟨h0, rfl⟩ | ⟨h0, d, A', c', hd, rfl, _⟩), hb⟩
  · exact ⟨0, 0, 0, 0, 0, none, 0, 0, rfl, hb⟩
  · exact ⟨_, _, _, _, _, A', d.length, c', by rw [h0]; rfl, hb⟩
set_option maxHeartbeats 1600000 in
set_option maxRecDepth 100000 in
theorem Check_any (f : E.Fd) (A : Option Addr) (n c : Nat) (l : List E.Nt) (w : World) (hn : l.length = n) (hr : RdN w w.heap.size A l) (hid : ∀ x ∈ l, (Lit.int .i64 x.id).wf = true) (hm : n ≤ 1000000) :
    Calls Try.prog 12 #[.agg #[.int .i64 f.places, .int .i64 f.wilds, .int .i64 f.guards, .int .i64 f.close, .int .i64 f.freeze], .slice A n c] w fun e w' => e = .returned (.int .i64 (E.checkE f l)) ∧ Below w.heap.size w w' := by
  have HN := hide hn
  have HR := hide hr
  have HID := hide hid
  have HM := hide hm
  clear hn hr hid hm
  obtain ⟨ce, hce⟩ : ∃ q, E.checkE f l = q := ⟨_, rfl⟩
  have HCE := hide hce
  rw [hce]
  clear hce
  go_enter Try.func12, Try.ntmps12
  obtain ⟨w0, hw0⟩ : ∃ q, w.alloc (.cells #[.int .i64 f.places, .int .i64 f.wilds, .int .i64 f.guards, .int .i64 f.close, .int .i64 f.freeze] 23) = q := ⟨_, rfl⟩
  have HB0 := hide (show Below w.heap.size w w0 by rw [← hw0]; (repeat' first | exact zbR _ _ | assumption | refine zbD ?_ | refine zbA ?_ ?_ _ | refine zbS ?_ ?_ _ | refine zbT ?_ (by assumption) ?_ | (simp; done) | (simp; omega) | omega))
  have HW0 := hide hw0
  clear hw0
  go_wp2_with (go_at_call 28; rw [HW0.out]; refine (open_form f A n c l w0 HN.out ((HR.out.below HB0.out).mono HB0.out.size) HID.out HM.out).mono ?_; rintro e w2 ⟨g1, g2, g3, g4, g5, A', m', c', rfl, hb2⟩; rw [HCE.out]; have HB2 := hide (zbT HB0.out hb2 HB0.out.size); clear hb2)
  go_ret
  exact ⟨rfl, zbA HB2.out HB2.out.size _⟩
end Go.Proofs.Ytdhaalonnmajkaa

namespace Go.Proofs.Ytdhaalonnmajkaa
open Go.RowKit Go.Sort
attribute [local go_sem ↓] Go.wp_at_zero Go.wp_at_succ run_neq_nt

set_option maxHeartbeats 6400000 in
set_option maxRecDepth 100000 in
theorem listsLaw_any (f : E.Fd) (A : Option Addr) (n c : Nat) (l : List E.Nt) (h p : Int) (w : World) (hn : l.length = n) (hr : RdN w w.heap.size A l) (hid : ∀ x ∈ l, (Lit.int .i64 x.id).wf = true) (hm : n ≤ 1000000) (hcap : A = none → c = 0) :
    Calls Try.prog 3 #[.agg #[.int .i64 f.places, .int .i64 f.wilds, .int .i64 f.guards, .int .i64 f.close, .int .i64 f.freeze], .slice A n c, .agg #[.int .i64 h, .int .i64 p]] w fun e w' => e = .returned (.bool true) ∧ Below w.heap.size w w' := by
  have HN := hide hn
  have HR := hide hr
  have HID := hide hid
  have HM := hide hm
  have HCAP := hide hcap
  clear hn hr hid hcap
  have HFA := fun W => hide (Far_any A n c W hm)
  obtain ⟨fb, hfb⟩ : ∃ fb, E.farB n = fb := ⟨_, rfl⟩
  have HFB := hide hfb
  rw [hfb] at HFA
  clear hfb hm
  cases fb
  · have hn100 : n ≤ 100 := by
      have h1 := HFB.out
      unfold E.farB at h1
      simp only [Bool.or_eq_false_iff, decide_eq_false_iff_not] at h1
      omega
    obtain ⟨ce, hce⟩ : ∃ q, E.checkE f l = q := ⟨_, rfl⟩
    have HCE := hide hce
    obtain ⟨e0, he0⟩ : ∃ q, E.errE f l h 0 = q := ⟨_, rfl⟩
    have HE0 := hide he0
    obtain ⟨M, C, O, P, hlv⟩ : ∃ M C O P, listV f l h = (M, C, O, P) := ⟨_, _, _, _, rfl⟩
    have HLV := hide hlv
    obtain ⟨sa, sb, se, hsv⟩ := standVal_form f l h p
    have HSV := hide hsv
    have HBD := hide (listV_bd hlv)
    clear hce he0 hlv hsv
    go_enter Try.func3, Try.ntmps3
    obtain ⟨w0, hw0⟩ : ∃ w0, (w.alloc (.cells #[.int .i64 f.places, .int .i64 f.wilds, .int .i64 f.guards, .int .i64 f.close, .int .i64 f.freeze] 23)).alloc (.cells #[.int .i64 h, .int .i64 p] 26) = w0 := ⟨_, rfl⟩
    have HB0 := hide (show Below w.heap.size w w0 by rw [← hw0]; (repeat' first | exact zbR _ _ | assumption | refine zbD ?_ | refine zbA ?_ ?_ _ | refine zbS ?_ ?_ _ | refine zbT ?_ (by assumption) ?_ | (simp; done) | (simp; omega) | omega))
    have HS0 := hide (show w0.heap.size = w.heap.size + 1 + 1 by rw [← hw0]; simp)
    have HF0 := hide (show w0.heap[w.heap.size]? = some (.cells #[.int .i64 f.places, .int .i64 f.wilds, .int .i64 f.guards, .int .i64 f.close, .int .i64 f.freeze] 23 (0, 0)) by rw [← hw0]; exact (Below.heap_alloc _ _ _ (by first | (simp; done) | (simp; omega) | omega)).trans (World.alloc_heap_new _ _))
    have HA0 := hide (show w0.heap[w.heap.size + 1]? = some (.cells #[.int .i64 h, .int .i64 p] 26 (0, 0)) by rw [← hw0]; exact (congrArg _ (by simp)).trans (World.alloc_heap_new _ _))
    have HR0 := hide ((HR.out.below HB0.out).mono HB0.out.size)
    have HW0 := hide hw0
    clear hw0
    go_upto_region 3 with (go_at_call 10; rw [HW0.out]; refine (HFA w0).out.mono ?_; rintro e w' ⟨rfl, rfl⟩)
    (try rw [HW0.out])
    go_upto_region 4 with (at_builtin; refine wpList_app_Ns rfl (.tmp 22) (.tmp 23) rfl w0.heap.size (.slice (some ⟨w0.heap.size, 0, none⟩) 0 0) [] 0 rfl (ownsN_empty (World.alloc_heap_new w0 _) (Nat.le_refl _)) rfl A n c l rfl HN.out ((HR0.out.below (zbA (zbR _ _) (Nat.le_refl _) _)).mono (by simp)) HCAP.out (by omega) (by omega) (by simp) n (by omega) ?_; intro A7 c7 w2 hown hgrow; have HO2 := hide (show w2.ownsRow w0.heap.size 40 5 (.slice A7 n c7) n (flatN l) from hown); have HB2 := hide ((zbA (zbR w0.heap.size w0) (Nat.le_refl _) _).trans (grown_below (B := w0.heap.size) hgrow (by simp) (fun g hg => by have h1 : w0.heap.size = g := Option.some.inj hg; omega))); clear hown hgrow)
    have HF2 := hide ((HB2.out.block _ (by have := HS0.out; omega)).trans HF0.out)
    have HA2 := hide ((HB2.out.block _ (by have := HS0.out; omega)).trans HA0.out)
    have RL2 := hide ((HR0.out.below HB2.out).mono HB2.out.size)
    have HBW2 := hide (zbT HB0.out HB2.out HB0.out.size)
    go_cut [31] from 19 (fun v31 wx => v31 = .bool false ∧ Hid (Below w2.heap.size w2 wx))
    case first =>
      rename_i J0 K0 hJ0 hK0
      have hSof : ∀ w', Below w2.heap.size w2 w' → Below w2.heap.size w2 w' ∧ w'.cell? ⟨w.heap.size, 0, none⟩ = some (.int .i64 f.places) ∧ w'.cell? ⟨w.heap.size, 1, none⟩ = some (.int .i64 f.wilds) ∧ w'.cell? ⟨w.heap.size, 2, none⟩ = some (.int .i64 f.guards) ∧ w'.cell? ⟨w.heap.size, 3, none⟩ = some (.int .i64 f.close) ∧ w'.cell? ⟨w.heap.size, 4, none⟩ = some (.int .i64 f.freeze) ∧ w.heap.size < w'.heap.size := fun w' hb => by
        have hF := (hb.block _ (blk_lt HF2.out)).trans HF2.out
        exact ⟨hb, (blk_cell hF 0).trans rfl, (blk_cell hF 1).trans rfl, (blk_cell hF 2).trans rfl, (blk_cell hF 3).trans rfl, (blk_cell hF 4).trans rfl, blk_lt hF⟩
      have hS : (fun w' => Below w2.heap.size w2 w' ∧ w'.cell? ⟨w.heap.size, 0, none⟩ = some (.int .i64 f.places) ∧ w'.cell? ⟨w.heap.size, 1, none⟩ = some (.int .i64 f.wilds) ∧ w'.cell? ⟨w.heap.size, 2, none⟩ = some (.int .i64 f.guards) ∧ w'.cell? ⟨w.heap.size, 3, none⟩ = some (.int .i64 f.close) ∧ w'.cell? ⟨w.heap.size, 4, none⟩ = some (.int .i64 f.freeze) ∧ w.heap.size < w'.heap.size) w2 := hSof _ (zbR _ _)
      (try dsimp only at hS)
      refine wp_region_held_drew (S := (fun w' => Below w2.heap.size w2 w' ∧ w'.cell? ⟨w.heap.size, 0, none⟩ = some (.int .i64 f.places) ∧ w'.cell? ⟨w.heap.size, 1, none⟩ = some (.int .i64 f.wilds) ∧ w'.cell? ⟨w.heap.size, 2, none⟩ = some (.int .i64 f.guards) ∧ w'.cell? ⟨w.heap.size, 3, none⟩ = some (.int .i64 f.close) ∧ w'.cell? ⟨w.heap.size, 4, none⟩ = some (.int .i64 f.freeze) ∧ w.heap.size < w'.heap.size)) (by kernel_rfl) ?_ (fun hD0 => ?_)
      · (try dsimp only); first | assumption | exact hSof _ (zbD (zbR _ _))
      refine tW ?_ 0 rfl (by kernel_rfl) (fun _ _ _ h => h) (by rfl) (by assumption) ?_ ?_; rotate_left; (focus (intro w hSw; (try dsimp only at hSw); go_simp; try with_reducible rfl)); try simp only [Act.put, zl, z0, z1]
      refine tW ?_ 1 rfl (by kernel_rfl) (fun _ _ _ h => h) (by rfl) (by assumption) ?_ ?_; rotate_left; (focus (intro w hSw; (try dsimp only at hSw); go_simp; try with_reducible rfl)); try simp only [Act.put, zl, z0, z1]
      refine tW ?_ 3 rfl (by kernel_rfl) (fun _ _ _ h => h) (by rfl) (by assumption) ?_ ?_; rotate_left; (focus (intro w hSw; (try dsimp only at hSw); go_simp; try with_reducible rfl)); try simp only [Act.put, zl, z0, z1]
      refine tW ?_ 4 rfl (by kernel_rfl) (fun _ _ _ h => h) (by rfl) (by assumption) ?_ ?_; rotate_left; (focus (intro w hSw; (try dsimp only at hSw); go_simp; try with_reducible rfl)); try simp only [Act.put, zl, z0, z1]
      refine wpAnyH_ready (rs := [2]) (by kernel_rfl) (by simp) ?_; refine consL 2 rfl (fun K hK => ?_) AllReadyH.nil
      (go_simp; go_at_call 12; refine (Check_any f A7 n c7 l _ HN.out ((owns_RdN (owns_below HO2.out hD0.1) HN.out)) HID.out HM.out).mono ?_; rintro e w' ⟨rfl, hb⟩; rw [HCE.out]; have hSn := hSof _ (zbT hD0.1 hb hD0.1.size); clear hb; (try dsimp only at hSn))
      refine hK.out _ _ ?_ (fun hD1 => ?_)
      · (try dsimp only); first | assumption | exact hSof _ (zbD (zbR _ _))
      clear hK K hD0; try simp only [Act.put, zl, z0, z1]
      refine wpAnyH_ready (rs := [5]) (by kernel_rfl) (by simp) ?_; refine consL 5 rfl (fun K hK => ?_) AllReadyH.nil
      (go_simp; go_at_call 13; refine (refCheck_any f A n c l _ HN.out ((RL2.out.below hD1.1).mono hD1.1.size) HM.out).mono ?_; rintro e w' ⟨rfl, hb⟩; rw [HCE.out]; have hSn := hSof _ (zbT hD1.1 hb hD1.1.size); clear hb; (try dsimp only at hSn))
      refine hK.out _ _ ?_ (fun hD2 => ?_)
      · (try dsimp only); first | assumption | exact hSof _ (zbD (zbR _ _))
      clear hK K hD1; try simp only [Act.put, zl, z0, z1]
      refine tW ?_ 6 rfl (by kernel_rfl) (fun _ _ _ h => h) (by rfl) (by assumption) ?_ ?_; rotate_left; (focus (intro w hSw; (try dsimp only at hSw); go_simp; try with_reducible rfl)); try simp only [Act.put, zl, z0, z1]
      refine wpAnyH_done (by kernel_rfl) ?_ _
      all_goals
        (try dsimp only [Act.put, List.getElem_toArray, List.getElem_cons_succ, List.getElem_cons_zero])
        (try simp only [zl, z0, z1])
        have HBX := hide hSn.1
        clear hSn hS hSof
        (first | refine hK0 _ _ (Met.intro (hJ0 _ _ ?_)) | refine Met.intro (hJ0 _ _ ?_) | refine hJ0 _ _ ?_)
        (repeat apply Exists.intro)
        refine ⟨?rel, rfl⟩
        case rel => exact ⟨by simp, HBX⟩
    case rest =>
      obtain ⟨rfl, HBX⟩ := hcut
      obtain ⟨w3, hw3⟩ : ∃ q, wc = q := ⟨_, rfl⟩
      rw [hw3] at HBX ⊢
      clear hw3
      have HF3 := hide ((HBX.out.block _ (blk_lt HF2.out)).trans HF2.out)
      have HA3 := hide ((HBX.out.block _ (blk_lt HA2.out)).trans HA2.out)
      have RL3 := hide ((RL2.out.below HBX.out).mono HBX.out.size)
      have RO3 := hide ((owns_RdN (owns_below HO2.out HBX.out) HN.out))
      have HBW3 := hide (zbT HBW2.out HBX.out HBW2.out.size)
      clear HO2 HBX RL2 HF2 HA2 HBW2
      have x30 : w3.cell? ⟨w.heap.size, 0, none⟩ = some (.int .i64 f.places) := (blk_cell HF3.out 0).trans rfl
      have x31 : w3.cell? ⟨w.heap.size, 1, none⟩ = some (.int .i64 f.wilds) := (blk_cell HF3.out 1).trans rfl
      have x32 : w3.cell? ⟨w.heap.size, 2, none⟩ = some (.int .i64 f.guards) := (blk_cell HF3.out 2).trans rfl
      have x33 : w3.cell? ⟨w.heap.size, 3, none⟩ = some (.int .i64 f.close) := (blk_cell HF3.out 3).trans rfl
      have x34 : w3.cell? ⟨w.heap.size, 4, none⟩ = some (.int .i64 f.freeze) := (blk_cell HF3.out 4).trans rfl
      have y30 : w3.cell? ⟨w.heap.size + 1, 0, none⟩ = some (.int .i64 h) := (blk_cell HA3.out 0).trans rfl
      have y31 : w3.cell? ⟨w.heap.size + 1, 1, none⟩ = some (.int .i64 p) := (blk_cell HA3.out 1).trans rfl
      have l3f := blk_lt HF3.out
      have l3a := blk_lt HA3.out
      go_upto_region 7 with (go_at_call 14; with_reducible refine (prog_list f A7 n c7 l h e0 M C O P w3 HN.out RO3.out HID.out HM.out HE0.out HLV.out).mono ?_; rintro e w4 ⟨a1, k1, a2, k2, a3, k3, rfl, hm1, hm2, hm3, hb⟩; have HM1 := hide hm1; have HM2 := hide hm2; have HM3 := hide hm3; have HB4 := hide hb; clear hm1 hm2 hm3 hb; have HF4 := hide ((HB4.out.block _ (blk_lt HF3.out)).trans HF3.out); have HA4 := hide ((HB4.out.block _ (blk_lt HA3.out)).trans HA3.out))
      clear x30 x31 x32 x33 x34 y30 y31 l3f l3a
      obtain ⟨w5, hw5⟩ : ∃ q, w4.alloc (.cells #[.slice a1 M.length k1, .slice a2 C.length k2, .slice a3 O.length k3, .int .i64 P] 33) = q := ⟨_, rfl⟩
      have HQ5 := hide (show w5.heap[w4.heap.size]? = some (.cells #[.slice a1 M.length k1, .slice a2 C.length k2, .slice a3 O.length k3, .int .i64 P] 33 (0, 0)) by rw [← hw5]; exact World.alloc_heap_new _ _)
      have HB45 := hide (show Below w4.heap.size w4 w5 by rw [← hw5]; exact zbA (zbR _ _) (Nat.le_refl _) _)
      have HB5 := hide (zbT HB4.out HB45.out HB4.out.size)
      rw [hw5]
      clear hw5
      obtain ⟨qa, hqa⟩ : ∃ q, w4.heap.size = q := ⟨_, rfl⟩
      have HM1' := hide ((HM1.out.below HB45.out).mono HB45.out.size)
      have HM2' := hide ((HM2.out.below HB45.out).mono HB45.out.size)
      have HM3' := hide ((HM3.out.below HB45.out).mono HB45.out.size)
      rw [hqa] at HQ5 ⊢
      clear HM1 HM2 HM3 hqa
      skip
      have HF5 := hide ((HB5.out.block _ (blk_lt HF3.out)).trans HF3.out)
      have HA5 := hide ((HB5.out.block _ (blk_lt HA3.out)).trans HA3.out)
      have x50 : w5.cell? ⟨w.heap.size, 0, none⟩ = some (.int .i64 f.places) := (blk_cell HF5.out 0).trans rfl
      have x51 : w5.cell? ⟨w.heap.size, 1, none⟩ = some (.int .i64 f.wilds) := (blk_cell HF5.out 1).trans rfl
      have x52 : w5.cell? ⟨w.heap.size, 2, none⟩ = some (.int .i64 f.guards) := (blk_cell HF5.out 2).trans rfl
      have x53 : w5.cell? ⟨w.heap.size, 3, none⟩ = some (.int .i64 f.close) := (blk_cell HF5.out 3).trans rfl
      have x54 : w5.cell? ⟨w.heap.size, 4, none⟩ = some (.int .i64 f.freeze) := (blk_cell HF5.out 4).trans rfl
      have y50 : w5.cell? ⟨w.heap.size + 1, 0, none⟩ = some (.int .i64 h) := (blk_cell HA5.out 0).trans rfl
      have y51 : w5.cell? ⟨w.heap.size + 1, 1, none⟩ = some (.int .i64 p) := (blk_cell HA5.out 1).trans rfl
      have l5f := blk_lt HF5.out
      have l5a := blk_lt HA5.out
      go_upto_region 8 with (go_at_call 15; with_reducible refine (ref_list f A n c l h e0 M C O P w5 HN.out ((RL3.out.below HB5.out).mono HB5.out.size) HM.out HE0.out HLV.out).mono ?_; rintro e w6 ⟨b1, j1, b2, j2, b3, j3, rfl, hm1, hm2, hm3, hb⟩; have HN1 := hide hm1; have HN2 := hide hm2; have HN3 := hide hm3; have HB56 := hide hb; have HB6 := hide (zbT HB5.out hb HB5.out.size); clear hm1 hm2 hm3 hb)
      clear x50 x51 x52 x53 x54 y50 y51 l5f l5a
      obtain ⟨w7, hw7⟩ : ∃ q, w6.alloc (.cells #[.slice b1 M.length j1, .slice b2 C.length j2, .slice b3 O.length j3, .int .i64 P] 33) = q := ⟨_, rfl⟩
      have HQ7 := hide (show w7.heap[w6.heap.size]? = some (.cells #[.slice b1 M.length j1, .slice b2 C.length j2, .slice b3 O.length j3, .int .i64 P] 33 (0, 0)) by rw [← hw7]; exact World.alloc_heap_new _ _)
      have HB67 := hide (show Below w6.heap.size w6 w7 by rw [← hw7]; exact zbA (zbR _ _) (Nat.le_refl _) _)
      have HB57 := hide (zbT HB56.out HB67.out HB56.out.size)
      have HB7 := hide (zbT HB5.out HB57.out HB5.out.size)
      rw [hw7]
      clear hw7
      obtain ⟨qb, hqb⟩ : ∃ q, w6.heap.size = q := ⟨_, rfl⟩
      have HN1' := hide ((HN1.out.below HB67.out).mono HB67.out.size)
      have HN2' := hide ((HN2.out.below HB67.out).mono HB67.out.size)
      have HN3' := hide ((HN3.out.below HB67.out).mono HB67.out.size)
      have HQ57 := hide ((HB57.out.block _ (blk_lt HQ5.out)).trans HQ5.out)
      rw [hqb] at HQ7 ⊢
      clear HN1 HN2 HN3 hqb HB56 HB67 HB45
      have HF7 := hide ((HB7.out.block _ (blk_lt HF3.out)).trans HF3.out)
      have HA7 := hide ((HB7.out.block _ (blk_lt HA3.out)).trans HA3.out)
      have x70 : w7.cell? ⟨w.heap.size, 0, none⟩ = some (.int .i64 f.places) := (blk_cell HF7.out 0).trans rfl
      have x71 : w7.cell? ⟨w.heap.size, 1, none⟩ = some (.int .i64 f.wilds) := (blk_cell HF7.out 1).trans rfl
      have x72 : w7.cell? ⟨w.heap.size, 2, none⟩ = some (.int .i64 f.guards) := (blk_cell HF7.out 2).trans rfl
      have x73 : w7.cell? ⟨w.heap.size, 3, none⟩ = some (.int .i64 f.close) := (blk_cell HF7.out 3).trans rfl
      have x74 : w7.cell? ⟨w.heap.size, 4, none⟩ = some (.int .i64 f.freeze) := (blk_cell HF7.out 4).trans rfl
      have y70 : w7.cell? ⟨w.heap.size + 1, 0, none⟩ = some (.int .i64 h) := (blk_cell HA7.out 0).trans rfl
      have y71 : w7.cell? ⟨w.heap.size + 1, 1, none⟩ = some (.int .i64 p) := (blk_cell HA7.out 1).trans rfl
      have l7f := blk_lt HF7.out
      have l7a := blk_lt HA7.out
      go_upto_region 9 with (go_at_call 16; with_reducible refine (Stand_any f A7 n c7 l h p w7 HN.out ((RO3.out.below HB7.out).mono HB7.out.size) HID.out HM.out).mono ?_; rintro e w8 ⟨rfl, hb⟩; rw [HSV.out]; have HB78 := hide hb; have HB8 := hide (zbT HB7.out hb HB7.out.size); clear hb)
      clear x70 x71 x72 x73 x74 y70 y71 l7f l7a
      have HF8 := hide ((HB8.out.block _ (blk_lt HF3.out)).trans HF3.out)
      have HA8 := hide ((HB8.out.block _ (blk_lt HA3.out)).trans HA3.out)
      have x80 : w8.cell? ⟨w.heap.size, 0, none⟩ = some (.int .i64 f.places) := (blk_cell HF8.out 0).trans rfl
      have x81 : w8.cell? ⟨w.heap.size, 1, none⟩ = some (.int .i64 f.wilds) := (blk_cell HF8.out 1).trans rfl
      have x82 : w8.cell? ⟨w.heap.size, 2, none⟩ = some (.int .i64 f.guards) := (blk_cell HF8.out 2).trans rfl
      have x83 : w8.cell? ⟨w.heap.size, 3, none⟩ = some (.int .i64 f.close) := (blk_cell HF8.out 3).trans rfl
      have x84 : w8.cell? ⟨w.heap.size, 4, none⟩ = some (.int .i64 f.freeze) := (blk_cell HF8.out 4).trans rfl
      have y80 : w8.cell? ⟨w.heap.size + 1, 0, none⟩ = some (.int .i64 h) := (blk_cell HA8.out 0).trans rfl
      have y81 : w8.cell? ⟨w.heap.size + 1, 1, none⟩ = some (.int .i64 p) := (blk_cell HA8.out 1).trans rfl
      have l8f := blk_lt HF8.out
      have l8a := blk_lt HA8.out
      go_upto_region 10 with (go_at_call 17; with_reducible refine (ref_stand f A n c l h p w8 HN.out ((RL3.out.below HB8.out).mono HB8.out.size) HM.out).mono ?_; rintro e w9 ⟨rfl, hb⟩; rw [HSV.out]; have HB79 := hide (zbT HB78.out hb HB78.out.size); have HB9 := hide (zbT HB8.out hb HB8.out.size); clear hb)
      clear x80 x81 x82 x83 x84 y80 y81 l8f l8a
      have HQa := hide ((HB79.out.block _ (Nat.lt_of_lt_of_le (blk_lt HQ5.out) HB57.out.size)).trans HQ57.out)
      have HQb := hide ((HB79.out.block _ (blk_lt HQ7.out)).trans HQ7.out)
      have HBA := hide (zbT HB57.out HB79.out HB57.out.size)
      have qa0 : w9.cell? ⟨qa, 0, none⟩ = some (.slice a1 M.length k1) := (blk_cell HQa.out 0).trans rfl
      have qa1 : w9.cell? ⟨qa, 1, none⟩ = some (.slice a2 C.length k2) := (blk_cell HQa.out 1).trans rfl
      have qa2 : w9.cell? ⟨qa, 2, none⟩ = some (.slice a3 O.length k3) := (blk_cell HQa.out 2).trans rfl
      have qa3 : w9.cell? ⟨qa, 3, none⟩ = some (.int .i64 P) := (blk_cell HQa.out 3).trans rfl
      have qb0 : w9.cell? ⟨qb, 0, none⟩ = some (.slice b1 M.length j1) := (blk_cell HQb.out 0).trans rfl
      have qb1 : w9.cell? ⟨qb, 1, none⟩ = some (.slice b2 C.length j2) := (blk_cell HQb.out 1).trans rfl
      have qb2 : w9.cell? ⟨qb, 2, none⟩ = some (.slice b3 O.length j3) := (blk_cell HQb.out 2).trans rfl
      have qb3 : w9.cell? ⟨qb, 3, none⟩ = some (.int .i64 P) := (blk_cell HQb.out 3).trans rfl
      have lqa := blk_lt HQa.out
      have lqb := blk_lt HQb.out
      have n1 : (e0 != e0) = false := by simp
      have n2 : (sa != sa) = false := by simp
      have n3 : (sb != sb) = false := by simp
      have n4 : (se != se) = false := by simp
      go_upto_region 13 with (go_at_call 18; with_reducible refine (same_any a1 a2 a3 b1 b2 b3 k1 k2 k3 j1 j2 j3 M C O P w9 HBD.out.1 HBD.out.2.1 HBD.out.2.2 ((HM1'.out.below HBA.out).mono HBA.out.size) ((HM2'.out.below HBA.out).mono HBA.out.size) ((HM3'.out.below HBA.out).mono HBA.out.size) ((HN1'.out.below HB79.out).mono HB79.out.size) ((HN2'.out.below HB79.out).mono HB79.out.size) ((HN3'.out.below HB79.out).mono HB79.out.size)).mono ?_; rintro e w10 ⟨rfl, hb⟩; have HB10 := hide (zbT HB9.out hb HB9.out.size); clear hb)
      skip
      clear qa0 qa1 qa2 qa3 qb0 qb1 qb2 qb3 lqa lqb n1 n2 n3 n4
      have RL9 := hide ((RL3.out.below HB10.out).mono HB10.out.size)
      have RO9 := hide ((RO3.out.below HB10.out).mono HB10.out.size)
      have HBWA := hide (zbT HBW3.out HB10.out HBW3.out.size)
      go_loopw [18] (fun i wr => ∃ i' : Nat, i' ≤ n ∧ i = .int .i64 i' ∧ Hid (Below w10.heap.size w10 wr)) (fun i _ => n - (intOf i).toNat)
      case atStart => exact ⟨0, by omega, rfl, hide (Below.refl _ _)⟩
      case round =>
        obtain ⟨i, hi, rfl, HBk⟩ := hrel
        by_cases hin : i < n
        · obtain ⟨x, hx⟩ : ∃ q, l[i]? = some q := ⟨_, List.getElem?_eq_getElem (by have := HN.out; omega)⟩
          have HX := hide hx
          have hi1 : (i : Int) < (n : Int) := by omega
          have hi0 : (0 : Int) ≤ (i : Int) := by omega
          clear hx
          go_upto_region 15 with fail
          obtain ⟨V, hV⟩ : ∃ V, (wr).drew = V := ⟨_, rfl⟩
          have HBV := hide (show Below w10.heap.size w10 V by rw [← hV]; exact zbD HBk.out)
          obtain ⟨bl, ol, hAl, _, xc0, xc1, xc2, xc3, xc4⟩ := (RL9.out.below HBV.out) i x HX.out
          subst hAl
          obtain ⟨bq, oq, hAq, _, yc0, yc1, yc2, yc3, yc4⟩ := (RO9.out.below HBV.out) i x HX.out
          subst hAq
          refine wp_region_still_lit (by kernel_rfl) (by kernel_rfl) ?_
          change wpStill _ _ (wr).drew (fun a' => Exit.then _ _ Exit.normal a' (wr).drew) _ _
          rw [hV]
          clear hV
          with_reducible refine stTake (v := ?_) (by kernel_rfl) ?_ ?_; rotate_left
          · (go_simp; (try with_reducible rfl))
          (try simp only [Act.put, zl, List.set_cons_zero, List.set_cons_succ])
          with_reducible refine stTake (v := ?_) (by kernel_rfl) ?_ ?_; rotate_left
          · (go_simp; (try with_reducible rfl))
          (try simp only [Act.put, zl, List.set_cons_zero, List.set_cons_succ])
          with_reducible refine stTake (v := ?_) (by kernel_rfl) ?_ ?_; rotate_left
          · (go_simp; (try with_reducible rfl))
          (try simp only [Act.put, zl, List.set_cons_zero, List.set_cons_succ])
          with_reducible refine stTake (v := ?_) (by kernel_rfl) ?_ ?_; rotate_left
          · (go_simp; (try with_reducible rfl))
          (try simp only [Act.put, zl, List.set_cons_zero, List.set_cons_succ])
          with_reducible refine stTake (v := ?_) (by kernel_rfl) ?_ ?_; rotate_left
          · (go_simp; (try with_reducible rfl))
          (try simp only [Act.put, zl, List.set_cons_zero, List.set_cons_succ])
          with_reducible refine stTake (v := ?_) (by kernel_rfl) ?_ ?_; rotate_left
          · (go_simp; (try with_reducible rfl))
          (try simp only [Act.put, zl, List.set_cons_zero, List.set_cons_succ])
          with_reducible refine stTake (v := ?_) (by kernel_rfl) ?_ ?_; rotate_left
          · (go_simp; (try with_reducible rfl))
          (try simp only [Act.put, zl, List.set_cons_zero, List.set_cons_succ])
          with_reducible refine stTake (v := ?_) (by kernel_rfl) ?_ ?_; rotate_left
          · (go_simp; (try with_reducible rfl))
          (try simp only [Act.put, zl, List.set_cons_zero, List.set_cons_succ])
          with_reducible refine stTake (v := ?_) (by kernel_rfl) ?_ ?_; rotate_left
          · (go_simp; (try with_reducible rfl))
          (try simp only [Act.put, zl, List.set_cons_zero, List.set_cons_succ])
          refine wpStill_nil ?_
          clear xc0 xc1 xc2 xc3 xc4 yc0 yc1 yc2 yc3 yc4
          go_wp2_with fail
          go_roundw
          case rel => exact ⟨i + 1, by omega, by go_num, HBV⟩
          case measure => simp [intOf]; omega
        · have hin2 : i = n := by omega
          subst hin2
          have HBWk := hide (zbT HBWA.out HBk.out HBWA.out.size)
          go_wp2_with (go_at_call 11; refine (works_any _).mono ?_; rintro e w9 ⟨rfl, hb9⟩; have HB9 := hide (zbT HBWk.out hb9 HBWk.out.size); clear hb9)
          go_ret
          exact ⟨rfl, HB9.out⟩
  · go_enter Try.func3, Try.ntmps3
    obtain ⟨w0, hw0⟩ : ∃ w0, (w.alloc (.cells #[.int .i64 f.places, .int .i64 f.wilds, .int .i64 f.guards, .int .i64 f.close, .int .i64 f.freeze] 23)).alloc (.cells #[.int .i64 h, .int .i64 p] 26) = w0 := ⟨_, rfl⟩
    have HB0 := hide (show Below w.heap.size w w0 by rw [← hw0]; (repeat' first | exact zbR _ _ | assumption | refine zbD ?_ | refine zbA ?_ ?_ _ | refine zbS ?_ ?_ _ | refine zbT ?_ (by assumption) ?_ | (simp; done) | (simp; omega) | omega))
    have HS0 := hide (show w0.heap.size = w.heap.size + 1 + 1 by rw [← hw0]; simp)
    have HF0 := hide (show w0.heap[w.heap.size]? = some (.cells #[.int .i64 f.places, .int .i64 f.wilds, .int .i64 f.guards, .int .i64 f.close, .int .i64 f.freeze] 23 (0, 0)) by rw [← hw0]; exact (Below.heap_alloc _ _ _ (by first | (simp; done) | (simp; omega) | omega)).trans (World.alloc_heap_new _ _))
    have HA0 := hide (show w0.heap[w.heap.size + 1]? = some (.cells #[.int .i64 h, .int .i64 p] 26 (0, 0)) by rw [← hw0]; exact (congrArg _ (by simp)).trans (World.alloc_heap_new _ _))
    have HR0 := hide ((HR.out.below HB0.out).mono HB0.out.size)
    have HW0 := hide hw0
    clear hw0
    go_wp2_with (first | (go_at_call 10; rw [HW0.out]; refine (HFA w0).out.mono ?_; rintro e w' ⟨rfl, rfl⟩) | (go_at_call 11; refine (works_any _).mono ?_; rintro e w9 ⟨rfl, hb9⟩; have HB9 := hide (zbT (Below.refl w0.heap.size w0) hb9 (Below.refl w0.heap.size w0).size); clear hb9))
    go_ret
    exact ⟨rfl, zbT HB0.out HB9.out HB0.out.size⟩
end Go.Proofs.Ytdhaalonnmajkaa

namespace Go.Proofs.Ytdhaalonnmajkaa
open Go.ChangeShapes Go.WideShapes Go.ChangeAt Go.RowKit Go.Deep Go.Joins

theorem laidOut : laidOutB Try.prog = true := by kernel_rfl
section
variable {H : Type} {enc : TypeId × Value → H} {P : Program}

theorem trodAll_stays {W W' : World} {sp : Nat → Bool} (hl : laidOutB P = true) (hb : Below W.heap.size W W') : ∀ {ts : List TypeId} {vs : List Value} {ds : List (DataW H)} {ps : List MemPlace}, (∀ t ∈ ts, P.readableRec t = true ∧ t < P.types.size) → (∀ x ∈ ps, x.block < W.heap.size) → (∀ x ∈ ps, sp x.block = true) → DataW.TrodAll enc P W 0 (fun _ => true) true ts vs ds ps → DataW.TrodAll enc P W' 0 sp true ts vs ds ps
  | [], vs, ds, ps, _, _, _, h => by
    obtain ⟨rfl, rfl, rfl⟩ := trodAll_nil h
    exact trodAll_mk0
  | t :: ts, vs, ds, ps, hr, hlt, hsp, h => by
    obtain ⟨v, vs', d, ds', p, q, rfl, rfl, rfl, h0, h1⟩ := trodAll_cons h
    refine trodAll_cons_mk ?_ (trodAll_stays hl hb (fun t ht => hr t (List.mem_cons_of_mem _ ht)) (fun x hx => hlt x (List.mem_append_right _ hx)) (fun x hx => hsp x (List.mem_append_right _ hx)) h1)
    exact WideElems.Trod_stays hl (hr t (List.mem_cons_self ..)).1 (hr t (List.mem_cons_self ..)).2 h0 (fun x hx => hb.same (hlt x (List.mem_append_left _ hx))) (fun x hx => hsp x (List.mem_append_left _ hx))

theorem law_post {f : Func} {s : ChangeSpec} {fresh handsOn again : Bool} {W W' : World} {args : Array Value} {bt : TypeId} {ds gs : List (DataW H)} {before : List MemPlace}
    (hrt : f.resultTypes = #[bt]) (hbt : P.underlying bt = some .bool) (hsv : s.vars = []) (hs : s.fn H ds = { results := [.lit (.bool true)], args := ds }) (hl : laidOutB P = true) (hr : ∀ t ∈ f.params.toList, P.readableRec t = true ∧ t < P.types.size)
    (hW : DataW.Whole enc P f.params.toList s.vars false W args.toList ds gs before) (hb : Below W.heap.size W W') : s.post enc P f false fresh handsOn again W args (.bool true) W' := by
  have hlt : ∀ p ∈ before, p.block < W.heap.size := fun p hp => hW.lt p hp
  have hW1 := hW
  obtain ⟨p, q, hA, hV, hpq, hz, hn⟩ := hW
  rw [hsv] at hV
  obtain ⟨rfl, rfl⟩ := trodVars_none hV
  rw [List.append_nil] at hpq
  subst hpq
  have hs' : s.fn H (ds ++ []) = { results := [.lit (.bool true)], args := ds } := by rw [List.append_nil]; exact hs
  have hres : ∀ (b : Nat) (sp : Nat → Bool) (hd : Bool), DataW.TrodAll enc P W' b sp hd f.resultTypes.toList ((Value.bool true).resultList f.resultTypes.size) (s.fn H (ds ++ [])).results [] := by
    intro b sp hd
    rw [hs', hrt]
    exact trodAll_mk1 (shut_bool hbt true)
  have hargs : ∀ sp : Nat → Bool, (∀ x ∈ before, sp x.block = true) → DataW.TrodAll enc P W' 0 sp true f.params.toList args.toList (s.fn H (ds ++ [])).args before := by
    intro sp hsp
    rw [hs']
    exact trodAll_stays hl hb hr hlt hsp hA
  have hvars : ∀ sp : Nat → Bool, DataW.TrodVars enc P W' sp s.vars (s.fn H (ds ++ [])).vars [] := by
    intro sp
    rw [hs', hsv]
    rfl
  have hok : ∀ (j : Nat) (t : TypeId) (r : Value), f.resultTypes[j]? = some t → ((Value.bool true).resultList f.resultTypes.size)[j]? = some r → Value.okWide P W' .any 0 t r := by
    have := ok_one (P := P) (W' := W') (f := f) (v := .bool true) hrt rfl (okWide_bool_mk hbt true)
    exact this
  have hold : ∀ x ∈ before, (fun b => decide (b < W.heap.size)) x.block = true := fun x hx => by simpa using hlt x hx
  refine ⟨ds, [], before, [], before, [], hW1, hres _ _ _, hargs _ hold, hvars _, World.keptBut_mono (fun x hx => ⟨hx, ?_⟩) (hb.frame (· ∈ before)), fun _ => ?_⟩
  · first | exact Or.inr hx | exact Or.inr (Or.inl hx) | simpa using hx
  · refine ⟨hok, _, _, ([] ++ before) ++ [], ⟨[] ++ before, [], trodAll_append (hargs _ (fun _ _ => rfl)) (hres _ _ _), hvars _, rfl, ?_, fun ha => by cases ha⟩, ?_⟩
    · intro b off hx
      have hin : MemPlace.cell b off ∈ before := by simpa using hx
      rw [hb.frozen (hlt _ hin)]
      exact hz b off hin
    · exact fun p hp _ => by simpa using hp

theorem law_lift {C : Checked} {F : FuncId} {fn : Func} {s : ChangeSpec} {bt : TypeId} {os : Os} (started : os.Started) (own : ownKnob C.prog.godebug = none) (noInit : C.prog.inits.idxOf? F = none) (hfn : C.prog.funcs[F]? = some fn)
    (hrt : fn.resultTypes = #[bt]) (hbt : C.prog.underlying bt = some .bool) (hsv : s.vars = []) (hl : laidOutB C.prog = true) (hr : ∀ t ∈ fn.params.toList, C.prog.readableRec t = true ∧ t < C.prog.types.size)
    (hs : ∀ ds : List (DataW H), ds.length = fn.params.toList.length → s.fn H ds = { results := [.lit (.bool true)], args := ds })
    (witness : ∃ (w : World) (tape : Tape) (i : Input), w.os = os ∧ (w.forCall tape i).Shaped C.prog ∧ i.vars = [] ∧ Input.okWide C.prog (w.forCall tape i) .any w.heap.size F i ∧
      s.pre6 enc C.prog fn [] false (w.forCall tape i).memory i.args ∧ Assume.holds {} C.prog (lone (Frame.enter C.prog F i.args .normal) [] (w.forCall tape i)))
    (contract : ∀ (W : World) (base : Nat) (args : Array Value) (ds : List (DataW H)) (p : List MemPlace), (∀ (j : Nat) t v, fn.params[j]? = some t → args[j]? = some v → Value.okWide C.prog W .any base t v) →
      DataW.TrodAll enc C.prog W 0 (fun _ => true) true fn.params.toList args.toList ds p → (∀ x ∈ p, x.block < W.heap.size) → Calls C.prog F args W fun e w' => e = .returned (.bool true) ∧ Below W.heap.size W w') (fresh handsOn again : Bool) :
    ReturnsInHanded {} C os F .any (s.pre6 enc C.prog fn [] false) (s.post enc C.prog fn false fresh handsOn again) := by
  refine returnsInHanded_of_change own started noInit hfn witness ?_
  intro W base args ds gs before hval hW hc _
  have hW1 := hW
  obtain ⟨p, q, hA, hV, hpq, hz, hn⟩ := hW
  have hA1 : DataW.TrodAll enc C.prog W 0 (fun _ => true) true fn.params.toList args.toList ds p := hA
  rw [hsv] at hV
  obtain ⟨_, rfl⟩ := trodVars_none hV
  have hlen : ds.length = fn.params.toList.length := by
    clear hW1 hA hval hpq hc contract witness
    generalize fn.params.toList = ts at hA1
    generalize args.toList = vs at hA1
    induction ts generalizing vs ds p with
    | nil => obtain ⟨_, rfl, _⟩ := trodAll_nil hA1; rfl
    | cons t ts ih =>
      obtain ⟨_, _, _, _, _, _, rfl, rfl, rfl, _, h1⟩ := trodAll_cons hA1
      rw [List.length_cons, List.length_cons, ih _ _ _ h1]
  refine (contract W base args ds p hval hA1 (fun x hx => hW1.lt x (by rw [hpq]; exact List.mem_append_left _ hx))).mono fun e W' ⟨he, hb⟩ => ?_
  subst he
  exact ⟨_, rfl, law_post hrt hbt hsv (hs ds hlen) hl hr hW1 hb⟩
end

section
variable {H : Type} {enc : TypeId × Value → H} {w : World} {base : Nat} {spare : Nat → Bool} {held : Bool}
theorem trod_fields {P : Program} {t : TypeId} {fs : Array Field} {fuel : Nat} {cs : List Value} {x : DataW H × List MemPlace} (hs : P.underlying t = some (.struct fs)) (hone0 : (match P.underlying t with | some (.struct fs) => oneCellFields P fs && P.cellsOf t == fs.size | _ => false) = true)
    (h : DataW.trod enc P w base spare held fuel t cs = some x) :
    cs.length = fs.size ∧ ∀ (j : Nat) (f : Field), fs[j]? = some f → ∃ (c : Value) (y : DataW H × List MemPlace) (n : Nat), cs[j]? = some c ∧ DataW.trod enc P w base spare held n f.type [c] = some y := by
  rw [hs] at hone0
  simp only [Bool.and_eq_true, beq_iff_eq] at hone0
  obtain ⟨hone, hC⟩ := hone0
  obtain ⟨xs, n, _, _, hcl, hlen, hg⟩ := DataW.trod_struct hs h
  have hll : cs.length = fs.size := hcl.trans hC
  refine ⟨hll, fun j f hj => ?_⟩
  obtain ⟨o, k⟩ := hone_of hone j f hj
  have hjl : j < fs.size := (Array.getElem?_eq_some_iff.1 hj).1
  have h1 := hg j f hj
  rw [o, k] at h1
  have hone' : (cs.drop j).take 1 = [cs[j]'(by omega)] := by
    rw [List.drop_eq_getElem_cons (by omega)]
    rfl
  rw [hone', List.getElem?_eq_getElem (by omega)] at h1
  exact ⟨_, _, n, List.getElem?_eq_getElem (by omega), h1⟩

theorem open_fields {P : Program} {r : Reach} {b0 : Nat} {t : TypeId} {fs : Array Field} {v : Value} {d : DataW H} {p : List MemPlace} (hs : P.underlying t = some (.struct fs)) (hone0 : (match P.underlying t with | some (.struct fs) => oneCellFields P fs && P.cellsOf t == fs.size | _ => false) = true)
    (hv : Value.okWide P w r b0 t v) (h : DataW.Trod enc P w base spare held t v d p) :
    ∃ cs : List Value, v = .agg ⟨cs⟩ ∧ cs.length = fs.size ∧ ∀ (j : Nat) (f : Field), fs[j]? = some f → ∃ (c : Value) (y : DataW H × List MemPlace) (n : Nat), cs[j]? = some c ∧ DataW.trod enc P w base spare held n f.type [c] = some y := by
  obtain ⟨cs, rfl, hsz⟩ := okWide_struct hs hv
  obtain ⟨l⟩ := cs
  obtain ⟨fuel, hf⟩ := h
  have hcells : (Value.agg ⟨l⟩).cells.toList = l := by simp [Value.cells]
  rw [hcells] at hf
  exact ⟨l, rfl, trod_fields hs hone0 hf⟩

theorem spot_none {w : World} {a : Addr} {v : Value} (h : w.cell? a = some v) : a.spot = none ∧ a.block < w.heap.size := by
  unfold World.cell? at h
  split at h
  · rename_i hb
    refine ⟨?_, (Array.getElem?_eq_some_iff.1 hb).1⟩
    split at h
    · cases h
    · rename_i hs
      simpa using hs
  · cases h
theorem spot_first {w : World} {a : Addr} {v : Value} (h : w.cell? (a.add 0) = some v) : ∃ b o : Nat, a = ⟨b, o, none⟩ ∧ b < w.heap.size := by
  have e : a.add 0 = a := if_pos rfl
  rw [e] at h
  obtain ⟨hs, hb⟩ := spot_none h
  obtain ⟨b, o, s⟩ := a
  have hs' : s = none := hs
  subst hs'
  exact ⟨b, o, rfl, hb⟩
theorem fieldOne : (match Try.prog.underlying 23 with | some (.struct fs) => oneCellFields Try.prog fs && Try.prog.cellsOf 23 == fs.size | _ => false) = true := by kernel_rfl
set_option maxRecDepth 100000 in
theorem open_field {r : Reach} {b0 : Nat} {v : Value} {d : DataW H} {p : List MemPlace} (hv : Value.okWide Try.prog w r b0 23 v) (h : DataW.Trod enc Try.prog w base spare held 23 v d p) : ∃ f : E.Fd, v = .agg #[.int .i64 f.places, .int .i64 f.wilds, .int .i64 f.guards, .int .i64 f.close, .int .i64 f.freeze] := by
  obtain ⟨cs, rfl, hl, hf⟩ := open_fields Try.underlying23 fieldOne hv h
  match cs, hl with
  | [c0, c1, c2, c3, c4], _ =>
    obtain ⟨_, _, _, e0, h0⟩ := hf 0 _ rfl
    obtain ⟨_, _, _, e1, h1⟩ := hf 1 _ rfl
    obtain ⟨_, _, _, e2, h2⟩ := hf 2 _ rfl
    obtain ⟨_, _, _, e3, h3⟩ := hf 3 _ rfl
    obtain ⟨_, _, _, e4, h4⟩ := hf 4 _ rfl
    obtain ⟨n0, k0, _, w0⟩ := DataW.trod_int Try.underlying3 h0
    obtain ⟨n1, k1, _, w1⟩ := DataW.trod_int Try.underlying3 h1
    obtain ⟨n2, k2, _, w2⟩ := DataW.trod_int Try.underlying3 h2
    obtain ⟨n3, k3, _, w3⟩ := DataW.trod_int Try.underlying3 h3
    obtain ⟨n4, k4, _, w4⟩ := DataW.trod_int Try.underlying3 h4
    refine ⟨⟨n0, n1, n2, n3, n4⟩, ?_⟩
    simp only [List.getElem?_cons_zero, List.getElem?_cons_succ, Option.some.injEq] at e0 e1 e2 e3 e4
    simp only [List.cons.injEq, and_true] at k0 k1 k2 k3 k4
    rw [e0, e1, e2, e3, e4, k0, k1, k2, k3, k4]
theorem askedOne : (match Try.prog.underlying 26 with | some (.struct fs) => oneCellFields Try.prog fs && Try.prog.cellsOf 26 == fs.size | _ => false) = true := by kernel_rfl
set_option maxRecDepth 100000 in
theorem open_asked {r : Reach} {b0 : Nat} {v : Value} {d : DataW H} {p : List MemPlace} (hv : Value.okWide Try.prog w r b0 26 v) (h : DataW.Trod enc Try.prog w base spare held 26 v d p) : ∃ a b : Int, v = .agg #[.int .i64 a, .int .i64 b] := by
  obtain ⟨cs, rfl, hl, hf⟩ := open_fields Try.underlying26 askedOne hv h
  match cs, hl with
  | [c0, c1], _ =>
    obtain ⟨_, _, _, e0, h0⟩ := hf 0 _ rfl
    obtain ⟨_, _, _, e1, h1⟩ := hf 1 _ rfl
    obtain ⟨n0, k0, _, w0⟩ := DataW.trod_int Try.underlying3 h0
    obtain ⟨n1, k1, _, w1⟩ := DataW.trod_int Try.underlying3 h1
    refine ⟨n0, n1, ?_⟩
    simp only [List.getElem?_cons_zero, List.getElem?_cons_succ, Option.some.injEq] at e0 e1
    simp only [List.cons.injEq, and_true] at k0 k1
    rw [e0, e1, k0, k1]
theorem noticeCells : Try.prog.cellsOf 40 = 5 := by kernel_rfl
theorem noticeOne : (match Try.prog.underlying 40 with | some (.struct fs) => oneCellFields Try.prog fs && Try.prog.cellsOf 40 == fs.size | _ => false) = true := by kernel_rfl
set_option maxRecDepth 100000 in
theorem open_notices {v : Value} {d : DataW H} {p : List MemPlace} (h : DataW.Trod enc Try.prog w base (fun _ => true) held 24 v d p) (hok : ∃ a n c, v = .slice a n c) :
    ∃ (A : Option Addr) (n c : Nat) (xs : List E.Nt), v = .slice A n c ∧ n ≤ c ∧ c ≤ maxLen ∧ xs.length = n ∧ RdN w w.heap.size A xs ∧ (A = none → c = 0) ∧ ∀ x ∈ xs, (Lit.int .i64 x.id).wf = true := by
  obtain ⟨a0, n0, c0, rfl⟩ := hok
  obtain ⟨fuel, hf⟩ := h
  rcases Go.Deep.open_slice Try.underlying24 hf with ⟨hcs, _⟩ | ⟨a, len, cap, m, n, D, Pl, hcs, _, hle, hmax, hm, _, hi⟩
  · simp [Value.cells] at hcs
    obtain ⟨rfl, rfl, rfl⟩ := hcs
    exact ⟨none, 0, 0, [], rfl, Nat.le_refl _, Nat.zero_le _, rfl, RdN.nil _ _ _, fun _ => rfl, fun x hx => by cases hx⟩
  · simp [Value.cells] at hcs
    obtain ⟨rfl, rfl, rfl⟩ := hcs
    simp only [if_true] at hm
    rename Addr => a0'
    have each : ∀ i, i < n0 → ∃ q : E.Nt, w.cell? (a0'.add (i * 5)) = some (.int .i64 q.id) ∧ w.cell? ((a0'.add (i * 5)).add 1) = some (.int .i64 q.hour) ∧ w.cell? ((a0'.add (i * 5)).add 2) = some (.int .i64 q.kind) ∧ w.cell? ((a0'.add (i * 5)).add 3) = some (.int .i64 q.player) ∧ w.cell? ((a0'.add (i * 5)).add 4) = some (.int .i64 q.rank) ∧ (Lit.int .i64 q.id).wf = true := by
      intro i hil
      obtain ⟨cs', hc, ht⟩ := hi i (by omega)
      rw [noticeCells] at hc
      obtain ⟨_, hcl, hat⟩ := World.cells?_some hc
      obtain ⟨_, hff⟩ := trod_fields Try.underlying40 noticeOne ht
      match cs', hcl with
      | [c0', c1', c2', c3', c4'], _ =>
        obtain ⟨_, _, _, e0, g0⟩ := hff 0 _ rfl
        obtain ⟨_, _, _, e1, g1⟩ := hff 1 _ rfl
        obtain ⟨_, _, _, e2, g2⟩ := hff 2 _ rfl
        obtain ⟨_, _, _, e3, g3⟩ := hff 3 _ rfl
        obtain ⟨_, _, _, e4, g4⟩ := hff 4 _ rfl
        obtain ⟨n0', k0, _, w0⟩ := DataW.trod_int Try.underlying3 g0
        obtain ⟨n1', k1, _, w1⟩ := DataW.trod_int Try.underlying3 g1
        obtain ⟨n2', k2, _, w2⟩ := DataW.trod_int Try.underlying3 g2
        obtain ⟨n3', k3, _, w3⟩ := DataW.trod_int Try.underlying3 g3
        obtain ⟨n4', k4, _, w4⟩ := DataW.trod_int Try.underlying3 g4
        simp only [List.getElem?_cons_zero, List.getElem?_cons_succ, Option.some.injEq] at e0 e1 e2 e3 e4
        simp only [List.cons.injEq, and_true] at k0 k1 k2 k3 k4
        rw [← e0] at k0
        rw [← e1] at k1
        rw [← e2] at k2
        rw [← e3] at k3
        rw [← e4] at k4
        subst k0 k1 k2 k3 k4
        exact ⟨⟨n0', n1', n2', n3', n4'⟩, hat 0 (by omega), hat 1 (by omega), hat 2 (by omega), hat 3 (by omega), hat 4 (by omega), w0⟩
    have pick : ∀ k q, ((List.range n0).map (fun i => if h : i < n0 then (each i h).choose else ⟨0, 0, 0, 0, 0⟩))[k]? = some q → ∃ hkn : k < n0, (each k hkn).choose = q := by
      intro k q hk
      have hkn : k < n0 := by
        rcases Nat.lt_or_ge k n0 with hl | hl
        · exact hl
        · rw [List.getElem?_eq_none (by simp; omega)] at hk; cases hk
      refine ⟨hkn, ?_⟩
      rw [List.getElem?_map, List.getElem?_range hkn] at hk
      simpa [hkn] using hk
    refine ⟨some a0', n0, c0, (List.range n0).map (fun i => if h : i < n0 then (each i h).choose else ⟨0, 0, 0, 0, 0⟩), rfl, hle, hmax, by simp, ?_, (fun e => by cases e), fun q hq => ?_⟩
    · intro k q hk
      obtain ⟨hkn, hq⟩ := pick k q hk
      have hc := (each k hkn).choose_spec
      rw [hq] at hc
      obtain ⟨_, h00, _⟩ := each 0 (by omega)
      obtain ⟨b, o, rfl, hb'⟩ := spot_first (by rw [Nat.zero_mul] at h00; exact h00)
      rw [add_plain, add_plain, add_plain, add_plain, add_plain] at hc
      exact ⟨b, o, rfl, hb', hc.1, hc.2.1, hc.2.2.1, hc.2.2.2.1, hc.2.2.2.2.1⟩
    · obtain ⟨k, hk⟩ := List.mem_iff_getElem?.1 hq
      obtain ⟨hkn, hq'⟩ := pick k q hk
      have hc := (each k hkn).choose_spec
      rw [hq'] at hc
      exact hc.2.2.2.2.2
end
end Go.Proofs.Ytdhaalonnmajkaa

namespace Go.Proofs.Ytdhaalonnmajkaa
open Go.ChangeShapes Go.WideShapes Go.ChangeAt Go.RowKit Go.Deep Go.Joins
attribute [local go_sem ↓] Go.wp_at_zero Go.wp_at_succ

set_option maxHeartbeats 1600000 in
set_option maxRecDepth 100000 in
theorem far_long (A : Option Addr) (n c : Nat) (w : World) (h : 100 < n) :
    Calls Try.prog 10 #[.slice A n c] w fun e w' => e = .returned (.bool true) ∧ w = w' := by
  have i1 : (20 : Int) < (n : Int) := by omega
  have i2 : ¬ (n : Int) ≤ 60 := by omega
  have i3 : (100 : Int) < (n : Int) := by omega
  clear h
  go_enter Try.func10, Try.ntmps10
  go_wp2
  go_ret
  exact ⟨rfl, rfl⟩
end Go.Proofs.Ytdhaalonnmajkaa

namespace Go.Proofs.Ytdhaalonnmajkaa
open Go.ChangeShapes Go.WideShapes Go.ChangeAt Go.RowKit Go.Deep Go.Joins
attribute [local go_sem ↓] Go.wp_at_zero Go.wp_at_succ

set_option maxHeartbeats 1600000 in
set_option maxRecDepth 100000 in
theorem listsLaw_long (f : E.Fd) (A : Option Addr) (n c : Nat) (h p : Int) (w : World) (hn : 100 < n) :
    Calls Try.prog 3 #[.agg #[.int .i64 f.places, .int .i64 f.wilds, .int .i64 f.guards, .int .i64 f.close, .int .i64 f.freeze], .slice A n c, .agg #[.int .i64 h, .int .i64 p]] w fun e w' => e = .returned (.bool true) ∧ Below w.heap.size w w' := by
  have HF := fun W => hide (far_long A n c W hn)
  clear hn
  go_enter Try.func3, Try.ntmps3
  go_wp2_with (first | (go_at_call 10; refine (HF _).out.mono ?_; rintro e w1 ⟨rfl, rfl⟩) | (go_at_call 11; refine (works_any _).mono ?_; rintro e w9 ⟨rfl, hb9⟩; have HB9 := hide (zbT (show Below w.heap.size w ((w.alloc (.cells #[.int .i64 f.places, .int .i64 f.wilds, .int .i64 f.guards, .int .i64 f.close, .int .i64 f.freeze] 23)).alloc (.cells #[.int .i64 h, .int .i64 p] 26)) by (repeat' first | exact zbR _ _ | assumption | refine zbD ?_ | refine zbA ?_ ?_ _ | refine zbS ?_ ?_ _ | refine zbT ?_ (by assumption) ?_ | (simp; done) | (simp; omega) | omega)) hb9 (by simp; omega)); clear hb9))
  go_ret
  exact ⟨rfl, HB9.out⟩
theorem listsLaw_all (f : E.Fd) (A : Option Addr) (n c : Nat) (l : List E.Nt) (h p : Int) (w : World) (hn : l.length = n) (hr : RdN w w.heap.size A l) (hid : ∀ x ∈ l, (Lit.int .i64 x.id).wf = true) (hcap : A = none → c = 0) :
    Calls Try.prog 3 #[.agg #[.int .i64 f.places, .int .i64 f.wilds, .int .i64 f.guards, .int .i64 f.close, .int .i64 f.freeze], .slice A n c, .agg #[.int .i64 h, .int .i64 p]] w fun e w' => e = .returned (.bool true) ∧ Below w.heap.size w w' := by
  by_cases h1 : n ≤ 1000000
  · exact listsLaw_any f A n c l h p w hn hr hid h1 hcap
  · exact listsLaw_long f A n c h p w (by omega)

theorem Try.ownEntryLists : ownKnob Try.prog.godebug = none := by kernel_rfl

set_option maxRecDepth 100000 in
theorem entryLists_call (H : Type) (enc : TypeId × Value → H) (W : World) (base : Nat) (args : Array Value) (ds : List (DataW H)) (p : List MemPlace) (hval : ∀ (j : Nat) t v, Try.f3.params[j]? = some t → args[j]? = some v → Value.okWide Try.prog W .any base t v)
    (hA : DataW.TrodAll enc Try.prog W 0 (fun _ => true) true Try.f3.params.toList args.toList ds p) : Calls Try.prog 3 args W fun e W' => e = .returned (.bool true) ∧ Below W.heap.size W W' := by
  rw [Try.params3] at hA hval
  obtain ⟨v0, v1, v2, d0, d1, d2, p0, p1, p2, rfl, rfl, rfl, h0, h1, h2⟩ := trodAll_three hA
  obtain ⟨x0, rfl⟩ := open_field (hval 0 23 v0 rfl rfl) h0
  obtain ⟨A1, n1, c1, l1, rfl, hle1, hmx1, hn1, hr1, hno1, hwf1⟩ := open_notices h1 (okWide_slice Try.underlying24 (hval 1 24 v1 rfl rfl))
  obtain ⟨a2, b2, rfl⟩ := open_asked (hval 2 26 v2 rfl rfl) h2
  exact listsLaw_all x0 A1 n1 c1 l1 a2 b2 W hn1 hr1 hwf1 hno1

set_option maxRecDepth 100000 in
theorem EntryLists_holds : Rows.EntryListsSaid :=
  OpenClaim.holds_of_wide (p := Try.pinned) (s := Rows.entryListsSpec) (c := Rows.entryListsRow) 3 Try.f3 rfl rfl rfl rfl rfl rfl rfl ⟨rfl, rfl, rfl, rfl, rfl⟩ rfl rfl rfl rfl rfl (by kernel_rfl) Try.func3 (by kernel_rfl)
    (of_decide_eq_true (by kernel_rfl)) (by unfold Func.isWrapper; first | (rw [if_pos (by decide +kernel)]; kernel_rfl) | (rw [if_neg (by decide +kernel)]; exact ⟨rfl, rfl⟩))
    (fun os started H enc _ => law_lift (C := Try.checked) (F := 3) (fn := Try.f3) (s := Rows.entryListsSpec) (bt := 4) started Try.ownEntryLists (by kernel_rfl) Try.func3 (by kernel_rfl) Try.underlying4 rfl laidOut (of_decide_eq_true (by kernel_rfl))
      (fun ds hds => match ds, hds with | [_, _, _], _ => rfl)
      (ChangeSpec.witness6 (enc := enc) (C := Try.checked) false ⟨#[], #[.agg #[.int .i64 0, .int .i64 0, .int .i64 0, .int .i64 0, .int .i64 0], .slice none 0 0, .agg #[.int .i64 0, .int .i64 0]], []⟩ 8 (by kernel_rfl) (by kernel_rfl) (by kernel_rfl) (by kernel_rfl))
      (fun W base args ds p hval hA _ => entryLists_call H enc W base args ds p hval hA) _ _ _)

end Go.Proofs.Ytdhaalonnmajkaa
