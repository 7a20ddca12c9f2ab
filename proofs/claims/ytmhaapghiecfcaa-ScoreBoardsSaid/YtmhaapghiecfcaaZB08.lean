/-
  Part of a claim's texts: contracts of the program's functions and the plain functions that they compute, in build order.
-/
import Derived.Deep.Cut
import Derived.Deep.CutRange
import Derived.Test.YtmhaapghiecfcaaZB01
import Derived.Test.YtmhaapghiecfcaaZB06
import Derived.Test.YtmhaapghiecfcaaZB07
namespace Go.Proofs.Ytmhaapghiecfcaa
open Go.RowKit
attribute [local go_sem ↓] Go.wp_at_zero Go.wp_at_succ

structure BT (wb wr : World) (k : Nat) (Ao : Option Addr) (co : Nat) (Av : Option Addr) (cv : Nat) (bo bv : Nat → Nat) : Prop where
  below : Below wb.heap.size wb wr
  oo : wr.ownsRow wb.heap.size 24 1 (.slice Ao k co) k ((List.range k).map fun i => rowV (bo i))
  ov : wr.ownsRow wb.heap.size 24 1 (.slice Av k cv) k ((List.range k).map fun i => rowV (bv i))
  ro : NRows wr wb.heap.size bo k (fun _ _ => 0)
  rv : NRows wr wb.heap.size bv k (fun _ _ => 0)
  d1 : ∀ i j, i < k → j < k → bo i ≠ bv j
  d2 : Apart (.slice Ao k co) (.slice Av k cv)
theorem range_push {α : Type} (f : Nat → α) (k : Nat) (q : α) : (List.range k).map f ++ [q] = (List.range (k + 1)).map (consN f k q) := by
  rw [List.range_succ, List.map_append]
  congr 1
  · refine List.map_congr_left fun i hi => ?_
    have := List.mem_range.1 hi
    unfold consN
    rw [if_neg (by omega)]
  · unfold consN; simp
theorem consN_zero (k : Nat) : consN (fun _ _ => 0) k (fun _ => 0) = (fun (_ _ : Nat) => (0 : Int)) := by
  funext i j
  unfold consN
  split <;> rfl
theorem rowV_cons (bo : Nat → Nat) (k q : Nat) : (fun i => rowV (consN bo k q i)) = consN (fun i => rowV (bo i)) k (rowV q) := by
  funext i
  unfold consN
  split <;> rfl
theorem BT.push {wb wr : World} {k : Nat} {Ao : Option Addr} {co : Nat} {Av : Option Addr} {cv : Nat} {bo bv : Nat → Nat} {q1 q5 : Nat} (hb : Below wb.heap.size wb wr) (oo : wr.ownsRow wb.heap.size 24 1 (.slice Ao (k + 1) co) (k + 1) (((List.range k).map fun i => rowV (bo i)) ++ [rowV q1])) (ov : wr.ownsRow wb.heap.size 24 1 (.slice Av (k + 1) cv) (k + 1) (((List.range k).map fun i => rowV (bv i)) ++ [rowV q5]))
    (ro : NRows wr wb.heap.size bo k (fun _ _ => 0)) (rv : NRows wr wb.heap.size bv k (fun _ _ => 0)) (h1 : wr.heap[q1]? = some (.cells (rowC (fun _ => 0)) 3 (0, 0))) (h5 : wr.heap[q5]? = some (.cells (rowC (fun _ => 0)) 3 (0, 0))) (l1 : wb.heap.size ≤ q1) (l5 : wb.heap.size ≤ q5)
    (b1 : ∀ i, i < k → bo i ≠ q1) (w1 : ∀ i, i < k → bv i ≠ q1) (b5 : ∀ i, i < k → bo i ≠ q5) (w5 : ∀ i, i < k → bv i ≠ q5) (d15 : q1 ≠ q5) (d1 : ∀ i j, i < k → j < k → bo i ≠ bv j) (d2 : Apart (.slice Ao (k + 1) co) (.slice Av (k + 1) cv)) :
    BT wb wr (k + 1) Ao co Av cv (consN bo k q1) (consN bv k q5) := by
  refine ⟨hb, ?_, ?_, ?_, ?_, fun i j hi hj => ?_, d2⟩
  · rw [range_push] at oo
    rw [rowV_cons]
    exact oo
  · rw [range_push] at ov
    rw [rowV_cons]
    exact ov
  · have := ro.push h1 l1 b1
    rwa [consN_zero] at this
  · have := rv.push h5 l5 w5
    rwa [consN_zero] at this
  · unfold consN
    split <;> split
    · exact d15
    · exact fun e => w1 j (by omega) e.symm
    · exact b5 i (by omega)
    · exact d1 i j (by omega) (by omega)
structure OW (wb wr : World) (go gv : Nat) (bo bv : Nat → Nat) (T O : Nat → Nat → Int) : Prop where
  below : Below wb.heap.size wb wr
  o : Tab wr wb.heap.size go bo 45 T
  v : Tab wr wb.heap.size gv bv 45 O
  d : ∀ i j, i < 45 → j < 45 → bo i ≠ bv j
  e1 : ∀ j, j < 45 → bv j ≠ go
  e2 : ∀ i, i < 45 → bo i ≠ gv
theorem OW.kept {wb wr w' : World} {go gv : Nat} {bo bv : Nat → Nat} {T O : Nat → Nat → Int} (h : OW wb wr go gv bo bv T O) (hb : Below wr.heap.size wr w') : OW wb w' go gv bo bv T O :=
  ⟨zbT h.below hb h.below.size, h.o.below hb, h.v.below hb, h.d, h.e1, h.e2⟩
theorem OW.setO {wb wr : World} {go gv : Nat} {bo bv : Nat → Nat} {T O : Nat → Nat → Int} (h : OW wb wr go gv bo bv T O) {x : Nat} (hx : x < 45) (y : Nat) (v : Int) : OW wb (wr.setCell ⟨bo x, y, none⟩ (.int .i64 v)) go gv bo bv (M.upd T x y v) O :=
  ⟨zbS h.below (h.o.rows.rlo x hx) _, h.o.set hx y v, h.v.other (h.e2 x hx) (fun i hi => h.d x i hx hi) y _, h.d, h.e1, h.e2⟩
theorem OW.setV {wb wr : World} {go gv : Nat} {bo bv : Nat → Nat} {T O : Nat → Nat → Int} (h : OW wb wr go gv bo bv T O) {x : Nat} (hx : x < 45) (y : Nat) (v : Int) : OW wb (wr.setCell ⟨bv x, y, none⟩ (.int .i64 v)) go gv bo bv T (M.upd O x y v) :=
  ⟨zbS h.below (h.v.rows.rlo x hx) _, h.o.other (h.e1 x hx) (fun i hi e => h.d i x hi hx e.symm) y _, h.v.set hx y v, h.d, h.e1, h.e2⟩
theorem leads_ends {s : M.Fm} (hv : M.Valid s) {a b sd : Nat} (ho : M.Open s a b) (hsd : sd < 2) (ht : ¬ ((a : Int) = s.tie ∧ (b : Int) = s.tie)) : 0 ≤ M.leads ⟨(M.gx a sd : Nat), (M.gy b sd : Nat)⟩ s.games ↔ M.Ends s a b sd := by
  have hp := M.open_play hv ho
  obtain ⟨x0, y0, nx, ny, tx, ty⟩ := hp
  have h2 : sd = 0 ∨ sd = 1 := by omega
  unfold M.leads M.Ends M.gx M.gy
  rcases h2 with rfl | rfl
  · simp only [if_true]
    push_cast
    simp only [show ¬ ((0 : Int) = 1) by omega, true_and, false_and, or_false]
    split
    · omega
    · split <;> omega
  · simp only [show ¬ (1 = 0) by omega, if_false]
    push_cast
    simp only [show ¬ ((1 : Int) = 0) by omega, true_and, false_and, false_or]
    split
    · omega
    · split <;> omega
theorem plus_gxy (a b sd : Nat) (hsd : sd < 2) : M.plus ⟨(a : Int), (b : Int)⟩ (sd : Int) = ⟨((M.gx a sd : Nat) : Int), ((M.gy b sd : Nat) : Int)⟩ := by
  have h2 : sd = 0 ∨ sd = 1 := by omega
  unfold M.plus M.gx M.gy
  rcases h2 with rfl | rfl
  · simp
  · simp
theorem small_nat {a b : Nat} (ha : a ≤ 100) (hb : b ≤ 100) : M.Small ⟨(a : Int), (b : Int)⟩ := ⟨by dsimp; omega, by dsimp; omega, by dsimp; omega, by dsimp; omega⟩
def OrdPost (s : M.Fm) (w : World) (e : Ending) (w' : World) : Prop := ∃ (go co gv cv : Nat) (bo bv : Nat → Nat) (T O : Nat → Nat → Int) (a : Int), e = .returned (.tuple #[.slice (some ⟨go, 0, none⟩) 45 co, .slice (some ⟨gv, 0, none⟩) 45 cv]) ∧ Tab w' w.heap.size go bo 45 T ∧ Tab w' w.heap.size gv bv 45 O ∧ M.Ord s 88 a 0 T O ∧ Below w.heap.size w w'
set_option maxHeartbeats 12800000 in
set_option maxRecDepth 100000 in
theorem orders_ref (f s : M.Fm) (last : Bool) (w : World) (hv : M.Valid s) (ht : (if last then f.lastTie else f.tie) = s.tie) (hg : f.games = s.games) :
    Calls Try.prog 70 #[.agg #[.int .i64 f.sets, .int .i64 f.games, .bool f.noAd, .int .i64 f.tie, .int .i64 f.to, .int .i64 f.lastTie, .int .i64 f.lastTo, .int .i64 f.first, .int .i64 f.next, .bool f.doubles], .bool last] w (OrdPost s w) := by
  have HV_ := hide hv
  have HTI := hide ht
  have HG := hide hg
  have HTR := hide (And.intro hv.t0 (And.intro hv.t1 (And.intro hv.g0 hv.g1)))
  clear hv ht hg
  obtain ⟨ti, hti⟩ : ∃ q, s.tie = q := ⟨_, rfl⟩
  have HTS := hide hti
  rw [hti] at HTI
  clear hti
  obtain ⟨tto, htto⟩ : ∃ q, (if last then f.lastTo else f.to) = q := ⟨_, rfl⟩
  have HTO := hide htto
  clear htto
  go_enter Try.func70, Try.ntmps70
  go_upto_region 1 with fail
  obtain ⟨w0, hw0⟩ : ∃ q, w.alloc (.cells #[.int .i64 f.sets, .int .i64 f.games, .bool f.noAd, .int .i64 f.tie, .int .i64 f.to, .int .i64 f.lastTie, .int .i64 f.lastTo, .int .i64 f.first, .int .i64 f.next, .bool f.doubles] 23) = q := ⟨_, rfl⟩
  have HB0 := hide (show Below w.heap.size w w0 by rw [← hw0]; exact zbA (zbR _ _) (Nat.le_refl _) _)
  have HF0 := hide (show w0.heap[w.heap.size]? = some (.cells #[.int .i64 f.sets, .int .i64 f.games, .bool f.noAd, .int .i64 f.tie, .int .i64 f.to, .int .i64 f.lastTie, .int .i64 f.lastTo, .int .i64 f.first, .int .i64 f.next, .bool f.doubles] 23 (0, 0)) by rw [← hw0]; exact heap_alloc_new _ _)
  rw [hw0]
  clear hw0
  have yf0 : w0.cell? ⟨w.heap.size, 0, none⟩ = some (.int .i64 f.sets) := (blk_cell HF0.out 0).trans rfl
  have yf1 : w0.cell? ⟨w.heap.size, 1, none⟩ = some (.int .i64 f.games) := (blk_cell HF0.out 1).trans rfl
  have yf2 : w0.cell? ⟨w.heap.size, 2, none⟩ = some (.bool f.noAd) := (blk_cell HF0.out 2).trans rfl
  have yf3 : w0.cell? ⟨w.heap.size, 3, none⟩ = some (.int .i64 f.tie) := (blk_cell HF0.out 3).trans rfl
  have yf4 : w0.cell? ⟨w.heap.size, 4, none⟩ = some (.int .i64 f.to) := (blk_cell HF0.out 4).trans rfl
  have yf5 : w0.cell? ⟨w.heap.size, 5, none⟩ = some (.int .i64 f.lastTie) := (blk_cell HF0.out 5).trans rfl
  have yf6 : w0.cell? ⟨w.heap.size, 6, none⟩ = some (.int .i64 f.lastTo) := (blk_cell HF0.out 6).trans rfl
  have yf7 : w0.cell? ⟨w.heap.size, 7, none⟩ = some (.int .i64 f.first) := (blk_cell HF0.out 7).trans rfl
  have yf8 : w0.cell? ⟨w.heap.size, 8, none⟩ = some (.int .i64 f.next) := (blk_cell HF0.out 8).trans rfl
  have yf9 : w0.cell? ⟨w.heap.size, 9, none⟩ = some (.bool f.doubles) := (blk_cell HF0.out 9).trans rfl
  have lyf := blk_lt HF0.out
  go_upto_region 2 with (go_at_call 29; refine (refRule_any f last w0).mono ?_; rintro e wb ⟨rfl, hb1⟩; rw [HTI.out, HTO.out]; have HB1 := hide hb1; clear hb1)
  clear yf0 yf1 yf2 yf3 yf4 yf5 yf6 yf7 yf8 yf9 lyf
  have HF1 := hide ((HB1.out.block _ (blk_lt HF0.out)).trans HF0.out)
  have HBW1 := hide (zbT HB0.out HB1.out HB0.out.size)
  clear HF0
  go_wp2_with fail
  go_loopw [4, 5, 8] (fun v4 v5 v8 wr => ∃ (k : Nat) (Ao : Option Addr) (co : Nat) (Av : Option Addr) (cv : Nat) (bo bv : Nat → Nat), k ≤ 45 ∧ v4 = .slice Ao k co ∧ v5 = .slice Av k cv ∧ v8 = .int .i64 k ∧ Hid (BT wb wr k Ao co Av cv bo bv)) (fun _ _ v8 _ => 45 - (intOf v8).toNat)
  case atStart => exact ⟨0, none, 0, none, 0, fun _ => 0, fun _ => 0, by omega, rfl, rfl, rfl, hide ⟨Below.refl _ _, ⟨rfl, .inl ⟨rfl, rfl⟩⟩, ⟨rfl, .inl ⟨rfl, rfl⟩⟩, NRows.zero _ _ _ _, NRows.zero _ _ _ _, fun i j hi => by omega, fun g hg => by cases hg⟩⟩
  case round =>
    obtain ⟨k, Ao, co, Av, cv, bo, bv, hk, rfl, rfl, rfl, HBT⟩ := hrel
    have hk0 : (0 : Int) ≤ (k : Int) := by omega
    by_cases hk45 : k < 45
    · have hk1 : (k : Int) ≤ 44 := by omega
      go_upto_region 5 with fail
      have HO := hide (show wr.drew.ownsRow wb.heap.size 24 1 (.slice Ao k co) k _ from HBT.out.oo)
      have HV := hide (show wr.drew.ownsRow wb.heap.size 24 1 (.slice Av k cv) k _ from HBT.out.ov)
      have HRO := hide (show NRows wr.drew wb.heap.size bo k _ from HBT.out.ro.below (zbD (zbR _ _)))
      have HRV := hide (show NRows wr.drew wb.heap.size bv k _ from HBT.out.rv.below (zbD (zbR _ _)))
      have HAP := hide HBT.out.d2
      have hS : (fun w' => Below wb.heap.size wb w') wr := HBT.out.below
      (try dsimp only at hS)
      refine wp_region_held_drew (S := (fun w' => Below wb.heap.size wb w')) (by kernel_rfl) ?_ (fun hD0 => ?_)
      · (try dsimp only); first | assumption | exact hSn | exact zbD HBT.out.below
      refine tW ?_ 0 rfl (by kernel_rfl) (fun _ _ _ h => h) (by rfl) (by assumption) ?_ ?_; rotate_left; (focus (intro w hSw; (try dsimp only at hSw); go_simp; try with_reducible rfl)); try simp only [Act.put, zl, z0, z1]
      refine tW ?_ 4 rfl (by kernel_rfl) (fun _ _ _ h => h) (by rfl) (by assumption) ?_ ?_; rotate_left; (focus (intro w hSw; (try dsimp only at hSw); go_simp; try with_reducible rfl)); try simp only [Act.put, zl, z0, z1]
      refine wpAnyH_ready (rs := [1, 5]) (by kernel_rfl) (by simp) ?_; refine consL 1 rfl (fun K hK => ?_) ?_
      (go_simp; (first | refine capN (fun W q1 hq hQ hB hgr => ?_) | refine capND (fun W q1 hq hQ hB hgr => ?_)); have hSn : (fun w' => Below wb.heap.size wb w') W := (by first | exact hB _ _ hD0 (Below.size hD0) | exact hB _ _ HBT.out.below HBT.out.below.size); have HBQ1 := hide (fun i (hi : i < k) => (show bo i ≠ q1 from by have := HRO.out.bl hi; omega)); have HW1 := hide (fun i (hi : i < k) => (show bv i ≠ q1 from by have := HRV.out.bl hi; omega)); have HL1 := hide (show wb.heap.size ≤ q1 from by first | (have := Below.size hD0; omega) | (have := HBT.out.below.size; omega)); (try have HD15 := hide (show q5 ≠ q1 from by have := blk_lt HQ5.out; omega)); have HO := hide (HO.out.kept hgr (Classical.em _)); have HV := hide (HV.out.kept hgr (Classical.em _)); have HRO := hide (HRO.out.grown hgr (fun i hi => by simp)); have HRV := hide (HRV.out.grown hgr (fun i hi => by simp)); (try replace HQ1 := hide ((hgr.block _ (blk_lt HQ1.out) (by simp)).trans HQ1.out)); (try replace HQ2 := hide ((hgr.block _ (blk_lt HQ2.out) (by simp)).trans HQ2.out)); (try replace HQ5 := hide ((hgr.block _ (blk_lt HQ5.out) (by simp)).trans HQ5.out)); (try replace HQ6 := hide ((hgr.block _ (blk_lt HQ6.out) (by simp)).trans HQ6.out)); have HQ1 := hide (show W.heap[q1]? = some (.cells (rowC (fun _ => 0)) 3 (0, 0)) from hQ.trans (by kernel_rfl)); rw [hq]; clear hq hQ hB hgr)
      refine hK.out _ _ ?_ (fun hD1 => ?_)
      · (try dsimp only); first | assumption | exact hSn | exact zbD HBT.out.below
      clear hK K hD0; try simp only [Act.put, zl, z0, z1]
      refine wpAnyH_ready (rs := [2, 5]) (by kernel_rfl) (by simp) ?_; refine consL 2 rfl (fun K hK => ?_) ?_
      (go_simp; (first | refine capN (fun W q2 hq hQ hB hgr => ?_) | refine capND (fun W q2 hq hQ hB hgr => ?_)); have hSn : (fun w' => Below wb.heap.size wb w') W := (by first | exact hB _ _ hD1 (Below.size hD1) | exact hB _ _ HBT.out.below HBT.out.below.size); have HO := hide (HO.out.kept hgr (Classical.em _)); have HV := hide (HV.out.kept hgr (Classical.em _)); have HRO := hide (HRO.out.grown hgr (fun i hi => by simp)); have HRV := hide (HRV.out.grown hgr (fun i hi => by simp)); (try replace HQ1 := hide ((hgr.block _ (blk_lt HQ1.out) (by simp)).trans HQ1.out)); (try replace HQ2 := hide ((hgr.block _ (blk_lt HQ2.out) (by simp)).trans HQ2.out)); (try replace HQ5 := hide ((hgr.block _ (blk_lt HQ5.out) (by simp)).trans HQ5.out)); (try replace HQ6 := hide ((hgr.block _ (blk_lt HQ6.out) (by simp)).trans HQ6.out)); have HQ2 := hide (show W.heap[q2]? = some (.cells #[rowV q1] 24 (0, 0)) from hQ); rw [hq]; clear hq hQ hB hgr)
      refine hK.out _ _ ?_ (fun hD2 => ?_)
      · (try dsimp only); first | assumption | exact hSn | exact zbD HBT.out.below
      clear hK K hD1; try simp only [Act.put, zl, z0, z1]
      refine wpAnyH_ready (rs := [3, 5]) (by kernel_rfl) (by simp) ?_; refine consL 3 rfl (fun K hK => ?_) ?_
      (refine step_app_row rfl (.tmp 24) (.tmp 26) rfl wb.heap.size (.slice Ao k co) _ k rfl HO.out q2 q1 rfl HQ2.out (by omega) (by have := Below.size hD2; omega) (fun A3 c3 W ho hg hl => ?_); have HV0 := HV; have hSn : (fun w' => Below wb.heap.size wb w') W := Below.trans hD2 (grown_below hg (Below.size hD2) (fun g hgb => (HO.out.lt g hgb).1)); have HV := hide (HV.out.kept hg HAP.out.row); have HRO := hide (HRO.out.grown hg (fun i hi e => own_ne HO.out (HRO.out.row i hi) (by decide) e.symm)); have HRV := hide (HRV.out.grown hg (fun i hi e => own_ne HO.out (HRV.out.row i hi) (by decide) e.symm)); have HAP3 := hide (HAP.out.app HV0.out hl); replace HQ1 := hide ((hg.block _ (blk_lt HQ1.out) (fun e => own_ne HO.out HQ1.out (by decide) e.symm)).trans HQ1.out); (try replace HQ5 := hide ((hg.block _ (blk_lt HQ5.out) (fun e => own_ne HO.out HQ5.out (by decide) e.symm)).trans HQ5.out)); (try replace HQ6 := hide ((hg.block _ (blk_lt HQ6.out) (fun e => HF6.out e.symm)).trans HQ6.out)); have HO := hide ho; clear ho hg hl HQ2)
      refine hK.out _ _ ?_ (fun hD3 => ?_)
      · (try dsimp only); first | assumption | exact hSn | exact zbD HBT.out.below
      clear hK K hD2; try simp only [Act.put, zl, z0, z1]
      refine wpAnyH_ready (rs := [5]) (by kernel_rfl) (by simp) ?_; refine consL 5 rfl (fun K hK => ?_) AllReadyH.nil
      (go_simp; (first | refine capN (fun W q5 hq hQ hB hgr => ?_) | refine capND (fun W q5 hq hQ hB hgr => ?_)); have hSn : (fun w' => Below wb.heap.size wb w') W := (by first | exact hB _ _ hD3 (Below.size hD3) | exact hB _ _ HBT.out.below HBT.out.below.size); have HB5 := hide (fun i (hi : i < k) => (show bo i ≠ q5 from by have := HRO.out.bl hi; omega)); have HW5 := hide (fun i (hi : i < k) => (show bv i ≠ q5 from by have := HRV.out.bl hi; omega)); have HL5 := hide (show wb.heap.size ≤ q5 from by first | (have := Below.size hD3; omega) | (have := HBT.out.below.size; omega)); (try have HD15 := hide (show q1 ≠ q5 from by have := blk_lt HQ1.out; omega)); have HO := hide (HO.out.kept hgr (Classical.em _)); have HV := hide (HV.out.kept hgr (Classical.em _)); have HRO := hide (HRO.out.grown hgr (fun i hi => by simp)); have HRV := hide (HRV.out.grown hgr (fun i hi => by simp)); (try replace HQ1 := hide ((hgr.block _ (blk_lt HQ1.out) (by simp)).trans HQ1.out)); (try replace HQ2 := hide ((hgr.block _ (blk_lt HQ2.out) (by simp)).trans HQ2.out)); (try replace HQ5 := hide ((hgr.block _ (blk_lt HQ5.out) (by simp)).trans HQ5.out)); (try replace HQ6 := hide ((hgr.block _ (blk_lt HQ6.out) (by simp)).trans HQ6.out)); have HQ5 := hide (show W.heap[q5]? = some (.cells (rowC (fun _ => 0)) 3 (0, 0)) from hQ.trans (by kernel_rfl)); rw [hq]; clear hq hQ hB hgr)
      refine hK.out _ _ ?_ (fun hD4 => ?_)
      · (try dsimp only); first | assumption | exact hSn | exact zbD HBT.out.below
      clear hK K hD3; try simp only [Act.put, zl, z0, z1]
      refine wpAnyH_ready (rs := [6]) (by kernel_rfl) (by simp) ?_; refine consL 6 rfl (fun K hK => ?_) AllReadyH.nil
      (go_simp; (first | refine capN (fun W q6 hq hQ hB hgr => ?_) | refine capND (fun W q6 hq hQ hB hgr => ?_)); have hSn : (fun w' => Below wb.heap.size wb w') W := (by first | exact hB _ _ hD4 (Below.size hD4) | exact hB _ _ HBT.out.below HBT.out.below.size); (try have HF6 := hide (show (Value.slice Ao k co).ownBlock ≠ some q6 from by rw [← hq]; exact own_fresh HO.out)); have HO := hide (HO.out.kept hgr (Classical.em _)); have HV := hide (HV.out.kept hgr (Classical.em _)); have HRO := hide (HRO.out.grown hgr (fun i hi => by simp)); have HRV := hide (HRV.out.grown hgr (fun i hi => by simp)); (try replace HQ1 := hide ((hgr.block _ (blk_lt HQ1.out) (by simp)).trans HQ1.out)); (try replace HQ2 := hide ((hgr.block _ (blk_lt HQ2.out) (by simp)).trans HQ2.out)); (try replace HQ5 := hide ((hgr.block _ (blk_lt HQ5.out) (by simp)).trans HQ5.out)); (try replace HQ6 := hide ((hgr.block _ (blk_lt HQ6.out) (by simp)).trans HQ6.out)); have HQ6 := hide (show W.heap[q6]? = some (.cells #[rowV q5] 24 (0, 0)) from hQ); rw [hq]; clear hq hQ hB hgr)
      refine hK.out _ _ ?_ (fun hD5 => ?_)
      · (try dsimp only); first | assumption | exact hSn | exact zbD HBT.out.below
      clear hK K hD4; try simp only [Act.put, zl, z0, z1]
      refine wpAnyH_ready (rs := [7]) (by kernel_rfl) (by simp) ?_; refine consL 7 rfl (fun K hK => ?_) AllReadyH.nil
      (refine step_app_row rfl (.tmp 28) (.tmp 30) rfl wb.heap.size (.slice Av k cv) _ k rfl HV.out q6 q5 rfl HQ6.out (by omega) (by have := Below.size hD5; omega) (fun A7 c7 W ho hg hl => ?_); have hSn : (fun w' => Below wb.heap.size wb w') W := Below.trans hD5 (grown_below hg (Below.size hD5) (fun g hgb => (HV.out.lt g hgb).1)); have HO7 := HO; have HO := hide (HO.out.kept hg HAP3.out.symm.row); have HRO := hide (HRO.out.grown hg (fun i hi e => own_ne HV.out (HRO.out.row i hi) (by decide) e.symm)); have HRV := hide (HRV.out.grown hg (fun i hi e => own_ne HV.out (HRV.out.row i hi) (by decide) e.symm)); have HAP7 := hide (HAP3.out.symm.app HO7.out hl).symm; replace HQ1 := hide ((hg.block _ (blk_lt HQ1.out) (fun e => own_ne HV.out HQ1.out (by decide) e.symm)).trans HQ1.out); replace HQ5 := hide ((hg.block _ (blk_lt HQ5.out) (fun e => own_ne HV.out HQ5.out (by decide) e.symm)).trans HQ5.out); have HV := hide ho; clear ho hg hl HQ6 HO7)
      refine hK.out _ _ ?_ (fun hD6 => ?_)
      · (try dsimp only); first | assumption | exact hSn | exact zbD HBT.out.below
      clear hK K hD5; try simp only [Act.put, zl, z0, z1]
      refine tW ?_ 8 rfl (by kernel_rfl) (fun _ _ _ h => h) (by rfl) (by assumption) ?_ ?_; rotate_left; (focus (intro w hSw; (try dsimp only at hSw); go_simp; try with_reducible rfl)); try simp only [Act.put, zl, z0, z1]
      refine tW ?_ 9 rfl (by kernel_rfl) (fun _ _ _ h => h) (by rfl) (by assumption) ?_ ?_; rotate_left; (focus (intro w hSw; (try dsimp only at hSw); go_simp; try with_reducible rfl)); try simp only [Act.put, zl, z0, z1]
      refine wpAnyH_done (by kernel_rfl) ?_ _
      rotate_left 1
      refine consL 5 rfl (fun K hK => ?_) AllReadyH.nil
      (go_simp; (first | refine capN (fun W q5 hq hQ hB hgr => ?_) | refine capND (fun W q5 hq hQ hB hgr => ?_)); have hSn : (fun w' => Below wb.heap.size wb w') W := (by first | exact hB _ _ hD2 (Below.size hD2) | exact hB _ _ HBT.out.below HBT.out.below.size); have HB5 := hide (fun i (hi : i < k) => (show bo i ≠ q5 from by have := HRO.out.bl hi; omega)); have HW5 := hide (fun i (hi : i < k) => (show bv i ≠ q5 from by have := HRV.out.bl hi; omega)); have HL5 := hide (show wb.heap.size ≤ q5 from by first | (have := Below.size hD2; omega) | (have := HBT.out.below.size; omega)); (try have HD15 := hide (show q1 ≠ q5 from by have := blk_lt HQ1.out; omega)); have HO := hide (HO.out.kept hgr (Classical.em _)); have HV := hide (HV.out.kept hgr (Classical.em _)); have HRO := hide (HRO.out.grown hgr (fun i hi => by simp)); have HRV := hide (HRV.out.grown hgr (fun i hi => by simp)); (try replace HQ1 := hide ((hgr.block _ (blk_lt HQ1.out) (by simp)).trans HQ1.out)); (try replace HQ2 := hide ((hgr.block _ (blk_lt HQ2.out) (by simp)).trans HQ2.out)); (try replace HQ5 := hide ((hgr.block _ (blk_lt HQ5.out) (by simp)).trans HQ5.out)); (try replace HQ6 := hide ((hgr.block _ (blk_lt HQ6.out) (by simp)).trans HQ6.out)); have HQ5 := hide (show W.heap[q5]? = some (.cells (rowC (fun _ => 0)) 3 (0, 0)) from hQ.trans (by kernel_rfl)); rw [hq]; clear hq hQ hB hgr)
      refine hK.out _ _ ?_ (fun hD3 => ?_)
      · (try dsimp only); first | assumption | exact hSn | exact zbD HBT.out.below
      clear hK K hD2; try simp only [Act.put, zl, z0, z1]
      refine wpAnyH_ready (rs := [3, 6]) (by kernel_rfl) (by simp) ?_; refine consL 3 rfl (fun K hK => ?_) ?_
      (refine step_app_row rfl (.tmp 24) (.tmp 26) rfl wb.heap.size (.slice Ao k co) _ k rfl HO.out q2 q1 rfl HQ2.out (by omega) (by have := Below.size hD3; omega) (fun A3 c3 W ho hg hl => ?_); have HV0 := HV; have hSn : (fun w' => Below wb.heap.size wb w') W := Below.trans hD3 (grown_below hg (Below.size hD3) (fun g hgb => (HO.out.lt g hgb).1)); have HV := hide (HV.out.kept hg HAP.out.row); have HRO := hide (HRO.out.grown hg (fun i hi e => own_ne HO.out (HRO.out.row i hi) (by decide) e.symm)); have HRV := hide (HRV.out.grown hg (fun i hi e => own_ne HO.out (HRV.out.row i hi) (by decide) e.symm)); have HAP3 := hide (HAP.out.app HV0.out hl); replace HQ1 := hide ((hg.block _ (blk_lt HQ1.out) (fun e => own_ne HO.out HQ1.out (by decide) e.symm)).trans HQ1.out); (try replace HQ5 := hide ((hg.block _ (blk_lt HQ5.out) (fun e => own_ne HO.out HQ5.out (by decide) e.symm)).trans HQ5.out)); (try replace HQ6 := hide ((hg.block _ (blk_lt HQ6.out) (fun e => HF6.out e.symm)).trans HQ6.out)); have HO := hide ho; clear ho hg hl HQ2)
      refine hK.out _ _ ?_ (fun hD4 => ?_)
      · (try dsimp only); first | assumption | exact hSn | exact zbD HBT.out.below
      clear hK K hD3; try simp only [Act.put, zl, z0, z1]
      refine wpAnyH_ready (rs := [6]) (by kernel_rfl) (by simp) ?_; refine consL 6 rfl (fun K hK => ?_) AllReadyH.nil
      (go_simp; (first | refine capN (fun W q6 hq hQ hB hgr => ?_) | refine capND (fun W q6 hq hQ hB hgr => ?_)); have hSn : (fun w' => Below wb.heap.size wb w') W := (by first | exact hB _ _ hD4 (Below.size hD4) | exact hB _ _ HBT.out.below HBT.out.below.size); (try have HF6 := hide (show (Value.slice Ao k co).ownBlock ≠ some q6 from by rw [← hq]; exact own_fresh HO.out)); have HO := hide (HO.out.kept hgr (Classical.em _)); have HV := hide (HV.out.kept hgr (Classical.em _)); have HRO := hide (HRO.out.grown hgr (fun i hi => by simp)); have HRV := hide (HRV.out.grown hgr (fun i hi => by simp)); (try replace HQ1 := hide ((hgr.block _ (blk_lt HQ1.out) (by simp)).trans HQ1.out)); (try replace HQ2 := hide ((hgr.block _ (blk_lt HQ2.out) (by simp)).trans HQ2.out)); (try replace HQ5 := hide ((hgr.block _ (blk_lt HQ5.out) (by simp)).trans HQ5.out)); (try replace HQ6 := hide ((hgr.block _ (blk_lt HQ6.out) (by simp)).trans HQ6.out)); have HQ6 := hide (show W.heap[q6]? = some (.cells #[rowV q5] 24 (0, 0)) from hQ); rw [hq]; clear hq hQ hB hgr)
      refine hK.out _ _ ?_ (fun hD5 => ?_)
      · (try dsimp only); first | assumption | exact hSn | exact zbD HBT.out.below
      clear hK K hD4; try simp only [Act.put, zl, z0, z1]
      refine wpAnyH_ready (rs := [7]) (by kernel_rfl) (by simp) ?_; refine consL 7 rfl (fun K hK => ?_) AllReadyH.nil
      (refine step_app_row rfl (.tmp 28) (.tmp 30) rfl wb.heap.size (.slice Av k cv) _ k rfl HV.out q6 q5 rfl HQ6.out (by omega) (by have := Below.size hD5; omega) (fun A7 c7 W ho hg hl => ?_); have hSn : (fun w' => Below wb.heap.size wb w') W := Below.trans hD5 (grown_below hg (Below.size hD5) (fun g hgb => (HV.out.lt g hgb).1)); have HO7 := HO; have HO := hide (HO.out.kept hg HAP3.out.symm.row); have HRO := hide (HRO.out.grown hg (fun i hi e => own_ne HV.out (HRO.out.row i hi) (by decide) e.symm)); have HRV := hide (HRV.out.grown hg (fun i hi e => own_ne HV.out (HRV.out.row i hi) (by decide) e.symm)); have HAP7 := hide (HAP3.out.symm.app HO7.out hl).symm; replace HQ1 := hide ((hg.block _ (blk_lt HQ1.out) (fun e => own_ne HV.out HQ1.out (by decide) e.symm)).trans HQ1.out); replace HQ5 := hide ((hg.block _ (blk_lt HQ5.out) (fun e => own_ne HV.out HQ5.out (by decide) e.symm)).trans HQ5.out); have HV := hide ho; clear ho hg hl HQ6 HO7)
      refine hK.out _ _ ?_ (fun hD6 => ?_)
      · (try dsimp only); first | assumption | exact hSn | exact zbD HBT.out.below
      clear hK K hD5; try simp only [Act.put, zl, z0, z1]
      refine tW ?_ 8 rfl (by kernel_rfl) (fun _ _ _ h => h) (by rfl) (by assumption) ?_ ?_; rotate_left; (focus (intro w hSw; (try dsimp only at hSw); go_simp; try with_reducible rfl)); try simp only [Act.put, zl, z0, z1]
      refine tW ?_ 9 rfl (by kernel_rfl) (fun _ _ _ h => h) (by rfl) (by assumption) ?_ ?_; rotate_left; (focus (intro w hSw; (try dsimp only at hSw); go_simp; try with_reducible rfl)); try simp only [Act.put, zl, z0, z1]
      refine wpAnyH_done (by kernel_rfl) ?_ _
      rotate_left 1
      refine consL 6 rfl (fun K hK => ?_) AllReadyH.nil
      (go_simp; (first | refine capN (fun W q6 hq hQ hB hgr => ?_) | refine capND (fun W q6 hq hQ hB hgr => ?_)); have hSn : (fun w' => Below wb.heap.size wb w') W := (by first | exact hB _ _ hD3 (Below.size hD3) | exact hB _ _ HBT.out.below HBT.out.below.size); (try have HF6 := hide (show (Value.slice Ao k co).ownBlock ≠ some q6 from by rw [← hq]; exact own_fresh HO.out)); have HO := hide (HO.out.kept hgr (Classical.em _)); have HV := hide (HV.out.kept hgr (Classical.em _)); have HRO := hide (HRO.out.grown hgr (fun i hi => by simp)); have HRV := hide (HRV.out.grown hgr (fun i hi => by simp)); (try replace HQ1 := hide ((hgr.block _ (blk_lt HQ1.out) (by simp)).trans HQ1.out)); (try replace HQ2 := hide ((hgr.block _ (blk_lt HQ2.out) (by simp)).trans HQ2.out)); (try replace HQ5 := hide ((hgr.block _ (blk_lt HQ5.out) (by simp)).trans HQ5.out)); (try replace HQ6 := hide ((hgr.block _ (blk_lt HQ6.out) (by simp)).trans HQ6.out)); have HQ6 := hide (show W.heap[q6]? = some (.cells #[rowV q5] 24 (0, 0)) from hQ); rw [hq]; clear hq hQ hB hgr)
      refine hK.out _ _ ?_ (fun hD4 => ?_)
      · (try dsimp only); first | assumption | exact hSn | exact zbD HBT.out.below
      clear hK K hD3; try simp only [Act.put, zl, z0, z1]
      refine wpAnyH_ready (rs := [3]) (by kernel_rfl) (by simp) ?_; refine consL 3 rfl (fun K hK => ?_) AllReadyH.nil
      (refine step_app_row rfl (.tmp 24) (.tmp 26) rfl wb.heap.size (.slice Ao k co) _ k rfl HO.out q2 q1 rfl HQ2.out (by omega) (by have := Below.size hD4; omega) (fun A3 c3 W ho hg hl => ?_); have HV0 := HV; have hSn : (fun w' => Below wb.heap.size wb w') W := Below.trans hD4 (grown_below hg (Below.size hD4) (fun g hgb => (HO.out.lt g hgb).1)); have HV := hide (HV.out.kept hg HAP.out.row); have HRO := hide (HRO.out.grown hg (fun i hi e => own_ne HO.out (HRO.out.row i hi) (by decide) e.symm)); have HRV := hide (HRV.out.grown hg (fun i hi e => own_ne HO.out (HRV.out.row i hi) (by decide) e.symm)); have HAP3 := hide (HAP.out.app HV0.out hl); replace HQ1 := hide ((hg.block _ (blk_lt HQ1.out) (fun e => own_ne HO.out HQ1.out (by decide) e.symm)).trans HQ1.out); (try replace HQ5 := hide ((hg.block _ (blk_lt HQ5.out) (fun e => own_ne HO.out HQ5.out (by decide) e.symm)).trans HQ5.out)); (try replace HQ6 := hide ((hg.block _ (blk_lt HQ6.out) (fun e => HF6.out e.symm)).trans HQ6.out)); have HO := hide ho; clear ho hg hl HQ2)
      refine hK.out _ _ ?_ (fun hD5 => ?_)
      · (try dsimp only); first | assumption | exact hSn | exact zbD HBT.out.below
      clear hK K hD4; try simp only [Act.put, zl, z0, z1]
      refine wpAnyH_ready (rs := [7]) (by kernel_rfl) (by simp) ?_; refine consL 7 rfl (fun K hK => ?_) AllReadyH.nil
      (refine step_app_row rfl (.tmp 28) (.tmp 30) rfl wb.heap.size (.slice Av k cv) _ k rfl HV.out q6 q5 rfl HQ6.out (by omega) (by have := Below.size hD5; omega) (fun A7 c7 W ho hg hl => ?_); have hSn : (fun w' => Below wb.heap.size wb w') W := Below.trans hD5 (grown_below hg (Below.size hD5) (fun g hgb => (HV.out.lt g hgb).1)); have HO7 := HO; have HO := hide (HO.out.kept hg HAP3.out.symm.row); have HRO := hide (HRO.out.grown hg (fun i hi e => own_ne HV.out (HRO.out.row i hi) (by decide) e.symm)); have HRV := hide (HRV.out.grown hg (fun i hi e => own_ne HV.out (HRV.out.row i hi) (by decide) e.symm)); have HAP7 := hide (HAP3.out.symm.app HO7.out hl).symm; replace HQ1 := hide ((hg.block _ (blk_lt HQ1.out) (fun e => own_ne HV.out HQ1.out (by decide) e.symm)).trans HQ1.out); replace HQ5 := hide ((hg.block _ (blk_lt HQ5.out) (fun e => own_ne HV.out HQ5.out (by decide) e.symm)).trans HQ5.out); have HV := hide ho; clear ho hg hl HQ6 HO7)
      refine hK.out _ _ ?_ (fun hD6 => ?_)
      · (try dsimp only); first | assumption | exact hSn | exact zbD HBT.out.below
      clear hK K hD5; try simp only [Act.put, zl, z0, z1]
      refine tW ?_ 8 rfl (by kernel_rfl) (fun _ _ _ h => h) (by rfl) (by assumption) ?_ ?_; rotate_left; (focus (intro w hSw; (try dsimp only at hSw); go_simp; try with_reducible rfl)); try simp only [Act.put, zl, z0, z1]
      refine tW ?_ 9 rfl (by kernel_rfl) (fun _ _ _ h => h) (by rfl) (by assumption) ?_ ?_; rotate_left; (focus (intro w hSw; (try dsimp only at hSw); go_simp; try with_reducible rfl)); try simp only [Act.put, zl, z0, z1]
      refine wpAnyH_done (by kernel_rfl) ?_ _
      rotate_left 1
      refine consL 5 rfl (fun K hK => ?_) AllReadyH.nil
      (go_simp; (first | refine capN (fun W q5 hq hQ hB hgr => ?_) | refine capND (fun W q5 hq hQ hB hgr => ?_)); have hSn : (fun w' => Below wb.heap.size wb w') W := (by first | exact hB _ _ hD1 (Below.size hD1) | exact hB _ _ HBT.out.below HBT.out.below.size); have HB5 := hide (fun i (hi : i < k) => (show bo i ≠ q5 from by have := HRO.out.bl hi; omega)); have HW5 := hide (fun i (hi : i < k) => (show bv i ≠ q5 from by have := HRV.out.bl hi; omega)); have HL5 := hide (show wb.heap.size ≤ q5 from by first | (have := Below.size hD1; omega) | (have := HBT.out.below.size; omega)); (try have HD15 := hide (show q1 ≠ q5 from by have := blk_lt HQ1.out; omega)); have HO := hide (HO.out.kept hgr (Classical.em _)); have HV := hide (HV.out.kept hgr (Classical.em _)); have HRO := hide (HRO.out.grown hgr (fun i hi => by simp)); have HRV := hide (HRV.out.grown hgr (fun i hi => by simp)); (try replace HQ1 := hide ((hgr.block _ (blk_lt HQ1.out) (by simp)).trans HQ1.out)); (try replace HQ2 := hide ((hgr.block _ (blk_lt HQ2.out) (by simp)).trans HQ2.out)); (try replace HQ5 := hide ((hgr.block _ (blk_lt HQ5.out) (by simp)).trans HQ5.out)); (try replace HQ6 := hide ((hgr.block _ (blk_lt HQ6.out) (by simp)).trans HQ6.out)); have HQ5 := hide (show W.heap[q5]? = some (.cells (rowC (fun _ => 0)) 3 (0, 0)) from hQ.trans (by kernel_rfl)); rw [hq]; clear hq hQ hB hgr)
      refine hK.out _ _ ?_ (fun hD2 => ?_)
      · (try dsimp only); first | assumption | exact hSn | exact zbD HBT.out.below
      clear hK K hD1; try simp only [Act.put, zl, z0, z1]
      refine wpAnyH_ready (rs := [2, 6]) (by kernel_rfl) (by simp) ?_; refine consL 2 rfl (fun K hK => ?_) ?_
      (go_simp; (first | refine capN (fun W q2 hq hQ hB hgr => ?_) | refine capND (fun W q2 hq hQ hB hgr => ?_)); have hSn : (fun w' => Below wb.heap.size wb w') W := (by first | exact hB _ _ hD2 (Below.size hD2) | exact hB _ _ HBT.out.below HBT.out.below.size); have HO := hide (HO.out.kept hgr (Classical.em _)); have HV := hide (HV.out.kept hgr (Classical.em _)); have HRO := hide (HRO.out.grown hgr (fun i hi => by simp)); have HRV := hide (HRV.out.grown hgr (fun i hi => by simp)); (try replace HQ1 := hide ((hgr.block _ (blk_lt HQ1.out) (by simp)).trans HQ1.out)); (try replace HQ2 := hide ((hgr.block _ (blk_lt HQ2.out) (by simp)).trans HQ2.out)); (try replace HQ5 := hide ((hgr.block _ (blk_lt HQ5.out) (by simp)).trans HQ5.out)); (try replace HQ6 := hide ((hgr.block _ (blk_lt HQ6.out) (by simp)).trans HQ6.out)); have HQ2 := hide (show W.heap[q2]? = some (.cells #[rowV q1] 24 (0, 0)) from hQ); rw [hq]; clear hq hQ hB hgr)
      refine hK.out _ _ ?_ (fun hD3 => ?_)
      · (try dsimp only); first | assumption | exact hSn | exact zbD HBT.out.below
      clear hK K hD2; try simp only [Act.put, zl, z0, z1]
      refine wpAnyH_ready (rs := [3, 6]) (by kernel_rfl) (by simp) ?_; refine consL 3 rfl (fun K hK => ?_) ?_
      (refine step_app_row rfl (.tmp 24) (.tmp 26) rfl wb.heap.size (.slice Ao k co) _ k rfl HO.out q2 q1 rfl HQ2.out (by omega) (by have := Below.size hD3; omega) (fun A3 c3 W ho hg hl => ?_); have HV0 := HV; have hSn : (fun w' => Below wb.heap.size wb w') W := Below.trans hD3 (grown_below hg (Below.size hD3) (fun g hgb => (HO.out.lt g hgb).1)); have HV := hide (HV.out.kept hg HAP.out.row); have HRO := hide (HRO.out.grown hg (fun i hi e => own_ne HO.out (HRO.out.row i hi) (by decide) e.symm)); have HRV := hide (HRV.out.grown hg (fun i hi e => own_ne HO.out (HRV.out.row i hi) (by decide) e.symm)); have HAP3 := hide (HAP.out.app HV0.out hl); replace HQ1 := hide ((hg.block _ (blk_lt HQ1.out) (fun e => own_ne HO.out HQ1.out (by decide) e.symm)).trans HQ1.out); (try replace HQ5 := hide ((hg.block _ (blk_lt HQ5.out) (fun e => own_ne HO.out HQ5.out (by decide) e.symm)).trans HQ5.out)); (try replace HQ6 := hide ((hg.block _ (blk_lt HQ6.out) (fun e => HF6.out e.symm)).trans HQ6.out)); have HO := hide ho; clear ho hg hl HQ2)
      refine hK.out _ _ ?_ (fun hD4 => ?_)
      · (try dsimp only); first | assumption | exact hSn | exact zbD HBT.out.below
      clear hK K hD3; try simp only [Act.put, zl, z0, z1]
      refine wpAnyH_ready (rs := [6]) (by kernel_rfl) (by simp) ?_; refine consL 6 rfl (fun K hK => ?_) AllReadyH.nil
      (go_simp; (first | refine capN (fun W q6 hq hQ hB hgr => ?_) | refine capND (fun W q6 hq hQ hB hgr => ?_)); have hSn : (fun w' => Below wb.heap.size wb w') W := (by first | exact hB _ _ hD4 (Below.size hD4) | exact hB _ _ HBT.out.below HBT.out.below.size); (try have HF6 := hide (show (Value.slice Ao k co).ownBlock ≠ some q6 from by rw [← hq]; exact own_fresh HO.out)); have HO := hide (HO.out.kept hgr (Classical.em _)); have HV := hide (HV.out.kept hgr (Classical.em _)); have HRO := hide (HRO.out.grown hgr (fun i hi => by simp)); have HRV := hide (HRV.out.grown hgr (fun i hi => by simp)); (try replace HQ1 := hide ((hgr.block _ (blk_lt HQ1.out) (by simp)).trans HQ1.out)); (try replace HQ2 := hide ((hgr.block _ (blk_lt HQ2.out) (by simp)).trans HQ2.out)); (try replace HQ5 := hide ((hgr.block _ (blk_lt HQ5.out) (by simp)).trans HQ5.out)); (try replace HQ6 := hide ((hgr.block _ (blk_lt HQ6.out) (by simp)).trans HQ6.out)); have HQ6 := hide (show W.heap[q6]? = some (.cells #[rowV q5] 24 (0, 0)) from hQ); rw [hq]; clear hq hQ hB hgr)
      refine hK.out _ _ ?_ (fun hD5 => ?_)
      · (try dsimp only); first | assumption | exact hSn | exact zbD HBT.out.below
      clear hK K hD4; try simp only [Act.put, zl, z0, z1]
      refine wpAnyH_ready (rs := [7]) (by kernel_rfl) (by simp) ?_; refine consL 7 rfl (fun K hK => ?_) AllReadyH.nil
      (refine step_app_row rfl (.tmp 28) (.tmp 30) rfl wb.heap.size (.slice Av k cv) _ k rfl HV.out q6 q5 rfl HQ6.out (by omega) (by have := Below.size hD5; omega) (fun A7 c7 W ho hg hl => ?_); have hSn : (fun w' => Below wb.heap.size wb w') W := Below.trans hD5 (grown_below hg (Below.size hD5) (fun g hgb => (HV.out.lt g hgb).1)); have HO7 := HO; have HO := hide (HO.out.kept hg HAP3.out.symm.row); have HRO := hide (HRO.out.grown hg (fun i hi e => own_ne HV.out (HRO.out.row i hi) (by decide) e.symm)); have HRV := hide (HRV.out.grown hg (fun i hi e => own_ne HV.out (HRV.out.row i hi) (by decide) e.symm)); have HAP7 := hide (HAP3.out.symm.app HO7.out hl).symm; replace HQ1 := hide ((hg.block _ (blk_lt HQ1.out) (fun e => own_ne HV.out HQ1.out (by decide) e.symm)).trans HQ1.out); replace HQ5 := hide ((hg.block _ (blk_lt HQ5.out) (fun e => own_ne HV.out HQ5.out (by decide) e.symm)).trans HQ5.out); have HV := hide ho; clear ho hg hl HQ6 HO7)
      refine hK.out _ _ ?_ (fun hD6 => ?_)
      · (try dsimp only); first | assumption | exact hSn | exact zbD HBT.out.below
      clear hK K hD5; try simp only [Act.put, zl, z0, z1]
      refine tW ?_ 8 rfl (by kernel_rfl) (fun _ _ _ h => h) (by rfl) (by assumption) ?_ ?_; rotate_left; (focus (intro w hSw; (try dsimp only at hSw); go_simp; try with_reducible rfl)); try simp only [Act.put, zl, z0, z1]
      refine tW ?_ 9 rfl (by kernel_rfl) (fun _ _ _ h => h) (by rfl) (by assumption) ?_ ?_; rotate_left; (focus (intro w hSw; (try dsimp only at hSw); go_simp; try with_reducible rfl)); try simp only [Act.put, zl, z0, z1]
      refine wpAnyH_done (by kernel_rfl) ?_ _
      rotate_left 1
      refine consL 6 rfl (fun K hK => ?_) AllReadyH.nil
      (go_simp; (first | refine capN (fun W q6 hq hQ hB hgr => ?_) | refine capND (fun W q6 hq hQ hB hgr => ?_)); have hSn : (fun w' => Below wb.heap.size wb w') W := (by first | exact hB _ _ hD3 (Below.size hD3) | exact hB _ _ HBT.out.below HBT.out.below.size); (try have HF6 := hide (show (Value.slice Ao k co).ownBlock ≠ some q6 from by rw [← hq]; exact own_fresh HO.out)); have HO := hide (HO.out.kept hgr (Classical.em _)); have HV := hide (HV.out.kept hgr (Classical.em _)); have HRO := hide (HRO.out.grown hgr (fun i hi => by simp)); have HRV := hide (HRV.out.grown hgr (fun i hi => by simp)); (try replace HQ1 := hide ((hgr.block _ (blk_lt HQ1.out) (by simp)).trans HQ1.out)); (try replace HQ2 := hide ((hgr.block _ (blk_lt HQ2.out) (by simp)).trans HQ2.out)); (try replace HQ5 := hide ((hgr.block _ (blk_lt HQ5.out) (by simp)).trans HQ5.out)); (try replace HQ6 := hide ((hgr.block _ (blk_lt HQ6.out) (by simp)).trans HQ6.out)); have HQ6 := hide (show W.heap[q6]? = some (.cells #[rowV q5] 24 (0, 0)) from hQ); rw [hq]; clear hq hQ hB hgr)
      refine hK.out _ _ ?_ (fun hD4 => ?_)
      · (try dsimp only); first | assumption | exact hSn | exact zbD HBT.out.below
      clear hK K hD3; try simp only [Act.put, zl, z0, z1]
      refine wpAnyH_ready (rs := [3]) (by kernel_rfl) (by simp) ?_; refine consL 3 rfl (fun K hK => ?_) AllReadyH.nil
      (refine step_app_row rfl (.tmp 24) (.tmp 26) rfl wb.heap.size (.slice Ao k co) _ k rfl HO.out q2 q1 rfl HQ2.out (by omega) (by have := Below.size hD4; omega) (fun A3 c3 W ho hg hl => ?_); have HV0 := HV; have hSn : (fun w' => Below wb.heap.size wb w') W := Below.trans hD4 (grown_below hg (Below.size hD4) (fun g hgb => (HO.out.lt g hgb).1)); have HV := hide (HV.out.kept hg HAP.out.row); have HRO := hide (HRO.out.grown hg (fun i hi e => own_ne HO.out (HRO.out.row i hi) (by decide) e.symm)); have HRV := hide (HRV.out.grown hg (fun i hi e => own_ne HO.out (HRV.out.row i hi) (by decide) e.symm)); have HAP3 := hide (HAP.out.app HV0.out hl); replace HQ1 := hide ((hg.block _ (blk_lt HQ1.out) (fun e => own_ne HO.out HQ1.out (by decide) e.symm)).trans HQ1.out); (try replace HQ5 := hide ((hg.block _ (blk_lt HQ5.out) (fun e => own_ne HO.out HQ5.out (by decide) e.symm)).trans HQ5.out)); (try replace HQ6 := hide ((hg.block _ (blk_lt HQ6.out) (fun e => HF6.out e.symm)).trans HQ6.out)); have HO := hide ho; clear ho hg hl HQ2)
      refine hK.out _ _ ?_ (fun hD5 => ?_)
      · (try dsimp only); first | assumption | exact hSn | exact zbD HBT.out.below
      clear hK K hD4; try simp only [Act.put, zl, z0, z1]
      refine wpAnyH_ready (rs := [7]) (by kernel_rfl) (by simp) ?_; refine consL 7 rfl (fun K hK => ?_) AllReadyH.nil
      (refine step_app_row rfl (.tmp 28) (.tmp 30) rfl wb.heap.size (.slice Av k cv) _ k rfl HV.out q6 q5 rfl HQ6.out (by omega) (by have := Below.size hD5; omega) (fun A7 c7 W ho hg hl => ?_); have hSn : (fun w' => Below wb.heap.size wb w') W := Below.trans hD5 (grown_below hg (Below.size hD5) (fun g hgb => (HV.out.lt g hgb).1)); have HO7 := HO; have HO := hide (HO.out.kept hg HAP3.out.symm.row); have HRO := hide (HRO.out.grown hg (fun i hi e => own_ne HV.out (HRO.out.row i hi) (by decide) e.symm)); have HRV := hide (HRV.out.grown hg (fun i hi e => own_ne HV.out (HRV.out.row i hi) (by decide) e.symm)); have HAP7 := hide (HAP3.out.symm.app HO7.out hl).symm; replace HQ1 := hide ((hg.block _ (blk_lt HQ1.out) (fun e => own_ne HV.out HQ1.out (by decide) e.symm)).trans HQ1.out); replace HQ5 := hide ((hg.block _ (blk_lt HQ5.out) (fun e => own_ne HV.out HQ5.out (by decide) e.symm)).trans HQ5.out); have HV := hide ho; clear ho hg hl HQ6 HO7)
      refine hK.out _ _ ?_ (fun hD6 => ?_)
      · (try dsimp only); first | assumption | exact hSn | exact zbD HBT.out.below
      clear hK K hD5; try simp only [Act.put, zl, z0, z1]
      refine tW ?_ 8 rfl (by kernel_rfl) (fun _ _ _ h => h) (by rfl) (by assumption) ?_ ?_; rotate_left; (focus (intro w hSw; (try dsimp only at hSw); go_simp; try with_reducible rfl)); try simp only [Act.put, zl, z0, z1]
      refine tW ?_ 9 rfl (by kernel_rfl) (fun _ _ _ h => h) (by rfl) (by assumption) ?_ ?_; rotate_left; (focus (intro w hSw; (try dsimp only at hSw); go_simp; try with_reducible rfl)); try simp only [Act.put, zl, z0, z1]
      refine wpAnyH_done (by kernel_rfl) ?_ _
      rotate_left 1
      refine consL 6 rfl (fun K hK => ?_) AllReadyH.nil
      (go_simp; (first | refine capN (fun W q6 hq hQ hB hgr => ?_) | refine capND (fun W q6 hq hQ hB hgr => ?_)); have hSn : (fun w' => Below wb.heap.size wb w') W := (by first | exact hB _ _ hD2 (Below.size hD2) | exact hB _ _ HBT.out.below HBT.out.below.size); (try have HF6 := hide (show (Value.slice Ao k co).ownBlock ≠ some q6 from by rw [← hq]; exact own_fresh HO.out)); have HO := hide (HO.out.kept hgr (Classical.em _)); have HV := hide (HV.out.kept hgr (Classical.em _)); have HRO := hide (HRO.out.grown hgr (fun i hi => by simp)); have HRV := hide (HRV.out.grown hgr (fun i hi => by simp)); (try replace HQ1 := hide ((hgr.block _ (blk_lt HQ1.out) (by simp)).trans HQ1.out)); (try replace HQ2 := hide ((hgr.block _ (blk_lt HQ2.out) (by simp)).trans HQ2.out)); (try replace HQ5 := hide ((hgr.block _ (blk_lt HQ5.out) (by simp)).trans HQ5.out)); (try replace HQ6 := hide ((hgr.block _ (blk_lt HQ6.out) (by simp)).trans HQ6.out)); have HQ6 := hide (show W.heap[q6]? = some (.cells #[rowV q5] 24 (0, 0)) from hQ); rw [hq]; clear hq hQ hB hgr)
      refine hK.out _ _ ?_ (fun hD3 => ?_)
      · (try dsimp only); first | assumption | exact hSn | exact zbD HBT.out.below
      clear hK K hD2; try simp only [Act.put, zl, z0, z1]
      refine wpAnyH_ready (rs := [2]) (by kernel_rfl) (by simp) ?_; refine consL 2 rfl (fun K hK => ?_) AllReadyH.nil
      (go_simp; (first | refine capN (fun W q2 hq hQ hB hgr => ?_) | refine capND (fun W q2 hq hQ hB hgr => ?_)); have hSn : (fun w' => Below wb.heap.size wb w') W := (by first | exact hB _ _ hD3 (Below.size hD3) | exact hB _ _ HBT.out.below HBT.out.below.size); have HO := hide (HO.out.kept hgr (Classical.em _)); have HV := hide (HV.out.kept hgr (Classical.em _)); have HRO := hide (HRO.out.grown hgr (fun i hi => by simp)); have HRV := hide (HRV.out.grown hgr (fun i hi => by simp)); (try replace HQ1 := hide ((hgr.block _ (blk_lt HQ1.out) (by simp)).trans HQ1.out)); (try replace HQ2 := hide ((hgr.block _ (blk_lt HQ2.out) (by simp)).trans HQ2.out)); (try replace HQ5 := hide ((hgr.block _ (blk_lt HQ5.out) (by simp)).trans HQ5.out)); (try replace HQ6 := hide ((hgr.block _ (blk_lt HQ6.out) (by simp)).trans HQ6.out)); have HQ2 := hide (show W.heap[q2]? = some (.cells #[rowV q1] 24 (0, 0)) from hQ); rw [hq]; clear hq hQ hB hgr)
      refine hK.out _ _ ?_ (fun hD4 => ?_)
      · (try dsimp only); first | assumption | exact hSn | exact zbD HBT.out.below
      clear hK K hD3; try simp only [Act.put, zl, z0, z1]
      refine wpAnyH_ready (rs := [3]) (by kernel_rfl) (by simp) ?_; refine consL 3 rfl (fun K hK => ?_) AllReadyH.nil
      (refine step_app_row rfl (.tmp 24) (.tmp 26) rfl wb.heap.size (.slice Ao k co) _ k rfl HO.out q2 q1 rfl HQ2.out (by omega) (by have := Below.size hD4; omega) (fun A3 c3 W ho hg hl => ?_); have HV0 := HV; have hSn : (fun w' => Below wb.heap.size wb w') W := Below.trans hD4 (grown_below hg (Below.size hD4) (fun g hgb => (HO.out.lt g hgb).1)); have HV := hide (HV.out.kept hg HAP.out.row); have HRO := hide (HRO.out.grown hg (fun i hi e => own_ne HO.out (HRO.out.row i hi) (by decide) e.symm)); have HRV := hide (HRV.out.grown hg (fun i hi e => own_ne HO.out (HRV.out.row i hi) (by decide) e.symm)); have HAP3 := hide (HAP.out.app HV0.out hl); replace HQ1 := hide ((hg.block _ (blk_lt HQ1.out) (fun e => own_ne HO.out HQ1.out (by decide) e.symm)).trans HQ1.out); (try replace HQ5 := hide ((hg.block _ (blk_lt HQ5.out) (fun e => own_ne HO.out HQ5.out (by decide) e.symm)).trans HQ5.out)); (try replace HQ6 := hide ((hg.block _ (blk_lt HQ6.out) (fun e => HF6.out e.symm)).trans HQ6.out)); have HO := hide ho; clear ho hg hl HQ2)
      refine hK.out _ _ ?_ (fun hD5 => ?_)
      · (try dsimp only); first | assumption | exact hSn | exact zbD HBT.out.below
      clear hK K hD4; try simp only [Act.put, zl, z0, z1]
      refine wpAnyH_ready (rs := [7]) (by kernel_rfl) (by simp) ?_; refine consL 7 rfl (fun K hK => ?_) AllReadyH.nil
      (refine step_app_row rfl (.tmp 28) (.tmp 30) rfl wb.heap.size (.slice Av k cv) _ k rfl HV.out q6 q5 rfl HQ6.out (by omega) (by have := Below.size hD5; omega) (fun A7 c7 W ho hg hl => ?_); have hSn : (fun w' => Below wb.heap.size wb w') W := Below.trans hD5 (grown_below hg (Below.size hD5) (fun g hgb => (HV.out.lt g hgb).1)); have HO7 := HO; have HO := hide (HO.out.kept hg HAP3.out.symm.row); have HRO := hide (HRO.out.grown hg (fun i hi e => own_ne HV.out (HRO.out.row i hi) (by decide) e.symm)); have HRV := hide (HRV.out.grown hg (fun i hi e => own_ne HV.out (HRV.out.row i hi) (by decide) e.symm)); have HAP7 := hide (HAP3.out.symm.app HO7.out hl).symm; replace HQ1 := hide ((hg.block _ (blk_lt HQ1.out) (fun e => own_ne HV.out HQ1.out (by decide) e.symm)).trans HQ1.out); replace HQ5 := hide ((hg.block _ (blk_lt HQ5.out) (fun e => own_ne HV.out HQ5.out (by decide) e.symm)).trans HQ5.out); have HV := hide ho; clear ho hg hl HQ6 HO7)
      refine hK.out _ _ ?_ (fun hD6 => ?_)
      · (try dsimp only); first | assumption | exact hSn | exact zbD HBT.out.below
      clear hK K hD5; try simp only [Act.put, zl, z0, z1]
      refine tW ?_ 8 rfl (by kernel_rfl) (fun _ _ _ h => h) (by rfl) (by assumption) ?_ ?_; rotate_left; (focus (intro w hSw; (try dsimp only at hSw); go_simp; try with_reducible rfl)); try simp only [Act.put, zl, z0, z1]
      refine tW ?_ 9 rfl (by kernel_rfl) (fun _ _ _ h => h) (by rfl) (by assumption) ?_ ?_; rotate_left; (focus (intro w hSw; (try dsimp only at hSw); go_simp; try with_reducible rfl)); try simp only [Act.put, zl, z0, z1]
      refine wpAnyH_done (by kernel_rfl) ?_ _
      rotate_left 1
      refine consL 5 rfl (fun K hK => ?_) AllReadyH.nil
      (go_simp; (first | refine capN (fun W q5 hq hQ hB hgr => ?_) | refine capND (fun W q5 hq hQ hB hgr => ?_)); have hSn : (fun w' => Below wb.heap.size wb w') W := (by first | exact hB _ _ hD0 (Below.size hD0) | exact hB _ _ HBT.out.below HBT.out.below.size); have HB5 := hide (fun i (hi : i < k) => (show bo i ≠ q5 from by have := HRO.out.bl hi; omega)); have HW5 := hide (fun i (hi : i < k) => (show bv i ≠ q5 from by have := HRV.out.bl hi; omega)); have HL5 := hide (show wb.heap.size ≤ q5 from by first | (have := Below.size hD0; omega) | (have := HBT.out.below.size; omega)); (try have HD15 := hide (show q1 ≠ q5 from by have := blk_lt HQ1.out; omega)); have HO := hide (HO.out.kept hgr (Classical.em _)); have HV := hide (HV.out.kept hgr (Classical.em _)); have HRO := hide (HRO.out.grown hgr (fun i hi => by simp)); have HRV := hide (HRV.out.grown hgr (fun i hi => by simp)); (try replace HQ1 := hide ((hgr.block _ (blk_lt HQ1.out) (by simp)).trans HQ1.out)); (try replace HQ2 := hide ((hgr.block _ (blk_lt HQ2.out) (by simp)).trans HQ2.out)); (try replace HQ5 := hide ((hgr.block _ (blk_lt HQ5.out) (by simp)).trans HQ5.out)); (try replace HQ6 := hide ((hgr.block _ (blk_lt HQ6.out) (by simp)).trans HQ6.out)); have HQ5 := hide (show W.heap[q5]? = some (.cells (rowC (fun _ => 0)) 3 (0, 0)) from hQ.trans (by kernel_rfl)); rw [hq]; clear hq hQ hB hgr)
      refine hK.out _ _ ?_ (fun hD1 => ?_)
      · (try dsimp only); first | assumption | exact hSn | exact zbD HBT.out.below
      clear hK K hD0; try simp only [Act.put, zl, z0, z1]
      refine wpAnyH_ready (rs := [1, 6]) (by kernel_rfl) (by simp) ?_; refine consL 1 rfl (fun K hK => ?_) ?_
      (go_simp; (first | refine capN (fun W q1 hq hQ hB hgr => ?_) | refine capND (fun W q1 hq hQ hB hgr => ?_)); have hSn : (fun w' => Below wb.heap.size wb w') W := (by first | exact hB _ _ hD1 (Below.size hD1) | exact hB _ _ HBT.out.below HBT.out.below.size); have HBQ1 := hide (fun i (hi : i < k) => (show bo i ≠ q1 from by have := HRO.out.bl hi; omega)); have HW1 := hide (fun i (hi : i < k) => (show bv i ≠ q1 from by have := HRV.out.bl hi; omega)); have HL1 := hide (show wb.heap.size ≤ q1 from by first | (have := Below.size hD1; omega) | (have := HBT.out.below.size; omega)); (try have HD15 := hide (show q5 ≠ q1 from by have := blk_lt HQ5.out; omega)); have HO := hide (HO.out.kept hgr (Classical.em _)); have HV := hide (HV.out.kept hgr (Classical.em _)); have HRO := hide (HRO.out.grown hgr (fun i hi => by simp)); have HRV := hide (HRV.out.grown hgr (fun i hi => by simp)); (try replace HQ1 := hide ((hgr.block _ (blk_lt HQ1.out) (by simp)).trans HQ1.out)); (try replace HQ2 := hide ((hgr.block _ (blk_lt HQ2.out) (by simp)).trans HQ2.out)); (try replace HQ5 := hide ((hgr.block _ (blk_lt HQ5.out) (by simp)).trans HQ5.out)); (try replace HQ6 := hide ((hgr.block _ (blk_lt HQ6.out) (by simp)).trans HQ6.out)); have HQ1 := hide (show W.heap[q1]? = some (.cells (rowC (fun _ => 0)) 3 (0, 0)) from hQ.trans (by kernel_rfl)); rw [hq]; clear hq hQ hB hgr)
      refine hK.out _ _ ?_ (fun hD2 => ?_)
      · (try dsimp only); first | assumption | exact hSn | exact zbD HBT.out.below
      clear hK K hD1; try simp only [Act.put, zl, z0, z1]
      refine wpAnyH_ready (rs := [2, 6]) (by kernel_rfl) (by simp) ?_; refine consL 2 rfl (fun K hK => ?_) ?_
      (go_simp; (first | refine capN (fun W q2 hq hQ hB hgr => ?_) | refine capND (fun W q2 hq hQ hB hgr => ?_)); have hSn : (fun w' => Below wb.heap.size wb w') W := (by first | exact hB _ _ hD2 (Below.size hD2) | exact hB _ _ HBT.out.below HBT.out.below.size); have HO := hide (HO.out.kept hgr (Classical.em _)); have HV := hide (HV.out.kept hgr (Classical.em _)); have HRO := hide (HRO.out.grown hgr (fun i hi => by simp)); have HRV := hide (HRV.out.grown hgr (fun i hi => by simp)); (try replace HQ1 := hide ((hgr.block _ (blk_lt HQ1.out) (by simp)).trans HQ1.out)); (try replace HQ2 := hide ((hgr.block _ (blk_lt HQ2.out) (by simp)).trans HQ2.out)); (try replace HQ5 := hide ((hgr.block _ (blk_lt HQ5.out) (by simp)).trans HQ5.out)); (try replace HQ6 := hide ((hgr.block _ (blk_lt HQ6.out) (by simp)).trans HQ6.out)); have HQ2 := hide (show W.heap[q2]? = some (.cells #[rowV q1] 24 (0, 0)) from hQ); rw [hq]; clear hq hQ hB hgr)
      refine hK.out _ _ ?_ (fun hD3 => ?_)
      · (try dsimp only); first | assumption | exact hSn | exact zbD HBT.out.below
      clear hK K hD2; try simp only [Act.put, zl, z0, z1]
      refine wpAnyH_ready (rs := [3, 6]) (by kernel_rfl) (by simp) ?_; refine consL 3 rfl (fun K hK => ?_) ?_
      (refine step_app_row rfl (.tmp 24) (.tmp 26) rfl wb.heap.size (.slice Ao k co) _ k rfl HO.out q2 q1 rfl HQ2.out (by omega) (by have := Below.size hD3; omega) (fun A3 c3 W ho hg hl => ?_); have HV0 := HV; have hSn : (fun w' => Below wb.heap.size wb w') W := Below.trans hD3 (grown_below hg (Below.size hD3) (fun g hgb => (HO.out.lt g hgb).1)); have HV := hide (HV.out.kept hg HAP.out.row); have HRO := hide (HRO.out.grown hg (fun i hi e => own_ne HO.out (HRO.out.row i hi) (by decide) e.symm)); have HRV := hide (HRV.out.grown hg (fun i hi e => own_ne HO.out (HRV.out.row i hi) (by decide) e.symm)); have HAP3 := hide (HAP.out.app HV0.out hl); replace HQ1 := hide ((hg.block _ (blk_lt HQ1.out) (fun e => own_ne HO.out HQ1.out (by decide) e.symm)).trans HQ1.out); (try replace HQ5 := hide ((hg.block _ (blk_lt HQ5.out) (fun e => own_ne HO.out HQ5.out (by decide) e.symm)).trans HQ5.out)); (try replace HQ6 := hide ((hg.block _ (blk_lt HQ6.out) (fun e => HF6.out e.symm)).trans HQ6.out)); have HO := hide ho; clear ho hg hl HQ2)
      refine hK.out _ _ ?_ (fun hD4 => ?_)
      · (try dsimp only); first | assumption | exact hSn | exact zbD HBT.out.below
      clear hK K hD3; try simp only [Act.put, zl, z0, z1]
      refine wpAnyH_ready (rs := [6]) (by kernel_rfl) (by simp) ?_; refine consL 6 rfl (fun K hK => ?_) AllReadyH.nil
      (go_simp; (first | refine capN (fun W q6 hq hQ hB hgr => ?_) | refine capND (fun W q6 hq hQ hB hgr => ?_)); have hSn : (fun w' => Below wb.heap.size wb w') W := (by first | exact hB _ _ hD4 (Below.size hD4) | exact hB _ _ HBT.out.below HBT.out.below.size); (try have HF6 := hide (show (Value.slice Ao k co).ownBlock ≠ some q6 from by rw [← hq]; exact own_fresh HO.out)); have HO := hide (HO.out.kept hgr (Classical.em _)); have HV := hide (HV.out.kept hgr (Classical.em _)); have HRO := hide (HRO.out.grown hgr (fun i hi => by simp)); have HRV := hide (HRV.out.grown hgr (fun i hi => by simp)); (try replace HQ1 := hide ((hgr.block _ (blk_lt HQ1.out) (by simp)).trans HQ1.out)); (try replace HQ2 := hide ((hgr.block _ (blk_lt HQ2.out) (by simp)).trans HQ2.out)); (try replace HQ5 := hide ((hgr.block _ (blk_lt HQ5.out) (by simp)).trans HQ5.out)); (try replace HQ6 := hide ((hgr.block _ (blk_lt HQ6.out) (by simp)).trans HQ6.out)); have HQ6 := hide (show W.heap[q6]? = some (.cells #[rowV q5] 24 (0, 0)) from hQ); rw [hq]; clear hq hQ hB hgr)
      refine hK.out _ _ ?_ (fun hD5 => ?_)
      · (try dsimp only); first | assumption | exact hSn | exact zbD HBT.out.below
      clear hK K hD4; try simp only [Act.put, zl, z0, z1]
      refine wpAnyH_ready (rs := [7]) (by kernel_rfl) (by simp) ?_; refine consL 7 rfl (fun K hK => ?_) AllReadyH.nil
      (refine step_app_row rfl (.tmp 28) (.tmp 30) rfl wb.heap.size (.slice Av k cv) _ k rfl HV.out q6 q5 rfl HQ6.out (by omega) (by have := Below.size hD5; omega) (fun A7 c7 W ho hg hl => ?_); have hSn : (fun w' => Below wb.heap.size wb w') W := Below.trans hD5 (grown_below hg (Below.size hD5) (fun g hgb => (HV.out.lt g hgb).1)); have HO7 := HO; have HO := hide (HO.out.kept hg HAP3.out.symm.row); have HRO := hide (HRO.out.grown hg (fun i hi e => own_ne HV.out (HRO.out.row i hi) (by decide) e.symm)); have HRV := hide (HRV.out.grown hg (fun i hi e => own_ne HV.out (HRV.out.row i hi) (by decide) e.symm)); have HAP7 := hide (HAP3.out.symm.app HO7.out hl).symm; replace HQ1 := hide ((hg.block _ (blk_lt HQ1.out) (fun e => own_ne HV.out HQ1.out (by decide) e.symm)).trans HQ1.out); replace HQ5 := hide ((hg.block _ (blk_lt HQ5.out) (fun e => own_ne HV.out HQ5.out (by decide) e.symm)).trans HQ5.out); have HV := hide ho; clear ho hg hl HQ6 HO7)
      refine hK.out _ _ ?_ (fun hD6 => ?_)
      · (try dsimp only); first | assumption | exact hSn | exact zbD HBT.out.below
      clear hK K hD5; try simp only [Act.put, zl, z0, z1]
      refine tW ?_ 8 rfl (by kernel_rfl) (fun _ _ _ h => h) (by rfl) (by assumption) ?_ ?_; rotate_left; (focus (intro w hSw; (try dsimp only at hSw); go_simp; try with_reducible rfl)); try simp only [Act.put, zl, z0, z1]
      refine tW ?_ 9 rfl (by kernel_rfl) (fun _ _ _ h => h) (by rfl) (by assumption) ?_ ?_; rotate_left; (focus (intro w hSw; (try dsimp only at hSw); go_simp; try with_reducible rfl)); try simp only [Act.put, zl, z0, z1]
      refine wpAnyH_done (by kernel_rfl) ?_ _
      rotate_left 1
      refine consL 6 rfl (fun K hK => ?_) AllReadyH.nil
      (go_simp; (first | refine capN (fun W q6 hq hQ hB hgr => ?_) | refine capND (fun W q6 hq hQ hB hgr => ?_)); have hSn : (fun w' => Below wb.heap.size wb w') W := (by first | exact hB _ _ hD3 (Below.size hD3) | exact hB _ _ HBT.out.below HBT.out.below.size); (try have HF6 := hide (show (Value.slice Ao k co).ownBlock ≠ some q6 from by rw [← hq]; exact own_fresh HO.out)); have HO := hide (HO.out.kept hgr (Classical.em _)); have HV := hide (HV.out.kept hgr (Classical.em _)); have HRO := hide (HRO.out.grown hgr (fun i hi => by simp)); have HRV := hide (HRV.out.grown hgr (fun i hi => by simp)); (try replace HQ1 := hide ((hgr.block _ (blk_lt HQ1.out) (by simp)).trans HQ1.out)); (try replace HQ2 := hide ((hgr.block _ (blk_lt HQ2.out) (by simp)).trans HQ2.out)); (try replace HQ5 := hide ((hgr.block _ (blk_lt HQ5.out) (by simp)).trans HQ5.out)); (try replace HQ6 := hide ((hgr.block _ (blk_lt HQ6.out) (by simp)).trans HQ6.out)); have HQ6 := hide (show W.heap[q6]? = some (.cells #[rowV q5] 24 (0, 0)) from hQ); rw [hq]; clear hq hQ hB hgr)
      refine hK.out _ _ ?_ (fun hD4 => ?_)
      · (try dsimp only); first | assumption | exact hSn | exact zbD HBT.out.below
      clear hK K hD3; try simp only [Act.put, zl, z0, z1]
      refine wpAnyH_ready (rs := [3]) (by kernel_rfl) (by simp) ?_; refine consL 3 rfl (fun K hK => ?_) AllReadyH.nil
      (refine step_app_row rfl (.tmp 24) (.tmp 26) rfl wb.heap.size (.slice Ao k co) _ k rfl HO.out q2 q1 rfl HQ2.out (by omega) (by have := Below.size hD4; omega) (fun A3 c3 W ho hg hl => ?_); have HV0 := HV; have hSn : (fun w' => Below wb.heap.size wb w') W := Below.trans hD4 (grown_below hg (Below.size hD4) (fun g hgb => (HO.out.lt g hgb).1)); have HV := hide (HV.out.kept hg HAP.out.row); have HRO := hide (HRO.out.grown hg (fun i hi e => own_ne HO.out (HRO.out.row i hi) (by decide) e.symm)); have HRV := hide (HRV.out.grown hg (fun i hi e => own_ne HO.out (HRV.out.row i hi) (by decide) e.symm)); have HAP3 := hide (HAP.out.app HV0.out hl); replace HQ1 := hide ((hg.block _ (blk_lt HQ1.out) (fun e => own_ne HO.out HQ1.out (by decide) e.symm)).trans HQ1.out); (try replace HQ5 := hide ((hg.block _ (blk_lt HQ5.out) (fun e => own_ne HO.out HQ5.out (by decide) e.symm)).trans HQ5.out)); (try replace HQ6 := hide ((hg.block _ (blk_lt HQ6.out) (fun e => HF6.out e.symm)).trans HQ6.out)); have HO := hide ho; clear ho hg hl HQ2)
      refine hK.out _ _ ?_ (fun hD5 => ?_)
      · (try dsimp only); first | assumption | exact hSn | exact zbD HBT.out.below
      clear hK K hD4; try simp only [Act.put, zl, z0, z1]
      refine wpAnyH_ready (rs := [7]) (by kernel_rfl) (by simp) ?_; refine consL 7 rfl (fun K hK => ?_) AllReadyH.nil
      (refine step_app_row rfl (.tmp 28) (.tmp 30) rfl wb.heap.size (.slice Av k cv) _ k rfl HV.out q6 q5 rfl HQ6.out (by omega) (by have := Below.size hD5; omega) (fun A7 c7 W ho hg hl => ?_); have hSn : (fun w' => Below wb.heap.size wb w') W := Below.trans hD5 (grown_below hg (Below.size hD5) (fun g hgb => (HV.out.lt g hgb).1)); have HO7 := HO; have HO := hide (HO.out.kept hg HAP3.out.symm.row); have HRO := hide (HRO.out.grown hg (fun i hi e => own_ne HV.out (HRO.out.row i hi) (by decide) e.symm)); have HRV := hide (HRV.out.grown hg (fun i hi e => own_ne HV.out (HRV.out.row i hi) (by decide) e.symm)); have HAP7 := hide (HAP3.out.symm.app HO7.out hl).symm; replace HQ1 := hide ((hg.block _ (blk_lt HQ1.out) (fun e => own_ne HV.out HQ1.out (by decide) e.symm)).trans HQ1.out); replace HQ5 := hide ((hg.block _ (blk_lt HQ5.out) (fun e => own_ne HV.out HQ5.out (by decide) e.symm)).trans HQ5.out); have HV := hide ho; clear ho hg hl HQ6 HO7)
      refine hK.out _ _ ?_ (fun hD6 => ?_)
      · (try dsimp only); first | assumption | exact hSn | exact zbD HBT.out.below
      clear hK K hD5; try simp only [Act.put, zl, z0, z1]
      refine tW ?_ 8 rfl (by kernel_rfl) (fun _ _ _ h => h) (by rfl) (by assumption) ?_ ?_; rotate_left; (focus (intro w hSw; (try dsimp only at hSw); go_simp; try with_reducible rfl)); try simp only [Act.put, zl, z0, z1]
      refine tW ?_ 9 rfl (by kernel_rfl) (fun _ _ _ h => h) (by rfl) (by assumption) ?_ ?_; rotate_left; (focus (intro w hSw; (try dsimp only at hSw); go_simp; try with_reducible rfl)); try simp only [Act.put, zl, z0, z1]
      refine wpAnyH_done (by kernel_rfl) ?_ _
      rotate_left 1
      refine consL 6 rfl (fun K hK => ?_) AllReadyH.nil
      (go_simp; (first | refine capN (fun W q6 hq hQ hB hgr => ?_) | refine capND (fun W q6 hq hQ hB hgr => ?_)); have hSn : (fun w' => Below wb.heap.size wb w') W := (by first | exact hB _ _ hD2 (Below.size hD2) | exact hB _ _ HBT.out.below HBT.out.below.size); (try have HF6 := hide (show (Value.slice Ao k co).ownBlock ≠ some q6 from by rw [← hq]; exact own_fresh HO.out)); have HO := hide (HO.out.kept hgr (Classical.em _)); have HV := hide (HV.out.kept hgr (Classical.em _)); have HRO := hide (HRO.out.grown hgr (fun i hi => by simp)); have HRV := hide (HRV.out.grown hgr (fun i hi => by simp)); (try replace HQ1 := hide ((hgr.block _ (blk_lt HQ1.out) (by simp)).trans HQ1.out)); (try replace HQ2 := hide ((hgr.block _ (blk_lt HQ2.out) (by simp)).trans HQ2.out)); (try replace HQ5 := hide ((hgr.block _ (blk_lt HQ5.out) (by simp)).trans HQ5.out)); (try replace HQ6 := hide ((hgr.block _ (blk_lt HQ6.out) (by simp)).trans HQ6.out)); have HQ6 := hide (show W.heap[q6]? = some (.cells #[rowV q5] 24 (0, 0)) from hQ); rw [hq]; clear hq hQ hB hgr)
      refine hK.out _ _ ?_ (fun hD3 => ?_)
      · (try dsimp only); first | assumption | exact hSn | exact zbD HBT.out.below
      clear hK K hD2; try simp only [Act.put, zl, z0, z1]
      refine wpAnyH_ready (rs := [2]) (by kernel_rfl) (by simp) ?_; refine consL 2 rfl (fun K hK => ?_) AllReadyH.nil
      (go_simp; (first | refine capN (fun W q2 hq hQ hB hgr => ?_) | refine capND (fun W q2 hq hQ hB hgr => ?_)); have hSn : (fun w' => Below wb.heap.size wb w') W := (by first | exact hB _ _ hD3 (Below.size hD3) | exact hB _ _ HBT.out.below HBT.out.below.size); have HO := hide (HO.out.kept hgr (Classical.em _)); have HV := hide (HV.out.kept hgr (Classical.em _)); have HRO := hide (HRO.out.grown hgr (fun i hi => by simp)); have HRV := hide (HRV.out.grown hgr (fun i hi => by simp)); (try replace HQ1 := hide ((hgr.block _ (blk_lt HQ1.out) (by simp)).trans HQ1.out)); (try replace HQ2 := hide ((hgr.block _ (blk_lt HQ2.out) (by simp)).trans HQ2.out)); (try replace HQ5 := hide ((hgr.block _ (blk_lt HQ5.out) (by simp)).trans HQ5.out)); (try replace HQ6 := hide ((hgr.block _ (blk_lt HQ6.out) (by simp)).trans HQ6.out)); have HQ2 := hide (show W.heap[q2]? = some (.cells #[rowV q1] 24 (0, 0)) from hQ); rw [hq]; clear hq hQ hB hgr)
      refine hK.out _ _ ?_ (fun hD4 => ?_)
      · (try dsimp only); first | assumption | exact hSn | exact zbD HBT.out.below
      clear hK K hD3; try simp only [Act.put, zl, z0, z1]
      refine wpAnyH_ready (rs := [3]) (by kernel_rfl) (by simp) ?_; refine consL 3 rfl (fun K hK => ?_) AllReadyH.nil
      (refine step_app_row rfl (.tmp 24) (.tmp 26) rfl wb.heap.size (.slice Ao k co) _ k rfl HO.out q2 q1 rfl HQ2.out (by omega) (by have := Below.size hD4; omega) (fun A3 c3 W ho hg hl => ?_); have HV0 := HV; have hSn : (fun w' => Below wb.heap.size wb w') W := Below.trans hD4 (grown_below hg (Below.size hD4) (fun g hgb => (HO.out.lt g hgb).1)); have HV := hide (HV.out.kept hg HAP.out.row); have HRO := hide (HRO.out.grown hg (fun i hi e => own_ne HO.out (HRO.out.row i hi) (by decide) e.symm)); have HRV := hide (HRV.out.grown hg (fun i hi e => own_ne HO.out (HRV.out.row i hi) (by decide) e.symm)); have HAP3 := hide (HAP.out.app HV0.out hl); replace HQ1 := hide ((hg.block _ (blk_lt HQ1.out) (fun e => own_ne HO.out HQ1.out (by decide) e.symm)).trans HQ1.out); (try replace HQ5 := hide ((hg.block _ (blk_lt HQ5.out) (fun e => own_ne HO.out HQ5.out (by decide) e.symm)).trans HQ5.out)); (try replace HQ6 := hide ((hg.block _ (blk_lt HQ6.out) (fun e => HF6.out e.symm)).trans HQ6.out)); have HO := hide ho; clear ho hg hl HQ2)
      refine hK.out _ _ ?_ (fun hD5 => ?_)
      · (try dsimp only); first | assumption | exact hSn | exact zbD HBT.out.below
      clear hK K hD4; try simp only [Act.put, zl, z0, z1]
      refine wpAnyH_ready (rs := [7]) (by kernel_rfl) (by simp) ?_; refine consL 7 rfl (fun K hK => ?_) AllReadyH.nil
      (refine step_app_row rfl (.tmp 28) (.tmp 30) rfl wb.heap.size (.slice Av k cv) _ k rfl HV.out q6 q5 rfl HQ6.out (by omega) (by have := Below.size hD5; omega) (fun A7 c7 W ho hg hl => ?_); have hSn : (fun w' => Below wb.heap.size wb w') W := Below.trans hD5 (grown_below hg (Below.size hD5) (fun g hgb => (HV.out.lt g hgb).1)); have HO7 := HO; have HO := hide (HO.out.kept hg HAP3.out.symm.row); have HRO := hide (HRO.out.grown hg (fun i hi e => own_ne HV.out (HRO.out.row i hi) (by decide) e.symm)); have HRV := hide (HRV.out.grown hg (fun i hi e => own_ne HV.out (HRV.out.row i hi) (by decide) e.symm)); have HAP7 := hide (HAP3.out.symm.app HO7.out hl).symm; replace HQ1 := hide ((hg.block _ (blk_lt HQ1.out) (fun e => own_ne HV.out HQ1.out (by decide) e.symm)).trans HQ1.out); replace HQ5 := hide ((hg.block _ (blk_lt HQ5.out) (fun e => own_ne HV.out HQ5.out (by decide) e.symm)).trans HQ5.out); have HV := hide ho; clear ho hg hl HQ6 HO7)
      refine hK.out _ _ ?_ (fun hD6 => ?_)
      · (try dsimp only); first | assumption | exact hSn | exact zbD HBT.out.below
      clear hK K hD5; try simp only [Act.put, zl, z0, z1]
      refine tW ?_ 8 rfl (by kernel_rfl) (fun _ _ _ h => h) (by rfl) (by assumption) ?_ ?_; rotate_left; (focus (intro w hSw; (try dsimp only at hSw); go_simp; try with_reducible rfl)); try simp only [Act.put, zl, z0, z1]
      refine tW ?_ 9 rfl (by kernel_rfl) (fun _ _ _ h => h) (by rfl) (by assumption) ?_ ?_; rotate_left; (focus (intro w hSw; (try dsimp only at hSw); go_simp; try with_reducible rfl)); try simp only [Act.put, zl, z0, z1]
      refine wpAnyH_done (by kernel_rfl) ?_ _
      rotate_left 1
      refine consL 6 rfl (fun K hK => ?_) AllReadyH.nil
      (go_simp; (first | refine capN (fun W q6 hq hQ hB hgr => ?_) | refine capND (fun W q6 hq hQ hB hgr => ?_)); have hSn : (fun w' => Below wb.heap.size wb w') W := (by first | exact hB _ _ hD1 (Below.size hD1) | exact hB _ _ HBT.out.below HBT.out.below.size); (try have HF6 := hide (show (Value.slice Ao k co).ownBlock ≠ some q6 from by rw [← hq]; exact own_fresh HO.out)); have HO := hide (HO.out.kept hgr (Classical.em _)); have HV := hide (HV.out.kept hgr (Classical.em _)); have HRO := hide (HRO.out.grown hgr (fun i hi => by simp)); have HRV := hide (HRV.out.grown hgr (fun i hi => by simp)); (try replace HQ1 := hide ((hgr.block _ (blk_lt HQ1.out) (by simp)).trans HQ1.out)); (try replace HQ2 := hide ((hgr.block _ (blk_lt HQ2.out) (by simp)).trans HQ2.out)); (try replace HQ5 := hide ((hgr.block _ (blk_lt HQ5.out) (by simp)).trans HQ5.out)); (try replace HQ6 := hide ((hgr.block _ (blk_lt HQ6.out) (by simp)).trans HQ6.out)); have HQ6 := hide (show W.heap[q6]? = some (.cells #[rowV q5] 24 (0, 0)) from hQ); rw [hq]; clear hq hQ hB hgr)
      refine hK.out _ _ ?_ (fun hD2 => ?_)
      · (try dsimp only); first | assumption | exact hSn | exact zbD HBT.out.below
      clear hK K hD1; try simp only [Act.put, zl, z0, z1]
      refine wpAnyH_ready (rs := [1]) (by kernel_rfl) (by simp) ?_; refine consL 1 rfl (fun K hK => ?_) AllReadyH.nil
      (go_simp; (first | refine capN (fun W q1 hq hQ hB hgr => ?_) | refine capND (fun W q1 hq hQ hB hgr => ?_)); have hSn : (fun w' => Below wb.heap.size wb w') W := (by first | exact hB _ _ hD2 (Below.size hD2) | exact hB _ _ HBT.out.below HBT.out.below.size); have HBQ1 := hide (fun i (hi : i < k) => (show bo i ≠ q1 from by have := HRO.out.bl hi; omega)); have HW1 := hide (fun i (hi : i < k) => (show bv i ≠ q1 from by have := HRV.out.bl hi; omega)); have HL1 := hide (show wb.heap.size ≤ q1 from by first | (have := Below.size hD2; omega) | (have := HBT.out.below.size; omega)); (try have HD15 := hide (show q5 ≠ q1 from by have := blk_lt HQ5.out; omega)); have HO := hide (HO.out.kept hgr (Classical.em _)); have HV := hide (HV.out.kept hgr (Classical.em _)); have HRO := hide (HRO.out.grown hgr (fun i hi => by simp)); have HRV := hide (HRV.out.grown hgr (fun i hi => by simp)); (try replace HQ1 := hide ((hgr.block _ (blk_lt HQ1.out) (by simp)).trans HQ1.out)); (try replace HQ2 := hide ((hgr.block _ (blk_lt HQ2.out) (by simp)).trans HQ2.out)); (try replace HQ5 := hide ((hgr.block _ (blk_lt HQ5.out) (by simp)).trans HQ5.out)); (try replace HQ6 := hide ((hgr.block _ (blk_lt HQ6.out) (by simp)).trans HQ6.out)); have HQ1 := hide (show W.heap[q1]? = some (.cells (rowC (fun _ => 0)) 3 (0, 0)) from hQ.trans (by kernel_rfl)); rw [hq]; clear hq hQ hB hgr)
      refine hK.out _ _ ?_ (fun hD3 => ?_)
      · (try dsimp only); first | assumption | exact hSn | exact zbD HBT.out.below
      clear hK K hD2; try simp only [Act.put, zl, z0, z1]
      refine wpAnyH_ready (rs := [2]) (by kernel_rfl) (by simp) ?_; refine consL 2 rfl (fun K hK => ?_) AllReadyH.nil
      (go_simp; (first | refine capN (fun W q2 hq hQ hB hgr => ?_) | refine capND (fun W q2 hq hQ hB hgr => ?_)); have hSn : (fun w' => Below wb.heap.size wb w') W := (by first | exact hB _ _ hD3 (Below.size hD3) | exact hB _ _ HBT.out.below HBT.out.below.size); have HO := hide (HO.out.kept hgr (Classical.em _)); have HV := hide (HV.out.kept hgr (Classical.em _)); have HRO := hide (HRO.out.grown hgr (fun i hi => by simp)); have HRV := hide (HRV.out.grown hgr (fun i hi => by simp)); (try replace HQ1 := hide ((hgr.block _ (blk_lt HQ1.out) (by simp)).trans HQ1.out)); (try replace HQ2 := hide ((hgr.block _ (blk_lt HQ2.out) (by simp)).trans HQ2.out)); (try replace HQ5 := hide ((hgr.block _ (blk_lt HQ5.out) (by simp)).trans HQ5.out)); (try replace HQ6 := hide ((hgr.block _ (blk_lt HQ6.out) (by simp)).trans HQ6.out)); have HQ2 := hide (show W.heap[q2]? = some (.cells #[rowV q1] 24 (0, 0)) from hQ); rw [hq]; clear hq hQ hB hgr)
      refine hK.out _ _ ?_ (fun hD4 => ?_)
      · (try dsimp only); first | assumption | exact hSn | exact zbD HBT.out.below
      clear hK K hD3; try simp only [Act.put, zl, z0, z1]
      refine wpAnyH_ready (rs := [3]) (by kernel_rfl) (by simp) ?_; refine consL 3 rfl (fun K hK => ?_) AllReadyH.nil
      (refine step_app_row rfl (.tmp 24) (.tmp 26) rfl wb.heap.size (.slice Ao k co) _ k rfl HO.out q2 q1 rfl HQ2.out (by omega) (by have := Below.size hD4; omega) (fun A3 c3 W ho hg hl => ?_); have HV0 := HV; have hSn : (fun w' => Below wb.heap.size wb w') W := Below.trans hD4 (grown_below hg (Below.size hD4) (fun g hgb => (HO.out.lt g hgb).1)); have HV := hide (HV.out.kept hg HAP.out.row); have HRO := hide (HRO.out.grown hg (fun i hi e => own_ne HO.out (HRO.out.row i hi) (by decide) e.symm)); have HRV := hide (HRV.out.grown hg (fun i hi e => own_ne HO.out (HRV.out.row i hi) (by decide) e.symm)); have HAP3 := hide (HAP.out.app HV0.out hl); replace HQ1 := hide ((hg.block _ (blk_lt HQ1.out) (fun e => own_ne HO.out HQ1.out (by decide) e.symm)).trans HQ1.out); (try replace HQ5 := hide ((hg.block _ (blk_lt HQ5.out) (fun e => own_ne HO.out HQ5.out (by decide) e.symm)).trans HQ5.out)); (try replace HQ6 := hide ((hg.block _ (blk_lt HQ6.out) (fun e => HF6.out e.symm)).trans HQ6.out)); have HO := hide ho; clear ho hg hl HQ2)
      refine hK.out _ _ ?_ (fun hD5 => ?_)
      · (try dsimp only); first | assumption | exact hSn | exact zbD HBT.out.below
      clear hK K hD4; try simp only [Act.put, zl, z0, z1]
      refine wpAnyH_ready (rs := [7]) (by kernel_rfl) (by simp) ?_; refine consL 7 rfl (fun K hK => ?_) AllReadyH.nil
      (refine step_app_row rfl (.tmp 28) (.tmp 30) rfl wb.heap.size (.slice Av k cv) _ k rfl HV.out q6 q5 rfl HQ6.out (by omega) (by have := Below.size hD5; omega) (fun A7 c7 W ho hg hl => ?_); have hSn : (fun w' => Below wb.heap.size wb w') W := Below.trans hD5 (grown_below hg (Below.size hD5) (fun g hgb => (HV.out.lt g hgb).1)); have HO7 := HO; have HO := hide (HO.out.kept hg HAP3.out.symm.row); have HRO := hide (HRO.out.grown hg (fun i hi e => own_ne HV.out (HRO.out.row i hi) (by decide) e.symm)); have HRV := hide (HRV.out.grown hg (fun i hi e => own_ne HV.out (HRV.out.row i hi) (by decide) e.symm)); have HAP7 := hide (HAP3.out.symm.app HO7.out hl).symm; replace HQ1 := hide ((hg.block _ (blk_lt HQ1.out) (fun e => own_ne HV.out HQ1.out (by decide) e.symm)).trans HQ1.out); replace HQ5 := hide ((hg.block _ (blk_lt HQ5.out) (fun e => own_ne HV.out HQ5.out (by decide) e.symm)).trans HQ5.out); have HV := hide ho; clear ho hg hl HQ6 HO7)
      refine hK.out _ _ ?_ (fun hD6 => ?_)
      · (try dsimp only); first | assumption | exact hSn | exact zbD HBT.out.below
      clear hK K hD5; try simp only [Act.put, zl, z0, z1]
      refine tW ?_ 8 rfl (by kernel_rfl) (fun _ _ _ h => h) (by rfl) (by assumption) ?_ ?_; rotate_left; (focus (intro w hSw; (try dsimp only at hSw); go_simp; try with_reducible rfl)); try simp only [Act.put, zl, z0, z1]
      refine tW ?_ 9 rfl (by kernel_rfl) (fun _ _ _ h => h) (by rfl) (by assumption) ?_ ?_; rotate_left; (focus (intro w hSw; (try dsimp only at hSw); go_simp; try with_reducible rfl)); try simp only [Act.put, zl, z0, z1]
      refine wpAnyH_done (by kernel_rfl) ?_ _
      all_goals
        (try dsimp only [Act.put, List.getElem_toArray, List.getElem_cons_succ, List.getElem_cons_zero])
        (try simp only [zl, z0, z1])
        have HBT2 := hide (BT.push (by assumption) HO.out HV.out HRO.out HRV.out HQ1.out HQ5.out HL1.out HL5.out HBQ1.out HW1.out HB5.out HW5.out (by first | exact HD15.out | exact HD15.out.symm) HBT.out.d1 HAP7.out)
        go_wp2_with fail
        go_roundw
        case rel => exact ⟨k + 1, _, _, _, _, _, _, by omega, rfl, rfl, by go_num, HBT2⟩
        case measure => simp [intOf]; omega
    · have HK5 := hide (show k = 45 by omega)
      have HBT5 := hide (show BT wb wr 45 Ao co Av cv bo bv by have h1 := HBT.out; rw [HK5.out] at h1; exact h1)
      have hkp : (0 : Int) < (k : Int) := by omega
      have hkg : ¬ (k : Int) ≤ 44 := by omega
      clear HBT hk hk0 hk45
      obtain ⟨go, hgo, tabo⟩ := own_tab HBT5.out.oo (by omega) HBT5.out.ro
      obtain ⟨gv, hgv, tabv⟩ := own_tab HBT5.out.ov (by omega) HBT5.out.rv
      subst hgo hgv
      have HOW := hide (show OW wb wr go gv bo bv (fun _ _ => 0) (fun _ _ => 0) from ⟨HBT5.out.below, tabo, tabv, HBT5.out.d1, fun j hj e => by
        have := own_ne HBT5.out.oo (HBT5.out.rv.row j hj) (by decide)
        exact this (by rw [e]; rfl), fun i hi e => by
        have := own_ne HBT5.out.ov (HBT5.out.ro.row i hi) (by decide)
        exact this (by rw [e]; rfl)⟩)
      clear tabo tabv
      have hc0 : wr.cell? ⟨go, 0, none⟩ = some (.slice (some ⟨bo 0, 0, none⟩) 45 45) := HOW.out.o.cell 0 (by omega)
      have hc1 : wr.cell? ⟨bo 0, 0, none⟩ = some (.int .i64 0) := HOW.out.o.rows.at_ (by omega) (by omega)
      have hc2 := blk_frozen (HOW.out.o.rows.row 0 (by omega)) 0
      have hc3 := HOW.out.o.gl
      have hc4 := HOW.out.o.rows.bl (show 0 < 45 by omega)
      go_upto_region 7 with fail
      clear hc0 hc1 hc2 hc3 hc4
      obtain ⟨w6, hw6⟩ : ∃ q, wr.setCell ⟨bo 0, 0, none⟩ (.int .i64 1) = q := ⟨_, rfl⟩
      have HOW6 := hide (show OW wb w6 go gv bo bv M.T0 (fun _ _ => 0) from by
        have h1 := HOW.out.setO (show 0 < 45 by omega) 0 1
        rw [hw6] at h1
        have e : M.upd (fun _ _ => 0) 0 0 1 = M.T0 := by funext i j; rfl
        rw [e] at h1
        exact h1)
      rw [hw6]
      clear hw6 HOW HBT5 hkg
      go_wp2_with fail
      go_loopw [9, 10, 11, 12, 13] (fun v9 v10 v11 v12 v13 wr => ∃ (sm : Nat) (T O : Nat → Nat → Int), sm ≤ 88 ∧ v9 = .int .i64 sm ∧ Hid (OW wb wr go gv bo bv T O) ∧ Hid (M.Ord s sm ((sm - 44 : Nat) : Int) 0 T O)) (fun v9 _ _ _ _ _ => 88 - (intOf v9).toNat)
      case atStart => exact ⟨0, M.T0, fun _ _ => 0, by omega, rfl, HOW6, hide (M.ord_start s)⟩
      case round =>
        clear HOW6
        obtain ⟨sm, T, O, hsm, rfl, HOW, HORD⟩ := hrel
        have hs0 : (0 : Int) ≤ (sm : Int) := by omega
        by_cases hsl : sm < 88
        · have hs1 : (sm : Int) < 88 := by omega
          have hw1 : IntKind.i64.wrap ((sm : Int) - 44) = (sm : Int) - 44 := IntWalk.i64_in _ (by omega)
          obtain ⟨a0, ha0⟩ : ∃ q : Nat, sm - 44 = q := ⟨_, rfl⟩
          rw [ha0] at HORD
          have hmx : (if (0 : Int) < (sm : Int) - 44 then (sm : Int) - 44 else 0) = (a0 : Int) := by split <;> omega
          have hmx3 : (if (44 : Int) < (sm : Int) then (sm : Int) - 44 else 0) = (a0 : Int) := by split <;> omega
          have hmx2 : max (0 : Int) ((sm : Int) - 44) = (a0 : Int) := by omega
          obtain ⟨mn, hmn⟩ : ∃ q : Nat, min sm 44 = q := ⟨_, rfl⟩
          go_wp2_with fail
          clear hw1 hmx hmx2 hmx3
          go_loopw [10, 11, 12, 13] (fun v10 v11 v12 v13 wr => ∃ (a : Nat) (T O : Nat → Nat → Int), a0 ≤ a ∧ a ≤ mn + 1 ∧ v10 = .int .i64 a ∧ Hid (OW wb wr go gv bo bv T O) ∧ Hid (M.Ord s sm a 0 T O)) (fun v10 _ _ _ _ => mn + 1 - (intOf v10).toNat)
          case atStart => exact ⟨a0, T, O, by omega, by omega, rfl, HOW, HORD⟩
          case round =>
            clear HOW HORD
            obtain ⟨a, T, O, hal, hah, rfl, HOW, HORD⟩ := hrel
            have hq0 : (0 : Int) ≤ (a : Int) := by omega
            have hmi : (if (44 : Int) < (sm : Int) then (44 : Int) else (sm : Int)) = (mn : Int) := by split <;> omega
            have hmi2 : min (sm : Int) 44 = (mn : Int) := by omega
            by_cases ham : a ≤ mn
            · have ham' : (a : Int) ≤ (mn : Int) := by omega
              obtain ⟨b, hb⟩ : ∃ q : Nat, sm - a = q := ⟨_, rfl⟩
              have hbe : (sm : Int) - (a : Int) = (b : Int) := by omega
              have hbw : IntKind.i64.wrap (b : Int) = (b : Int) := IntWalk.i64_in _ (by omega)
              have ha44 : a ≤ 44 := by omega
              have hb44 : b ≤ 44 := by omega
              have hab : (a : Int) + (b : Int) = (sm : Int) := by omega
              go_wp2_with fail
              clear hmi hmi2 hbw
              go_loopw [12, 13] (fun v12 v13 wr => ∃ (sd : Nat) (T O : Nat → Nat → Int), sd ≤ 2 ∧ v12 = .int .i64 sd ∧ Hid (OW wb wr go gv bo bv T O) ∧ Hid (M.Ord s sm a sd T O)) (fun v12 _ _ => 2 - (intOf v12).toNat)
              case atStart => exact ⟨0, T, O, by omega, rfl, HOW, HORD⟩
              case round =>
                clear HOW HORD
                obtain ⟨sd, T, O, hsd, rfl, HOW, HORD⟩ := hrel
                have hd0 : (0 : Int) ≤ (sd : Int) := by omega
                have hb0 : (0 : Int) ≤ (b : Int) := by omega
                have ha45 : (a : Int) < (k : Int) := by have := HK5.out; omega
                have hb45 : (b : Int) < 45 := by omega
                by_cases hsd2 : sd < 2
                · have hsd' : (sd : Int) < 2 := by omega
                  have t0 : wr.cell? ⟨go, a, none⟩ = some (.slice (some ⟨bo a, 0, none⟩) 45 45) := HOW.out.o.cell a (by omega)
                  have t1 : wr.cell? ⟨bo a, b, none⟩ = some (.int .i64 (T a b)) := HOW.out.o.rows.at_ (by omega) (by omega)
                  have t2 := HOW.out.o.gl
                  have t3 := HOW.out.o.rows.bl (show a < 45 by omega)
                  by_cases hp : 0 < T a b
                  · go_upto_region 17 with fail
                    clear t0 t1 t2 t3
                    have HOP := hide ((HORD.out.now ha44 hb44 (by omega)).1 hp)
                    have HP := hide hp
                    clear hp
                    obtain ⟨x, hx⟩ : ∃ q, M.gx a sd = q := ⟨_, rfl⟩
                    obtain ⟨y, hy⟩ : ∃ q, M.gy b sd = q := ⟨_, rfl⟩
                    have HXY := hide (And.intro hx hy)
                    have HPL := hide (plus_gxy a b sd hsd2)
                    rw [hx, hy] at HPL
                    have hxb : x ≤ 45 := by rw [← hx]; unfold M.gx; split <;> omega
                    have hyb : y ≤ 45 := by rw [← hy]; unfold M.gy; split <;> omega
                    clear hx hy
                    go_upto_region 18 with (go_at_call 52; refine (refPlus_any ⟨(a : Int), (b : Int)⟩ (sd : Int) wr (small_nat (by omega) (by omega))).mono ?_; rintro e w1 ⟨rfl, hb1⟩; rw [HPL.out]; have HB2 := hide hb1; clear hb1)
                    obtain ⟨qp, hqp⟩ : ∃ q, w1.heap.size = q := ⟨_, rfl⟩
                    obtain ⟨w2, hw2⟩ : ∃ q, w1.alloc (.cells #[.int .i64 (x : Int), .int .i64 (y : Int)] 32) = q := ⟨_, rfl⟩
                    have HB3 := hide (show Below w1.heap.size w1 w2 by rw [← hw2]; exact zbA (zbR _ _) (Nat.le_refl _) _)
                    have HP2 := hide (show w2.heap[qp]? = some (.cells #[.int .i64 (x : Int), .int .i64 (y : Int)] 32 (0, 0)) by rw [← hw2, ← hqp]; exact heap_alloc_new _ _)
                    rw [hw2, hqp]
                    clear hw2 hqp
                    have HOW2 := hide ((HOW.out.kept HB2.out).kept HB3.out)
                    have p0 : w2.cell? ⟨qp, 0, none⟩ = some (.int .i64 (x : Int)) := (blk_cell HP2.out 0).trans rfl
                    have p1 : w2.cell? ⟨qp, 1, none⟩ = some (.int .i64 (y : Int)) := (blk_cell HP2.out 1).trans rfl
                    have lp := blk_lt HP2.out
                    by_cases hbx : 44 < x
                    · have hbx' : (44 : Int) < (x : Int) := by omega
                      have HN := hide (HORD.out.beyond hab hsd2 (.inl (by rw [HXY.out.1]; exact hbx)))
                      go_wp2_with fail
                      go_roundw
                      case rel => exact ⟨sd + 1, T, O, by omega, by go_num, HOW2, hide (by push_cast; exact HN.out)⟩
                      case measure => simp [intOf]; omega
                    · have hbx' : (x : Int) ≤ 44 := by omega
                      by_cases hby : 44 < y
                      · have hby' : (44 : Int) < (y : Int) := by omega
                        have HN := hide (HORD.out.beyond hab hsd2 (.inr (by rw [HXY.out.2]; exact hby)))
                        go_wp2_with fail
                        go_roundw
                        case rel => exact ⟨sd + 1, T, O, by omega, by go_num, HOW2, hide (by push_cast; exact HN.out)⟩
                        case measure => simp [intOf]; omega
                      · have hby' : (y : Int) ≤ 44 := by omega
                        go_upto_region 19 with fail
                        clear p0 p1 lp
                        obtain ⟨eb, heb⟩ : ∃ q, decide (M.Ends s a b sd) = q := ⟨_, rfl⟩
                        have HEB := hide heb
                        clear heb
                        go_cut [97] from 52 to 149 (fun v97 wx => v97 = .bool eb ∧ Hid (Below w2.heap.size w2 wx))
                        case first =>
                          have HF2 := hide ((HB3.out.block _ (Nat.lt_of_lt_of_le (blk_lt HF1.out) (Nat.le_trans HOW.out.below.size HB2.out.size))).trans ((HB2.out.block _ (Nat.lt_of_lt_of_le (blk_lt HF1.out) HOW.out.below.size)).trans ((HOW.out.below.block _ (blk_lt HF1.out)).trans HF1.out)))
                          have f1 : w2.cell? ⟨w.heap.size, 1, none⟩ = some (.int .i64 f.games) := (blk_cell HF2.out 1).trans rfl
                          have lf := blk_lt HF2.out
                          have p0 : w2.cell? ⟨qp, 0, none⟩ = some (.int .i64 (x : Int)) := (blk_cell HP2.out 0).trans rfl
                          have p1 : w2.cell? ⟨qp, 1, none⟩ = some (.int .i64 (y : Int)) := (blk_cell HP2.out 1).trans rfl
                          have lp := blk_lt HP2.out
                          by_cases ct : (a : Int) = ti ∧ (b : Int) = ti
                          · obtain ⟨ct1, ct2⟩ := ct
                            have g1 : ((a : Int) == ti) = true := beq_iff_eq.2 ct1
                            have g2 : ((b : Int) == ti) = true := beq_iff_eq.2 ct2
                            have g3 : (0 : Int) ≤ ti := by omega
                            have he : eb = true := HEB.out.symm.trans (decide_eq_true (.inl ⟨by rw [HTS.out]; exact ct1, by rw [HTS.out]; exact ct2⟩))
                            subst he
                            clear ct1 ct2
                            go_wp2_with fail
                            go_meet
                            case rel => exact ⟨rfl, hide (zbR _ _)⟩
                          · have HLE := hide (leads_ends HV_.out HOP.out hsd2 (by rw [HTS.out]; exact ct))
                            rw [HXY.out.1, HXY.out.2] at HLE
                            obtain ⟨ld, hld⟩ : ∃ q, M.leads ⟨(x : Int), (y : Int)⟩ f.games = q := ⟨_, rfl⟩
                            have HLD := hide hld
                            have hle : decide (0 ≤ ld) = eb := by rw [← hld, HG.out, ← HEB.out]; exact decide_eq_decide.2 HLE.out
                            clear hld
                            have HCL := fun (W : World) => hide (refLeads_any ⟨(x : Int), (y : Int)⟩ f.games W (small_nat (by omega) (by omega)))
                            rw [HLD.out] at HCL
                            have hcases : ((0 : Int) ≤ ti ∧ ((a : Int) == ti) = true ∧ ((b : Int) == ti) = false) ∨ ((0 : Int) ≤ ti ∧ ((a : Int) == ti) = false) ∨ ti < 0 := by
                              by_cases q1 : (0 : Int) ≤ ti
                              · cases q2 : ((a : Int) == ti)
                                · exact .inr (.inl ⟨q1, rfl⟩)
                                · refine .inl ⟨q1, rfl, ?_⟩
                                  rw [beq_eq_false_iff_ne]
                                  exact fun q3 => ct ⟨beq_iff_eq.1 q2, q3⟩
                              · exact .inr (.inr (by omega))
                            clear ct
                            cases eb
                            · have hle2 : ld < 0 := by have := of_decide_eq_false hle; omega
                              clear hle
                              rcases hcases with ⟨g1, g2, g3⟩ | ⟨g1, g2⟩ | g1
                              all_goals
                                go_wp2_with (go_at_call 51; refine (HCL _).out.mono ?_; rintro e w3 ⟨rfl, hb3⟩; have HB4 := hide hb3; clear hb3)
                                go_meet
                                case rel => exact ⟨by first | rfl | (congr 1; exact decide_eq_false (by omega)), HB4⟩
                            · have hle2 : 0 ≤ ld := of_decide_eq_true hle
                              clear hle
                              rcases hcases with ⟨g1, g2, g3⟩ | ⟨g1, g2⟩ | g1
                              all_goals
                                go_wp2_with (go_at_call 51; refine (HCL _).out.mono ?_; rintro e w3 ⟨rfl, hb3⟩; have HB4 := hide hb3; clear hb3)
                                go_meet
                                case rel => exact ⟨by first | rfl | (congr 1; exact decide_eq_false (by omega)), HB4⟩
                        case rest =>
                          obtain ⟨rfl, HB4⟩ := hcut
                          rename World => w4
                          have HOW4 := hide (HOW2.out.kept HB4.out)
                          have HP4 := hide ((HB4.out.block _ (blk_lt HP2.out)).trans HP2.out)
                          have hx0 : (0 : Int) ≤ (x : Int) := by omega
                          have hy0 : (0 : Int) ≤ (y : Int) := by omega
                          have hx45 : (x : Int) < (k : Int) := by have := HK5.out; omega
                          have hax45 : (a : Int) < (k : Int) := by have := HK5.out; omega
                          have hy45 : (y : Int) < 45 := by omega
                          have HTB := hide (HORD.out.tb a b)
                          cases eb
                          · have HN := hide (HORD.out.open_ hab ha44 hb44 hsd2 HP.out (of_decide_eq_false HEB.out))
                            rw [HXY.out.1, HXY.out.2] at HN
                            have HUB := hide (HORD.out.tb x y)
                            obtain ⟨cw, hcw⟩ : ∃ q, M.capW (T x y + T a b) = q := ⟨_, rfl⟩
                            rw [hcw] at HN
                            have HTS2 : (T x y + T a b) = (T x y + T a b) := rfl
                            have hwr : IntKind.i64.wrap (T x y + T a b) = T x y + T a b := IntWalk.i64_in _ (by have h1 := HUB.out; have h2 := HTB.out; omega)
                            have hmn : (if T x y + T a b < 1000000000001 then T x y + T a b else 1000000000001) = cw := by rw [← hcw]; unfold M.capW; split <;> omega
                            have hmn2 : min 1000000000001 (T x y + T a b) = cw := by rw [← hcw]; rfl
                            clear HTS2 hcw
                            go_upto_region 21 with fail
                            have hSof : ∀ w', Below w4.heap.size w4 w' → (fun w' => Below w4.heap.size w4 w' ∧ w'.cell? ⟨qp, 0, none⟩ = some (.int .i64 (x : Int)) ∧ w'.cell? ⟨qp, 1, none⟩ = some (.int .i64 (y : Int)) ∧ w'.cell? ⟨go, x, none⟩ = some (.slice (some ⟨bo x, 0, none⟩) 45 45) ∧ w'.cell? ⟨bo x, y, none⟩ = some (.int .i64 (T x y)) ∧ w'.frozen? ⟨bo x, y, none⟩ = false ∧ w'.cell? ⟨go, a, none⟩ = some (.slice (some ⟨bo a, 0, none⟩) 45 45) ∧ w'.cell? ⟨bo a, b, none⟩ = some (.int .i64 (T a b)) ∧ qp < w'.heap.size ∧ go < w'.heap.size ∧ bo x < w'.heap.size ∧ go < w'.heap.size ∧ bo a < w'.heap.size) w' := fun w' hb => by
                              have h1 := HOW4.out.kept hb
                              have hP := (hb.block _ (blk_lt HP4.out)).trans HP4.out
                              exact ⟨hb, (blk_cell hP 0).trans rfl, (blk_cell hP 1).trans rfl, h1.o.cell x (by omega), h1.o.rows.at_ (by omega) (by omega), blk_frozen (h1.o.rows.row x (by omega)) y, h1.o.cell a (by omega), h1.o.rows.at_ (by omega) (by omega), blk_lt hP, h1.o.gl, h1.o.rows.bl (by omega), h1.o.gl, h1.o.rows.bl (by omega)⟩
                            have hS : (fun w' => Below w4.heap.size w4 w' ∧ w'.cell? ⟨qp, 0, none⟩ = some (.int .i64 (x : Int)) ∧ w'.cell? ⟨qp, 1, none⟩ = some (.int .i64 (y : Int)) ∧ w'.cell? ⟨go, x, none⟩ = some (.slice (some ⟨bo x, 0, none⟩) 45 45) ∧ w'.cell? ⟨bo x, y, none⟩ = some (.int .i64 (T x y)) ∧ w'.frozen? ⟨bo x, y, none⟩ = false ∧ w'.cell? ⟨go, a, none⟩ = some (.slice (some ⟨bo a, 0, none⟩) 45 45) ∧ w'.cell? ⟨bo a, b, none⟩ = some (.int .i64 (T a b)) ∧ qp < w'.heap.size ∧ go < w'.heap.size ∧ bo x < w'.heap.size ∧ go < w'.heap.size ∧ bo a < w'.heap.size) w4 := hSof _ (zbR _ _)
                            (try dsimp only at hS)
                            refine wp_region_T_drew (S := (fun w' => Below w4.heap.size w4 w' ∧ w'.cell? ⟨qp, 0, none⟩ = some (.int .i64 (x : Int)) ∧ w'.cell? ⟨qp, 1, none⟩ = some (.int .i64 (y : Int)) ∧ w'.cell? ⟨go, x, none⟩ = some (.slice (some ⟨bo x, 0, none⟩) 45 45) ∧ w'.cell? ⟨bo x, y, none⟩ = some (.int .i64 (T x y)) ∧ w'.frozen? ⟨bo x, y, none⟩ = false ∧ w'.cell? ⟨go, a, none⟩ = some (.slice (some ⟨bo a, 0, none⟩) 45 45) ∧ w'.cell? ⟨bo a, b, none⟩ = some (.int .i64 (T a b)) ∧ qp < w'.heap.size ∧ go < w'.heap.size ∧ bo x < w'.heap.size ∧ go < w'.heap.size ∧ bo a < w'.heap.size)) 26 (by kernel_rfl) ?_ (fun hD0 => ?_)
                            · (try dsimp only); first | assumption | exact hSof _ (zbD (zbR _ _))
                            refine takeT (v := ?_) 0 rfl (by kernel_rfl) (by kernel_rfl) (by kernel_rfl) (by kernel_rfl) (fun _ _ _ h => h) (Or.inl ⟨by rfl, ?_⟩) (by assumption) ?_; rotate_left
                            · (intro w hSw; (try dsimp only at hSw); go_simp; try with_reducible rfl)
                            try simp only [Act.put, zl, z0, z1]
                            refine takeT (v := ?_) 1 rfl (by kernel_rfl) (by kernel_rfl) (by kernel_rfl) (by kernel_rfl) (fun _ _ _ h => h) (Or.inl ⟨by rfl, ?_⟩) (by assumption) ?_; rotate_left
                            · (intro w hSw; (try dsimp only at hSw); go_simp; try with_reducible rfl)
                            try simp only [Act.put, zl, z0, z1]
                            refine takeT (v := ?_) 2 rfl (by kernel_rfl) (by kernel_rfl) (by kernel_rfl) (by kernel_rfl) (fun _ _ _ h => h) (Or.inl ⟨by rfl, ?_⟩) (by assumption) ?_; rotate_left
                            · (intro w hSw; (try dsimp only at hSw); go_simp; try with_reducible rfl)
                            try simp only [Act.put, zl, z0, z1]
                            refine takeT (v := ?_) 3 rfl (by kernel_rfl) (by kernel_rfl) (by kernel_rfl) (by kernel_rfl) (fun _ _ _ h => h) (Or.inl ⟨by rfl, ?_⟩) (by assumption) ?_; rotate_left
                            · (intro w hSw; (try dsimp only at hSw); go_simp; try with_reducible rfl)
                            try simp only [Act.put, zl, z0, z1]
                            refine takeT (v := ?_) 4 rfl (by kernel_rfl) (by kernel_rfl) (by kernel_rfl) (by kernel_rfl) (fun _ _ _ h => h) (Or.inl ⟨by rfl, ?_⟩) (by assumption) ?_; rotate_left
                            · (intro w hSw; (try dsimp only at hSw); go_simp; try with_reducible rfl)
                            try simp only [Act.put, zl, z0, z1]
                            refine takeT (v := ?_) 5 rfl (by kernel_rfl) (by kernel_rfl) (by kernel_rfl) (by kernel_rfl) (fun _ _ _ h => h) (Or.inl ⟨by rfl, ?_⟩) (by assumption) ?_; rotate_left
                            · (intro w hSw; (try dsimp only at hSw); go_simp; try with_reducible rfl)
                            try simp only [Act.put, zl, z0, z1]
                            refine takeT (v := ?_) 6 rfl (by kernel_rfl) (by kernel_rfl) (by kernel_rfl) (by kernel_rfl) (fun _ _ _ h => h) (Or.inl ⟨by rfl, ?_⟩) (by assumption) ?_; rotate_left
                            · (intro w hSw; (try dsimp only at hSw); go_simp; try with_reducible rfl)
                            try simp only [Act.put, zl, z0, z1]
                            refine takeT (v := ?_) 7 rfl (by kernel_rfl) (by kernel_rfl) (by kernel_rfl) (by kernel_rfl) (fun _ _ _ h => h) (Or.inl ⟨by rfl, ?_⟩) (by assumption) ?_; rotate_left
                            · (intro w hSw; (try dsimp only at hSw); go_simp; try with_reducible rfl)
                            try simp only [Act.put, zl, z0, z1]
                            refine takeT (v := ?_) 8 rfl (by kernel_rfl) (by kernel_rfl) (by kernel_rfl) (by kernel_rfl) (fun _ _ _ h => h) (Or.inl ⟨by rfl, ?_⟩) (by assumption) ?_; rotate_left
                            · (intro w hSw; (try dsimp only at hSw); go_simp; try with_reducible rfl)
                            try simp only [Act.put, zl, z0, z1]
                            refine takeT (v := ?_) 9 rfl (by kernel_rfl) (by kernel_rfl) (by kernel_rfl) (by kernel_rfl) (fun _ _ _ h => h) (Or.inl ⟨by rfl, ?_⟩) (by assumption) ?_; rotate_left
                            · (intro w hSw; (try dsimp only at hSw); go_simp; try with_reducible rfl)
                            try simp only [Act.put, zl, z0, z1]
                            refine takeT (v := ?_) 10 rfl (by kernel_rfl) (by kernel_rfl) (by kernel_rfl) (by kernel_rfl) (fun _ _ _ h => h) (Or.inl ⟨by rfl, ?_⟩) (by assumption) ?_; rotate_left
                            · (intro w hSw; (try dsimp only at hSw); go_simp; try with_reducible rfl)
                            try simp only [Act.put, zl, z0, z1]
                            refine takeT (v := ?_) 11 rfl (by kernel_rfl) (by kernel_rfl) (by kernel_rfl) (by kernel_rfl) (fun _ _ _ h => h) (Or.inl ⟨by rfl, ?_⟩) (by assumption) ?_; rotate_left
                            · (intro w hSw; (try dsimp only at hSw); go_simp; try with_reducible rfl)
                            try simp only [Act.put, zl, z0, z1]
                            refine takeT (v := ?_) 12 rfl (by kernel_rfl) (by kernel_rfl) (by kernel_rfl) (by kernel_rfl) (fun _ _ _ h => h) (Or.inl ⟨by rfl, ?_⟩) (by assumption) ?_; rotate_left
                            · (intro w hSw; (try dsimp only at hSw); go_simp; try with_reducible rfl)
                            try simp only [Act.put, zl, z0, z1]
                            refine takeT (v := ?_) 13 rfl (by kernel_rfl) (by kernel_rfl) (by kernel_rfl) (by kernel_rfl) (fun _ _ _ h => h) (Or.inl ⟨by rfl, ?_⟩) (by assumption) ?_; rotate_left
                            · (intro w hSw; (try dsimp only at hSw); go_simp; try with_reducible rfl)
                            try simp only [Act.put, zl, z0, z1]
                            refine takeT (v := ?_) 14 rfl (by kernel_rfl) (by kernel_rfl) (by kernel_rfl) (by kernel_rfl) (fun _ _ _ h => h) (Or.inl ⟨by rfl, ?_⟩) (by assumption) ?_; rotate_left
                            · (intro w hSw; (try dsimp only at hSw); go_simp; try with_reducible rfl)
                            try simp only [Act.put, zl, z0, z1]
                            refine takeT (v := ?_) 15 rfl (by kernel_rfl) (by kernel_rfl) (by kernel_rfl) (by kernel_rfl) (fun _ _ _ h => h) (Or.inl ⟨by rfl, ?_⟩) (by assumption) ?_; rotate_left
                            · (intro w hSw; (try dsimp only at hSw); go_simp; try with_reducible rfl)
                            try simp only [Act.put, zl, z0, z1]
                            refine takeT (v := ?_) 16 rfl (by kernel_rfl) (by kernel_rfl) (by kernel_rfl) (by kernel_rfl) (fun _ _ _ h => h) (Or.inl ⟨by rfl, ?_⟩) (by assumption) ?_; rotate_left
                            · (intro w hSw; (try dsimp only at hSw); go_simp; try with_reducible rfl)
                            try simp only [Act.put, zl, z0, z1]
                            refine takeT (v := ?_) 17 rfl (by kernel_rfl) (by kernel_rfl) (by kernel_rfl) (by kernel_rfl) (fun _ _ _ h => h) (Or.inl ⟨by rfl, ?_⟩) (by assumption) ?_; rotate_left
                            · (intro w hSw; (try dsimp only at hSw); go_simp; try with_reducible rfl)
                            try simp only [Act.put, zl, z0, z1]
                            refine takeT (v := ?_) 18 rfl (by kernel_rfl) (by kernel_rfl) (by kernel_rfl) (by kernel_rfl) (fun _ _ _ h => h) (Or.inl ⟨by rfl, ?_⟩) (by assumption) ?_; rotate_left
                            · (intro w hSw; (try dsimp only at hSw); go_simp; try with_reducible rfl)
                            try simp only [Act.put, zl, z0, z1]
                            refine takeT (v := ?_) 19 rfl (by kernel_rfl) (by kernel_rfl) (by kernel_rfl) (by kernel_rfl) (fun _ _ _ h => h) (Or.inl ⟨by rfl, ?_⟩) (by assumption) ?_; rotate_left
                            · (intro w hSw; (try dsimp only at hSw); go_simp; try with_reducible rfl)
                            try simp only [Act.put, zl, z0, z1]
                            refine takeT (v := ?_) 20 rfl (by kernel_rfl) (by kernel_rfl) (by kernel_rfl) (by kernel_rfl) (fun _ _ _ h => h) (Or.inl ⟨by rfl, ?_⟩) (by assumption) ?_; rotate_left
                            · (intro w hSw; (try dsimp only at hSw); go_simp; try with_reducible rfl)
                            try simp only [Act.put, zl, z0, z1]
                            refine takeT (v := ?_) 21 rfl (by kernel_rfl) (by kernel_rfl) (by kernel_rfl) (by kernel_rfl) (fun _ _ _ h => h) (Or.inl ⟨by rfl, ?_⟩) (by assumption) ?_; rotate_left
                            · (intro w hSw; (try dsimp only at hSw); go_simp; try with_reducible rfl)
                            try simp only [Act.put, zl, z0, z1]
                            refine takeT (v := ?_) 22 rfl (by kernel_rfl) (by kernel_rfl) (by kernel_rfl) (by kernel_rfl) (fun _ _ _ h => h) (Or.inl ⟨by rfl, ?_⟩) (by assumption) ?_; rotate_left
                            · (intro w hSw; (try dsimp only at hSw); go_simp; try with_reducible rfl)
                            try simp only [Act.put, zl, z0, z1]
                            refine takeT (v := ?_) 23 rfl (by kernel_rfl) (by kernel_rfl) (by kernel_rfl) (by kernel_rfl) (fun _ _ _ h => h) (Or.inl ⟨by rfl, ?_⟩) (by assumption) ?_; rotate_left
                            · (intro w hSw; (try dsimp only at hSw); go_simp; try with_reducible rfl)
                            try simp only [Act.put, zl, z0, z1]
                            refine takeT (v := ?_) 24 rfl (by kernel_rfl) (by kernel_rfl) (by kernel_rfl) (by kernel_rfl) (fun _ _ _ h => h) (Or.inl ⟨by rfl, ?_⟩) (by assumption) ?_; rotate_left
                            · (intro w hSw; (try dsimp only at hSw); go_simp; try with_reducible rfl)
                            try simp only [Act.put, zl, z0, z1]
                            refine takeT (v := ?_) 25 rfl (by kernel_rfl) (by kernel_rfl) (by kernel_rfl) (by kernel_rfl) (fun _ _ _ h => h) (Or.inl ⟨by rfl, ?_⟩) (by assumption) ?_; rotate_left
                            · (intro w hSw; (try dsimp only at hSw); go_simp; try with_reducible rfl)
                            try simp only [Act.put, zl, z0, z1]
                            refine wpAnyT_ready (rs := [26]) (by kernel_rfl) (by simp) ?_
                            refine lastT rfl (fun K hK => ?_)
                            (try dsimp only at hD0)
                            go_simp
                            refine hK.out _ _ ?_
                            clear hK K
                            try simp only [Act.put, zl, z0, z1]
                            refine wpAnyT_done (by kernel_rfl) ?_ _
                            (try dsimp only [Act.put, List.getElem_toArray, List.getElem_cons_succ, List.getElem_cons_zero])
                            (try simp only [zl, z0, z1])
                            clear hS hSof hwr hmn hmn2
                            have HOW5 := hide ((HOW4.out.kept (zbD (zbR _ _))).setO (show x < 45 by omega) y cw)
                            go_wp2_with fail
                            go_roundw
                            case rel => exact ⟨sd + 1, _, _, by omega, by go_num, HOW5, hide (by push_cast; exact HN.out)⟩
                            case measure => simp [intOf]; omega
                          · have HN := hide (HORD.out.over hab ha44 hb44 hsd2 HP.out (of_decide_eq_true HEB.out))
                            rw [HXY.out.1, HXY.out.2] at HN
                            have HUB := hide (HORD.out.ob x y)
                            obtain ⟨cw, hcw⟩ : ∃ q, M.capW (O x y + T a b) = q := ⟨_, rfl⟩
                            rw [hcw] at HN
                            have HTS2 : (O x y + T a b) = (O x y + T a b) := rfl
                            have hwr : IntKind.i64.wrap (O x y + T a b) = O x y + T a b := IntWalk.i64_in _ (by have h1 := HUB.out; have h2 := HTB.out; omega)
                            have hmn : (if O x y + T a b < 1000000000001 then O x y + T a b else 1000000000001) = cw := by rw [← hcw]; unfold M.capW; split <;> omega
                            have hmn2 : min 1000000000001 (O x y + T a b) = cw := by rw [← hcw]; rfl
                            clear HTS2 hcw
                            go_upto_region 20 with fail
                            have hSof : ∀ w', Below w4.heap.size w4 w' → (fun w' => Below w4.heap.size w4 w' ∧ w'.cell? ⟨qp, 0, none⟩ = some (.int .i64 (x : Int)) ∧ w'.cell? ⟨qp, 1, none⟩ = some (.int .i64 (y : Int)) ∧ w'.cell? ⟨gv, x, none⟩ = some (.slice (some ⟨bv x, 0, none⟩) 45 45) ∧ w'.cell? ⟨bv x, y, none⟩ = some (.int .i64 (O x y)) ∧ w'.frozen? ⟨bv x, y, none⟩ = false ∧ w'.cell? ⟨go, a, none⟩ = some (.slice (some ⟨bo a, 0, none⟩) 45 45) ∧ w'.cell? ⟨bo a, b, none⟩ = some (.int .i64 (T a b)) ∧ qp < w'.heap.size ∧ gv < w'.heap.size ∧ bv x < w'.heap.size ∧ go < w'.heap.size ∧ bo a < w'.heap.size) w' := fun w' hb => by
                              have h1 := HOW4.out.kept hb
                              have hP := (hb.block _ (blk_lt HP4.out)).trans HP4.out
                              exact ⟨hb, (blk_cell hP 0).trans rfl, (blk_cell hP 1).trans rfl, h1.v.cell x (by omega), h1.v.rows.at_ (by omega) (by omega), blk_frozen (h1.v.rows.row x (by omega)) y, h1.o.cell a (by omega), h1.o.rows.at_ (by omega) (by omega), blk_lt hP, h1.v.gl, h1.v.rows.bl (by omega), h1.o.gl, h1.o.rows.bl (by omega)⟩
                            have hS : (fun w' => Below w4.heap.size w4 w' ∧ w'.cell? ⟨qp, 0, none⟩ = some (.int .i64 (x : Int)) ∧ w'.cell? ⟨qp, 1, none⟩ = some (.int .i64 (y : Int)) ∧ w'.cell? ⟨gv, x, none⟩ = some (.slice (some ⟨bv x, 0, none⟩) 45 45) ∧ w'.cell? ⟨bv x, y, none⟩ = some (.int .i64 (O x y)) ∧ w'.frozen? ⟨bv x, y, none⟩ = false ∧ w'.cell? ⟨go, a, none⟩ = some (.slice (some ⟨bo a, 0, none⟩) 45 45) ∧ w'.cell? ⟨bo a, b, none⟩ = some (.int .i64 (T a b)) ∧ qp < w'.heap.size ∧ gv < w'.heap.size ∧ bv x < w'.heap.size ∧ go < w'.heap.size ∧ bo a < w'.heap.size) w4 := hSof _ (zbR _ _)
                            (try dsimp only at hS)
                            refine wp_region_T_drew (S := (fun w' => Below w4.heap.size w4 w' ∧ w'.cell? ⟨qp, 0, none⟩ = some (.int .i64 (x : Int)) ∧ w'.cell? ⟨qp, 1, none⟩ = some (.int .i64 (y : Int)) ∧ w'.cell? ⟨gv, x, none⟩ = some (.slice (some ⟨bv x, 0, none⟩) 45 45) ∧ w'.cell? ⟨bv x, y, none⟩ = some (.int .i64 (O x y)) ∧ w'.frozen? ⟨bv x, y, none⟩ = false ∧ w'.cell? ⟨go, a, none⟩ = some (.slice (some ⟨bo a, 0, none⟩) 45 45) ∧ w'.cell? ⟨bo a, b, none⟩ = some (.int .i64 (T a b)) ∧ qp < w'.heap.size ∧ gv < w'.heap.size ∧ bv x < w'.heap.size ∧ go < w'.heap.size ∧ bo a < w'.heap.size)) 26 (by kernel_rfl) ?_ (fun hD0 => ?_)
                            · (try dsimp only); first | assumption | exact hSof _ (zbD (zbR _ _))
                            refine takeT (v := ?_) 0 rfl (by kernel_rfl) (by kernel_rfl) (by kernel_rfl) (by kernel_rfl) (fun _ _ _ h => h) (Or.inl ⟨by rfl, ?_⟩) (by assumption) ?_; rotate_left
                            · (intro w hSw; (try dsimp only at hSw); go_simp; try with_reducible rfl)
                            try simp only [Act.put, zl, z0, z1]
                            refine takeT (v := ?_) 1 rfl (by kernel_rfl) (by kernel_rfl) (by kernel_rfl) (by kernel_rfl) (fun _ _ _ h => h) (Or.inl ⟨by rfl, ?_⟩) (by assumption) ?_; rotate_left
                            · (intro w hSw; (try dsimp only at hSw); go_simp; try with_reducible rfl)
                            try simp only [Act.put, zl, z0, z1]
                            refine takeT (v := ?_) 2 rfl (by kernel_rfl) (by kernel_rfl) (by kernel_rfl) (by kernel_rfl) (fun _ _ _ h => h) (Or.inl ⟨by rfl, ?_⟩) (by assumption) ?_; rotate_left
                            · (intro w hSw; (try dsimp only at hSw); go_simp; try with_reducible rfl)
                            try simp only [Act.put, zl, z0, z1]
                            refine takeT (v := ?_) 3 rfl (by kernel_rfl) (by kernel_rfl) (by kernel_rfl) (by kernel_rfl) (fun _ _ _ h => h) (Or.inl ⟨by rfl, ?_⟩) (by assumption) ?_; rotate_left
                            · (intro w hSw; (try dsimp only at hSw); go_simp; try with_reducible rfl)
                            try simp only [Act.put, zl, z0, z1]
                            refine takeT (v := ?_) 4 rfl (by kernel_rfl) (by kernel_rfl) (by kernel_rfl) (by kernel_rfl) (fun _ _ _ h => h) (Or.inl ⟨by rfl, ?_⟩) (by assumption) ?_; rotate_left
                            · (intro w hSw; (try dsimp only at hSw); go_simp; try with_reducible rfl)
                            try simp only [Act.put, zl, z0, z1]
                            refine takeT (v := ?_) 5 rfl (by kernel_rfl) (by kernel_rfl) (by kernel_rfl) (by kernel_rfl) (fun _ _ _ h => h) (Or.inl ⟨by rfl, ?_⟩) (by assumption) ?_; rotate_left
                            · (intro w hSw; (try dsimp only at hSw); go_simp; try with_reducible rfl)
                            try simp only [Act.put, zl, z0, z1]
                            refine takeT (v := ?_) 6 rfl (by kernel_rfl) (by kernel_rfl) (by kernel_rfl) (by kernel_rfl) (fun _ _ _ h => h) (Or.inl ⟨by rfl, ?_⟩) (by assumption) ?_; rotate_left
                            · (intro w hSw; (try dsimp only at hSw); go_simp; try with_reducible rfl)
                            try simp only [Act.put, zl, z0, z1]
                            refine takeT (v := ?_) 7 rfl (by kernel_rfl) (by kernel_rfl) (by kernel_rfl) (by kernel_rfl) (fun _ _ _ h => h) (Or.inl ⟨by rfl, ?_⟩) (by assumption) ?_; rotate_left
                            · (intro w hSw; (try dsimp only at hSw); go_simp; try with_reducible rfl)
                            try simp only [Act.put, zl, z0, z1]
                            refine takeT (v := ?_) 8 rfl (by kernel_rfl) (by kernel_rfl) (by kernel_rfl) (by kernel_rfl) (fun _ _ _ h => h) (Or.inl ⟨by rfl, ?_⟩) (by assumption) ?_; rotate_left
                            · (intro w hSw; (try dsimp only at hSw); go_simp; try with_reducible rfl)
                            try simp only [Act.put, zl, z0, z1]
                            refine takeT (v := ?_) 9 rfl (by kernel_rfl) (by kernel_rfl) (by kernel_rfl) (by kernel_rfl) (fun _ _ _ h => h) (Or.inl ⟨by rfl, ?_⟩) (by assumption) ?_; rotate_left
                            · (intro w hSw; (try dsimp only at hSw); go_simp; try with_reducible rfl)
                            try simp only [Act.put, zl, z0, z1]
                            refine takeT (v := ?_) 10 rfl (by kernel_rfl) (by kernel_rfl) (by kernel_rfl) (by kernel_rfl) (fun _ _ _ h => h) (Or.inl ⟨by rfl, ?_⟩) (by assumption) ?_; rotate_left
                            · (intro w hSw; (try dsimp only at hSw); go_simp; try with_reducible rfl)
                            try simp only [Act.put, zl, z0, z1]
                            refine takeT (v := ?_) 11 rfl (by kernel_rfl) (by kernel_rfl) (by kernel_rfl) (by kernel_rfl) (fun _ _ _ h => h) (Or.inl ⟨by rfl, ?_⟩) (by assumption) ?_; rotate_left
                            · (intro w hSw; (try dsimp only at hSw); go_simp; try with_reducible rfl)
                            try simp only [Act.put, zl, z0, z1]
                            refine takeT (v := ?_) 12 rfl (by kernel_rfl) (by kernel_rfl) (by kernel_rfl) (by kernel_rfl) (fun _ _ _ h => h) (Or.inl ⟨by rfl, ?_⟩) (by assumption) ?_; rotate_left
                            · (intro w hSw; (try dsimp only at hSw); go_simp; try with_reducible rfl)
                            try simp only [Act.put, zl, z0, z1]
                            refine takeT (v := ?_) 13 rfl (by kernel_rfl) (by kernel_rfl) (by kernel_rfl) (by kernel_rfl) (fun _ _ _ h => h) (Or.inl ⟨by rfl, ?_⟩) (by assumption) ?_; rotate_left
                            · (intro w hSw; (try dsimp only at hSw); go_simp; try with_reducible rfl)
                            try simp only [Act.put, zl, z0, z1]
                            refine takeT (v := ?_) 14 rfl (by kernel_rfl) (by kernel_rfl) (by kernel_rfl) (by kernel_rfl) (fun _ _ _ h => h) (Or.inl ⟨by rfl, ?_⟩) (by assumption) ?_; rotate_left
                            · (intro w hSw; (try dsimp only at hSw); go_simp; try with_reducible rfl)
                            try simp only [Act.put, zl, z0, z1]
                            refine takeT (v := ?_) 15 rfl (by kernel_rfl) (by kernel_rfl) (by kernel_rfl) (by kernel_rfl) (fun _ _ _ h => h) (Or.inl ⟨by rfl, ?_⟩) (by assumption) ?_; rotate_left
                            · (intro w hSw; (try dsimp only at hSw); go_simp; try with_reducible rfl)
                            try simp only [Act.put, zl, z0, z1]
                            refine takeT (v := ?_) 16 rfl (by kernel_rfl) (by kernel_rfl) (by kernel_rfl) (by kernel_rfl) (fun _ _ _ h => h) (Or.inl ⟨by rfl, ?_⟩) (by assumption) ?_; rotate_left
                            · (intro w hSw; (try dsimp only at hSw); go_simp; try with_reducible rfl)
                            try simp only [Act.put, zl, z0, z1]
                            refine takeT (v := ?_) 17 rfl (by kernel_rfl) (by kernel_rfl) (by kernel_rfl) (by kernel_rfl) (fun _ _ _ h => h) (Or.inl ⟨by rfl, ?_⟩) (by assumption) ?_; rotate_left
                            · (intro w hSw; (try dsimp only at hSw); go_simp; try with_reducible rfl)
                            try simp only [Act.put, zl, z0, z1]
                            refine takeT (v := ?_) 18 rfl (by kernel_rfl) (by kernel_rfl) (by kernel_rfl) (by kernel_rfl) (fun _ _ _ h => h) (Or.inl ⟨by rfl, ?_⟩) (by assumption) ?_; rotate_left
                            · (intro w hSw; (try dsimp only at hSw); go_simp; try with_reducible rfl)
                            try simp only [Act.put, zl, z0, z1]
                            refine takeT (v := ?_) 19 rfl (by kernel_rfl) (by kernel_rfl) (by kernel_rfl) (by kernel_rfl) (fun _ _ _ h => h) (Or.inl ⟨by rfl, ?_⟩) (by assumption) ?_; rotate_left
                            · (intro w hSw; (try dsimp only at hSw); go_simp; try with_reducible rfl)
                            try simp only [Act.put, zl, z0, z1]
                            refine takeT (v := ?_) 20 rfl (by kernel_rfl) (by kernel_rfl) (by kernel_rfl) (by kernel_rfl) (fun _ _ _ h => h) (Or.inl ⟨by rfl, ?_⟩) (by assumption) ?_; rotate_left
                            · (intro w hSw; (try dsimp only at hSw); go_simp; try with_reducible rfl)
                            try simp only [Act.put, zl, z0, z1]
                            refine takeT (v := ?_) 21 rfl (by kernel_rfl) (by kernel_rfl) (by kernel_rfl) (by kernel_rfl) (fun _ _ _ h => h) (Or.inl ⟨by rfl, ?_⟩) (by assumption) ?_; rotate_left
                            · (intro w hSw; (try dsimp only at hSw); go_simp; try with_reducible rfl)
                            try simp only [Act.put, zl, z0, z1]
                            refine takeT (v := ?_) 22 rfl (by kernel_rfl) (by kernel_rfl) (by kernel_rfl) (by kernel_rfl) (fun _ _ _ h => h) (Or.inl ⟨by rfl, ?_⟩) (by assumption) ?_; rotate_left
                            · (intro w hSw; (try dsimp only at hSw); go_simp; try with_reducible rfl)
                            try simp only [Act.put, zl, z0, z1]
                            refine takeT (v := ?_) 23 rfl (by kernel_rfl) (by kernel_rfl) (by kernel_rfl) (by kernel_rfl) (fun _ _ _ h => h) (Or.inl ⟨by rfl, ?_⟩) (by assumption) ?_; rotate_left
                            · (intro w hSw; (try dsimp only at hSw); go_simp; try with_reducible rfl)
                            try simp only [Act.put, zl, z0, z1]
                            refine takeT (v := ?_) 24 rfl (by kernel_rfl) (by kernel_rfl) (by kernel_rfl) (by kernel_rfl) (fun _ _ _ h => h) (Or.inl ⟨by rfl, ?_⟩) (by assumption) ?_; rotate_left
                            · (intro w hSw; (try dsimp only at hSw); go_simp; try with_reducible rfl)
                            try simp only [Act.put, zl, z0, z1]
                            refine takeT (v := ?_) 25 rfl (by kernel_rfl) (by kernel_rfl) (by kernel_rfl) (by kernel_rfl) (fun _ _ _ h => h) (Or.inl ⟨by rfl, ?_⟩) (by assumption) ?_; rotate_left
                            · (intro w hSw; (try dsimp only at hSw); go_simp; try with_reducible rfl)
                            try simp only [Act.put, zl, z0, z1]
                            refine wpAnyT_ready (rs := [26]) (by kernel_rfl) (by simp) ?_
                            refine lastT rfl (fun K hK => ?_)
                            (try dsimp only at hD0)
                            go_simp
                            refine hK.out _ _ ?_
                            clear hK K
                            try simp only [Act.put, zl, z0, z1]
                            refine wpAnyT_done (by kernel_rfl) ?_ _
                            (try dsimp only [Act.put, List.getElem_toArray, List.getElem_cons_succ, List.getElem_cons_zero])
                            (try simp only [zl, z0, z1])
                            clear hS hSof hwr hmn hmn2
                            have HOW5 := hide ((HOW4.out.kept (zbD (zbR _ _))).setV (show x < 45 by omega) y cw)
                            go_wp2_with fail
                            go_roundw
                            case rel => exact ⟨sd + 1, _, _, by omega, by go_num, HOW5, hide (by push_cast; exact HN.out)⟩
                            case measure => simp [intOf]; omega
                  · have HN := hide (HORD.out.none_ hab ha44 hb44 hp)
                    go_wp2_with fail
                    go_roundw
                    case rel => exact ⟨a + 1, T, O, by omega, by omega, by go_num, HOW, hide (by push_cast; exact HN.out)⟩
                    case measure => simp [intOf]; omega
                · have hd2 : sd = 2 := by omega
                  subst hd2
                  have HN := hide HORD.out.pair
                  go_wp2_with fail
                  go_roundw
                  case rel => exact ⟨a + 1, T, O, by omega, by omega, by go_num, HOW, hide (by push_cast; exact HN.out)⟩
                  case measure => simp [intOf]; omega
            · have hae : (mn : Int) < (a : Int) := by omega
              have HN := hide (show M.Ord s ((sm + 1 : Nat) : Int) ((sm + 1 - 44 : Nat) : Int) 0 T O from by
                push_cast
                exact HORD.out.sum (by omega) (by omega))
              go_wp2_with fail
              go_roundw
              case rel => exact ⟨sm + 1, T, O, by omega, by go_num, HOW, HN⟩
              case measure => simp [intOf]; omega
        · have hs88 : sm = 88 := by omega
          subst hs88
          go_wp2_with fail
          refine bodyPost_ret (v := .tuple #[.slice (some ⟨go, 0, none⟩) k co, .slice (some ⟨gv, 0, none⟩) k cv]) (by simp [results, Try.results70, go_sem]) rfl ?_
          exact ⟨go, co, gv, cv, bo, bv, T, O, _, by rw [HK5.out], (show Tab wr w.heap.size go bo 45 T from ⟨Nat.le_trans HBW1.out.size HOW.out.o.lo, HOW.out.o.gl, HOW.out.o.cell, ⟨HOW.out.o.rows.row, fun i hi => Nat.le_trans HBW1.out.size (HOW.out.o.rows.rlo i hi), HOW.out.o.rows.inj⟩, HOW.out.o.ne⟩), (show Tab wr w.heap.size gv bv 45 O from ⟨Nat.le_trans HBW1.out.size HOW.out.v.lo, HOW.out.v.gl, HOW.out.v.cell, ⟨HOW.out.v.rows.row, fun i hi => Nat.le_trans HBW1.out.size (HOW.out.v.rows.rlo i hi), HOW.out.v.rows.inj⟩, HOW.out.v.ne⟩), HORD.out, zbT HBW1.out HOW.out.below HBW1.out.size⟩
end Go.Proofs.Ytmhaapghiecfcaa

namespace Go.Proofs.Ytmhaapghiecfcaa
open Go.RowKit
attribute [local go_sem ↓] Go.wp_at_zero Go.wp_at_succ

def areR (f : M.Fm) (tie : Bool) (tt : Int) (p : M.Pr) : Bool := if tie = false ∧ f.noAd = true then decide (p.A < 4) && decide (p.B < 4) else decide (max p.A p.B < (if tie then tt else 4)) || decide (max p.A p.B - min p.A p.B ≤ 1)
theorem areR_eq (f : M.Fm) (s : M.Fm) (tie : Bool) (p : M.Pr) (h : f.noAd = s.noAd) : areR f tie s.to p = M.pointsArise s tie p := by
  rw [← M.areP_eq]
  unfold areR M.areP
  rw [h]
set_option maxHeartbeats 1600000 in
set_option maxRecDepth 100000 in
theorem refAre_any (f : M.Fm) (tie : Bool) (tt : Int) (p : M.Pr) (w : World) (h0 : 0 ≤ p.A ∧ p.A ≤ 40) (h1 : 0 ≤ p.B ∧ p.B ≤ 40) :
    Calls Try.prog 71 #[.agg #[.int .i64 f.sets, .int .i64 f.games, .bool f.noAd, .int .i64 f.tie, .int .i64 f.to, .int .i64 f.lastTie, .int .i64 f.lastTo, .int .i64 f.first, .int .i64 f.next, .bool f.doubles], .bool tie, .int .i64 tt, .agg #[.int .i64 p.A, .int .i64 p.B]] w fun e w' => e = .returned (.bool (areR f tie tt p)) ∧ Below w.heap.size w w' := by
  obtain ⟨x, y⟩ := p
  obtain ⟨hx0, hx1⟩ := h0
  obtain ⟨hy0, hy1⟩ := h1
  dsimp only at hx0 hx1 hy0 hy1
  obtain ⟨mx, hmx⟩ : ∃ q, max x y = q := ⟨_, rfl⟩
  obtain ⟨mn, hmn⟩ : ∃ q, min x y = q := ⟨_, rfl⟩
  have e1 : (if x < y then y else x) = mx := by split <;> omega
  have e2 : (if y < x then y else x) = mn := by split <;> omega
  have e3 : IntKind.i64.wrap (mx - mn) = mx - mn := IntWalk.i64_in _ (by omega)
  obtain ⟨r, hr⟩ : ∃ q, areR f tie tt ⟨x, y⟩ = q := ⟨_, rfl⟩
  rw [hr]
  unfold areR at hr
  dsimp only at hr
  rw [hmx, hmn] at hr
  cases tie
  · cases hna : f.noAd
    · rw [hna] at hr
      by_cases c1 : mx < 4
      · have hr2 : r = true := by rw [← hr]; simp [c1]
        subst hr2
        clear hr hmx hmn
        go_enter Try.func71, Try.ntmps71
        go_wp2
        go_ret
        exact ⟨rfl, by (exact kb)⟩
      · have c1' : 4 ≤ mx := by omega
        by_cases c2 : mx - mn ≤ 1
        · have hr2 : r = true := by rw [← hr]; simp [c2]
          subst hr2
          clear hr hmx hmn
          go_enter Try.func71, Try.ntmps71
          go_wp2
          go_ret
          exact ⟨by first | rfl | (congr 2; simp; omega), by (exact kb)⟩
        · have hr2 : r = false := by rw [← hr]; simp [c1, c2]
          subst hr2
          clear hr hmx hmn
          have c2' : 1 < mx - mn := by omega
          go_enter Try.func71, Try.ntmps71
          go_wp2
          go_ret
          exact ⟨by first | rfl | (congr 2; simp; omega), by (exact kb)⟩
    · rw [hna] at hr
      by_cases c1 : x < 4
      · by_cases c2 : y < 4
        · have hr2 : r = true := by rw [← hr]; simp [c1, c2]
          subst hr2
          clear hr hmx hmn
          go_enter Try.func71, Try.ntmps71
          go_wp2
          go_ret
          exact ⟨by first | rfl | (congr 2; simp; omega), by (exact kb)⟩
        · have hr2 : r = false := by rw [← hr]; simp [c1, c2]
          have c2' : 4 ≤ y := by omega
          subst hr2
          clear hr hmx hmn
          go_enter Try.func71, Try.ntmps71
          go_wp2
          go_ret
          exact ⟨by first | rfl | (congr 2; simp; omega), by (exact kb)⟩
      · have hr2 : r = false := by rw [← hr]; simp [c1]
        have c1' : 4 ≤ x := by omega
        subst hr2
        clear hr hmx hmn
        go_enter Try.func71, Try.ntmps71
        go_wp2
        go_ret
        exact ⟨by first | rfl | (congr 2; simp; omega), by (exact kb)⟩
  · by_cases c1 : mx < tt
    · have hr2 : r = true := by rw [← hr]; simp [c1]
      subst hr2
      clear hr hmx hmn
      go_enter Try.func71, Try.ntmps71
      go_wp2
      go_ret
      exact ⟨rfl, by (exact kb)⟩
    · have c1' : tt ≤ mx := by omega
      by_cases c2 : mx - mn ≤ 1
      · have hr2 : r = true := by rw [← hr]; simp [c2]
        subst hr2
        clear hr hmx hmn
        go_enter Try.func71, Try.ntmps71
        go_wp2
        go_ret
        exact ⟨by first | rfl | (congr 2; simp; omega), by (exact kb)⟩
      · have hr2 : r = false := by rw [← hr]; simp [c1, c2]
        have c2' : 1 < mx - mn := by omega
        subst hr2
        clear hr hmx hmn
        go_enter Try.func71, Try.ntmps71
        go_wp2
        go_ret
        exact ⟨by first | rfl | (congr 2; simp; omega), by (exact kb)⟩
theorem refSwapped_any (p : M.Pr) (w : World) :
    Calls Try.prog 48 #[.agg #[.int .i64 p.A, .int .i64 p.B]] w fun e w' => e = .returned (.agg #[.int .i64 p.B, .int .i64 p.A]) ∧ Below w.heap.size w w' := by
  go_enter Try.func48, Try.ntmps48
  go_wp2
  refine bodyPost_ret (v := .agg #[.int .i64 p.B, .int .i64 p.A]) (by simp [results, Try.results48, go_sem]) rfl ⟨rfl, ?_⟩
  (exact kb)
theorem refNeed_any (a b l : Int) (ad : Bool) (w : World) (ha : 0 ≤ a ∧ a ≤ 100) (hb : 0 ≤ b ∧ b ≤ 100) (hl : 0 ≤ l ∧ l ≤ 100) :
    Calls Try.prog 54 #[.int .i64 a, .int .i64 b, .int .i64 l, .bool ad] w fun e w' => e = .returned (.int .i64 (M.needR a b l ad)) ∧ Below w.heap.size w w' := by
  obtain ⟨ha0, ha1⟩ := ha
  obtain ⟨hb0, hb1⟩ := hb
  obtain ⟨hl0, hl1⟩ := hl
  cases ad
  · have e : M.needR a b l false = l - a := rfl
    rw [e]
    clear e
    go_enter Try.func54, Try.ntmps54
    go_wp2
    go_ret
    exact ⟨rfl, by (exact kb)⟩
  · obtain ⟨mx, hmx⟩ : ∃ q, max l (b + 2) = q := ⟨_, rfl⟩
    have e : M.needR a b l true = mx - a := by unfold M.needR; rw [if_pos rfl, hmx]
    have e1 : (if l < b + 2 then b + 2 else l) = mx := by split <;> omega
    have e2 : IntKind.i64.wrap (mx - a) = mx - a := IntWalk.i64_in _ (by omega)
    rw [e]
    clear e
    go_enter Try.func54, Try.ntmps54
    go_wp2
    go_ret
    exact ⟨rfl, by (exact kb)⟩
end Go.Proofs.Ytmhaapghiecfcaa
