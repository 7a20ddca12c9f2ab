/-
  Part of a claim's texts: contracts of the program's functions and the plain functions that they compute, in build order.
-/
import Derived.Test.YtobjahlmjcnfoaaGreatZB02
import Derived.Test.YtobjahlmjcnfoaaGreatZB03
namespace Go.Proofs.YtobjahlmjcnfoaaGreat
open Go.RowKit
attribute [local go_sem ↓] Go.wp_at_zero Go.wp_at_succ

theorem bookRow : (Tryz.prog.info? 43).map (·.size) = some 6 := by kernel_rfl
def bookVal (f : E.Fd) (A : Option Addr) (m c : Nat) : Value := .agg #[.int .i64 f.places, .int .i64 f.wilds, .int .i64 f.guards, .int .i64 f.close, .int .i64 f.freeze, .slice A m c]
def noBook : Value := .agg #[.int .i64 0, .int .i64 0, .int .i64 0, .int .i64 0, .int .i64 0, .slice none 0 0]
def OpenPost (f : E.Fd) (l : List E.Nt) (w : World) (e : Ending) (w' : World) : Prop := ((E.checkE f l ≠ 0 ∧ e = .returned (.tuple #[noBook, .int .i64 (E.checkE f l)])) ∨ (E.checkE f l = 0 ∧ ∃ d A c, E.diffs l = some d ∧ e = .returned (.tuple #[bookVal f A d.length c, .int .i64 0]) ∧ w'.ownsRow w.heap.size 70 5 (.slice A d.length c) d.length (flatN d))) ∧ Below w.heap.size w w'
theorem setRow_heap1 {w : World} {b : Nat} {cs old : Array Value} {t : TypeId} (hb : w.heap[b]? = some (.cells old t (0, 0))) : (w.setRow b cs).heap[b]? = some (.cells cs t (0, 0)) :=
  cap_row1 (K := fun _ W => W.heap[b]? = some (.cells cs t (0, 0))) (a := ⟨#[], []⟩) hb (fun W' h _ => h)

set_option maxHeartbeats 6400000 in
set_option maxRecDepth 100000 in
theorem open_any (f : E.Fd) (A : Option Addr) (n c : Nat) (l : List E.Nt) (w : World) (hn : l.length = n) (hr : RdN w w.heap.size A l) (hid : ∀ x ∈ l, (Lit.int .i64 x.id).wf = true) (hm : n ≤ 1000000) :
    Calls Tryz.prog 32 #[.agg #[.int .i64 f.places, .int .i64 f.wilds, .int .i64 f.guards, .int .i64 f.close, .int .i64 f.freeze], .slice A n c] w (OpenPost f l w) := by
  have HN := hide hn
  have HR := hide hr
  have HID := hide hid
  have HM := hide hm
  clear hn hr hid hm
  obtain ⟨vf, hvf⟩ : ∃ b, E.validField f = b := ⟨_, rfl⟩
  have HV := hide hvf
  have HCV := fun W => hide (validField_any f W)
  rw [hvf] at HCV
  clear hvf
  cases vf
  · have HC := hide (show E.checkE f l = 50 by unfold E.checkE; rw [HV.out]; rfl)
    go_enter Tryz.func32, Tryz.ntmps32
    go_wp2_with (first | (go_at_call 48; refine (HCV _).out.mono ?_; rintro e w2 ⟨rfl, hb2⟩; have HB2 := hide (zbT (show Below w.heap.size w ((w.alloc (.cells #[.int .i64 f.places, .int .i64 f.wilds, .int .i64 f.guards, .int .i64 f.close, .int .i64 f.freeze] 23)).alloc (.cells #[.int .i64 0, .int .i64 0, .int .i64 0, .int .i64 0, .int .i64 0, .slice none 0 0] 43)) by (repeat' first | exact zbR _ _ | assumption | refine zbD ?_ | refine zbA ?_ ?_ _ | refine zbS ?_ ?_ _ | refine zbT ?_ (by assumption) ?_ | (simp; done) | (simp; omega) | omega)) hb2 (by simp; omega)); have HQ2 := hide ((hb2.block (w.heap.size + 1) (by simp)).trans (show ((w.alloc (.cells #[.int .i64 f.places, .int .i64 f.wilds, .int .i64 f.guards, .int .i64 f.close, .int .i64 f.freeze] 23)).alloc (.cells #[.int .i64 0, .int .i64 0, .int .i64 0, .int .i64 0, .int .i64 0, .slice none 0 0] 43)).heap[w.heap.size + 1]? = some (.cells #[.int .i64 0, .int .i64 0, .int .i64 0, .int .i64 0, .int .i64 0, .slice none 0 0] 43 (0, 0)) from (congrArg _ (by simp)).trans (World.alloc_heap_new _ _))); have HF2 := hide ((hb2.block w.heap.size (by simp; omega)).trans (show ((w.alloc (.cells #[.int .i64 f.places, .int .i64 f.wilds, .int .i64 f.guards, .int .i64 f.close, .int .i64 f.freeze] 23)).alloc (.cells #[.int .i64 0, .int .i64 0, .int .i64 0, .int .i64 0, .int .i64 0, .slice none 0 0] 43)).heap[w.heap.size]? = some (.cells #[.int .i64 f.places, .int .i64 f.wilds, .int .i64 f.guards, .int .i64 f.close, .int .i64 f.freeze] 23 (0, 0)) from (Below.heap_alloc _ _ _ (by first | (simp; done) | (simp; omega) | omega)).trans (World.alloc_heap_new _ _))); clear hb2) | (refine wpList_store_row rfl 43 _ _ rfl (w.heap.size + 1) _ rfl rfl 43 _ HQ2.out bookRow rfl (by simp [Value.oneCell']) ?_))
    obtain ⟨W9, hW9⟩ : ∃ W9, w2.setRow (w.heap.size + 1) #[.int .i64 0, .int .i64 0, .int .i64 0, .int .i64 0, .int .i64 0, .slice none 0 0] = W9 := ⟨_, rfl⟩
    have HR9 := hide (show W9.heap[w.heap.size + 1]? = some (.cells #[.int .i64 0, .int .i64 0, .int .i64 0, .int .i64 0, .int .i64 0, .slice none 0 0] 43 (0, 0)) by rw [← hW9]; exact setRow_heap1 HQ2.out)
    have HG9 := hide (show w2.grownBy W9 (some (w.heap.size + 1)) by rw [← hW9]; exact setRow_grown _ _ _)
    rw [hW9]
    clear hW9
    have r0 : W9.cell? ⟨w.heap.size + 1, 0, none⟩ = some (.int .i64 0) := (blk_cell HR9.out 0).trans rfl
    have r1 : W9.cell? ⟨w.heap.size + 1, 1, none⟩ = some (.int .i64 0) := (blk_cell HR9.out 1).trans rfl
    have r2 : W9.cell? ⟨w.heap.size + 1, 2, none⟩ = some (.int .i64 0) := (blk_cell HR9.out 2).trans rfl
    have r3 : W9.cell? ⟨w.heap.size + 1, 3, none⟩ = some (.int .i64 0) := (blk_cell HR9.out 3).trans rfl
    have r4 : W9.cell? ⟨w.heap.size + 1, 4, none⟩ = some (.int .i64 0) := (blk_cell HR9.out 4).trans rfl
    have r5 : W9.cell? ⟨w.heap.size + 1, 5, none⟩ = some (.slice none 0 0) := (blk_cell HR9.out 5).trans rfl
    refine bodyPost_ret (v := .tuple #[.agg #[.int .i64 0, .int .i64 0, .int .i64 0, .int .i64 0, .int .i64 0, .slice none 0 0], .int .i64 50]) (by simp [results, Tryz.results32, go_sem, r0, r1, r2, r3, r4, r5]) rfl ?_
    clear r0 r1 r2 r3 r4 r5
    exact ⟨.inl ⟨by rw [HC.out]; decide, by rw [HC.out]; rfl⟩, HB2.out.trans (grown_below HG9.out HB2.out.size (fun g e => by have h1 := Option.some.inj e; omega))⟩
  · cases hdf : E.diffs l with
    | none =>
      have HDF := hide hdf
      have HC := hide (show E.checkE f l = 51 by unfold E.checkE; rw [HV.out, hdf]; rfl)
      clear hdf
      go_enter Tryz.func32, Tryz.ntmps32
      go_wp2_with (first | (go_at_call 48; refine (HCV _).out.mono ?_; rintro e w2 ⟨rfl, hb2⟩; have HB2 := hide (zbT (show Below w.heap.size w ((w.alloc (.cells #[.int .i64 f.places, .int .i64 f.wilds, .int .i64 f.guards, .int .i64 f.close, .int .i64 f.freeze] 23)).alloc (.cells #[.int .i64 0, .int .i64 0, .int .i64 0, .int .i64 0, .int .i64 0, .slice none 0 0] 43)) by (repeat' first | exact zbR _ _ | assumption | refine zbD ?_ | refine zbA ?_ ?_ _ | refine zbS ?_ ?_ _ | refine zbT ?_ (by assumption) ?_ | (simp; done) | (simp; omega) | omega)) hb2 (by simp; omega)); have HQ2 := hide ((hb2.block (w.heap.size + 1) (by simp)).trans (show ((w.alloc (.cells #[.int .i64 f.places, .int .i64 f.wilds, .int .i64 f.guards, .int .i64 f.close, .int .i64 f.freeze] 23)).alloc (.cells #[.int .i64 0, .int .i64 0, .int .i64 0, .int .i64 0, .int .i64 0, .slice none 0 0] 43)).heap[w.heap.size + 1]? = some (.cells #[.int .i64 0, .int .i64 0, .int .i64 0, .int .i64 0, .int .i64 0, .slice none 0 0] 43 (0, 0)) from (congrArg _ (by simp)).trans (World.alloc_heap_new _ _))); have HF2 := hide ((hb2.block w.heap.size (by simp; omega)).trans (show ((w.alloc (.cells #[.int .i64 f.places, .int .i64 f.wilds, .int .i64 f.guards, .int .i64 f.close, .int .i64 f.freeze] 23)).alloc (.cells #[.int .i64 0, .int .i64 0, .int .i64 0, .int .i64 0, .int .i64 0, .slice none 0 0] 43)).heap[w.heap.size]? = some (.cells #[.int .i64 f.places, .int .i64 f.wilds, .int .i64 f.guards, .int .i64 f.close, .int .i64 f.freeze] 23 (0, 0)) from (Below.heap_alloc _ _ _ (by first | (simp; done) | (simp; omega) | omega)).trans (World.alloc_heap_new _ _))); clear hb2) | (go_at_call 49; refine (diff_any A n c l w2 HN.out ((HR.out.below HB2.out).mono HB2.out.size) HID.out HM.out).mono ?_; rintro e w3 hd3; have HD3 := hide hd3; clear hd3; rw [DiffPost, HDF.out] at HD3; obtain ⟨rfl, hb3⟩ := HD3.out; have HB3 := hide (zbT HB2.out hb3 HB2.out.size); have HQ3 := hide ((hb3.block _ (blk_lt HQ2.out)).trans HQ2.out); clear hb3 HD3) | (refine wpList_store_row rfl 43 _ _ rfl (w.heap.size + 1) _ rfl rfl 43 _ HQ3.out bookRow rfl (by simp [Value.oneCell']) ?_))
      obtain ⟨W9, hW9⟩ : ∃ W9, w3.setRow (w.heap.size + 1) #[.int .i64 0, .int .i64 0, .int .i64 0, .int .i64 0, .int .i64 0, .slice none 0 0] = W9 := ⟨_, rfl⟩
      have HR9 := hide (show W9.heap[w.heap.size + 1]? = some (.cells #[.int .i64 0, .int .i64 0, .int .i64 0, .int .i64 0, .int .i64 0, .slice none 0 0] 43 (0, 0)) by rw [← hW9]; exact setRow_heap1 HQ3.out)
      have HG9 := hide (show w3.grownBy W9 (some (w.heap.size + 1)) by rw [← hW9]; exact setRow_grown _ _ _)
      rw [hW9]
      clear hW9
      have r0 : W9.cell? ⟨w.heap.size + 1, 0, none⟩ = some (.int .i64 0) := (blk_cell HR9.out 0).trans rfl
      have r1 : W9.cell? ⟨w.heap.size + 1, 1, none⟩ = some (.int .i64 0) := (blk_cell HR9.out 1).trans rfl
      have r2 : W9.cell? ⟨w.heap.size + 1, 2, none⟩ = some (.int .i64 0) := (blk_cell HR9.out 2).trans rfl
      have r3 : W9.cell? ⟨w.heap.size + 1, 3, none⟩ = some (.int .i64 0) := (blk_cell HR9.out 3).trans rfl
      have r4 : W9.cell? ⟨w.heap.size + 1, 4, none⟩ = some (.int .i64 0) := (blk_cell HR9.out 4).trans rfl
      have r5 : W9.cell? ⟨w.heap.size + 1, 5, none⟩ = some (.slice none 0 0) := (blk_cell HR9.out 5).trans rfl
      refine bodyPost_ret (v := .tuple #[.agg #[.int .i64 0, .int .i64 0, .int .i64 0, .int .i64 0, .int .i64 0, .slice none 0 0], .int .i64 51]) (by simp [results, Tryz.results32, go_sem, r0, r1, r2, r3, r4, r5]) rfl ?_
      clear r0 r1 r2 r3 r4 r5
      exact ⟨.inl ⟨by rw [HC.out]; decide, by rw [HC.out]; rfl⟩, HB3.out.trans (grown_below HG9.out HB3.out.size (fun g e => by have h1 := Option.some.inj e; omega))⟩
    | some d =>
      have HDF := hide hdf
      have HC := hide (show E.checkE f l = 0 by unfold E.checkE; rw [HV.out, hdf]; rfl)
      clear hdf
      go_enter Tryz.func32, Tryz.ntmps32
      go_wp2_with (first | (go_at_call 48; refine (HCV _).out.mono ?_; rintro e w2 ⟨rfl, hb2⟩; have HB2 := hide (zbT (show Below w.heap.size w ((w.alloc (.cells #[.int .i64 f.places, .int .i64 f.wilds, .int .i64 f.guards, .int .i64 f.close, .int .i64 f.freeze] 23)).alloc (.cells #[.int .i64 0, .int .i64 0, .int .i64 0, .int .i64 0, .int .i64 0, .slice none 0 0] 43)) by (repeat' first | exact zbR _ _ | assumption | refine zbD ?_ | refine zbA ?_ ?_ _ | refine zbS ?_ ?_ _ | refine zbT ?_ (by assumption) ?_ | (simp; done) | (simp; omega) | omega)) hb2 (by simp; omega)); have HQ2 := hide ((hb2.block (w.heap.size + 1) (by simp)).trans (show ((w.alloc (.cells #[.int .i64 f.places, .int .i64 f.wilds, .int .i64 f.guards, .int .i64 f.close, .int .i64 f.freeze] 23)).alloc (.cells #[.int .i64 0, .int .i64 0, .int .i64 0, .int .i64 0, .int .i64 0, .slice none 0 0] 43)).heap[w.heap.size + 1]? = some (.cells #[.int .i64 0, .int .i64 0, .int .i64 0, .int .i64 0, .int .i64 0, .slice none 0 0] 43 (0, 0)) from (congrArg _ (by simp)).trans (World.alloc_heap_new _ _))); have HF2 := hide ((hb2.block w.heap.size (by simp; omega)).trans (show ((w.alloc (.cells #[.int .i64 f.places, .int .i64 f.wilds, .int .i64 f.guards, .int .i64 f.close, .int .i64 f.freeze] 23)).alloc (.cells #[.int .i64 0, .int .i64 0, .int .i64 0, .int .i64 0, .int .i64 0, .slice none 0 0] 43)).heap[w.heap.size]? = some (.cells #[.int .i64 f.places, .int .i64 f.wilds, .int .i64 f.guards, .int .i64 f.close, .int .i64 f.freeze] 23 (0, 0)) from (Below.heap_alloc _ _ _ (by first | (simp; done) | (simp; omega) | omega)).trans (World.alloc_heap_new _ _))); clear hb2) | (go_at_call 49; refine (diff_any A n c l w2 HN.out ((HR.out.below HB2.out).mono HB2.out.size) HID.out HM.out).mono ?_; rintro e w3 hd3; have HD3 := hide hd3; clear hd3; rw [DiffPost, HDF.out] at HD3; obtain ⟨⟨A3, c3, rfl, ho3⟩, hb3⟩ := HD3.out; have HB3 := hide (zbT HB2.out hb3 HB2.out.size); have HQ3 := hide ((hb3.block _ (blk_lt HQ2.out)).trans HQ2.out); have HF3 := hide ((hb3.block _ (blk_lt HF2.out)).trans HF2.out); have HO3 := hide (owns_mono ho3 HB2.out.size); clear hb3 HD3 ho3; have k0 : w3.cell? ⟨w.heap.size, 0, none⟩ = some (.int .i64 f.places) := (blk_cell HF3.out 0).trans rfl; have k1 : w3.cell? ⟨w.heap.size, 1, none⟩ = some (.int .i64 f.wilds) := (blk_cell HF3.out 1).trans rfl; have k2 : w3.cell? ⟨w.heap.size, 2, none⟩ = some (.int .i64 f.guards) := (blk_cell HF3.out 2).trans rfl; have k3 : w3.cell? ⟨w.heap.size, 3, none⟩ = some (.int .i64 f.close) := (blk_cell HF3.out 3).trans rfl; have k4 : w3.cell? ⟨w.heap.size, 4, none⟩ = some (.int .i64 f.freeze) := (blk_cell HF3.out 4).trans rfl) | (refine wpList_store_row rfl 43 _ _ rfl (w.heap.size + 1) _ rfl rfl 43 _ HQ3.out bookRow rfl (by simp [Value.oneCell']) ?_))
      obtain ⟨W9, hW9⟩ : ∃ W9, w3.setRow (w.heap.size + 1) #[.int .i64 f.places, .int .i64 f.wilds, .int .i64 f.guards, .int .i64 f.close, .int .i64 f.freeze, .slice A3 d.length c3] = W9 := ⟨_, rfl⟩
      have HR9 := hide (show W9.heap[w.heap.size + 1]? = some (.cells #[.int .i64 f.places, .int .i64 f.wilds, .int .i64 f.guards, .int .i64 f.close, .int .i64 f.freeze, .slice A3 d.length c3] 43 (0, 0)) by rw [← hW9]; exact setRow_heap1 HQ3.out)
      have HG9 := hide (show w3.grownBy W9 (some (w.heap.size + 1)) by rw [← hW9]; exact setRow_grown _ _ _)
      rw [hW9]
      clear hW9
      have r0 : W9.cell? ⟨w.heap.size + 1, 0, none⟩ = some (.int .i64 f.places) := (blk_cell HR9.out 0).trans rfl
      have r1 : W9.cell? ⟨w.heap.size + 1, 1, none⟩ = some (.int .i64 f.wilds) := (blk_cell HR9.out 1).trans rfl
      have r2 : W9.cell? ⟨w.heap.size + 1, 2, none⟩ = some (.int .i64 f.guards) := (blk_cell HR9.out 2).trans rfl
      have r3 : W9.cell? ⟨w.heap.size + 1, 3, none⟩ = some (.int .i64 f.close) := (blk_cell HR9.out 3).trans rfl
      have r4 : W9.cell? ⟨w.heap.size + 1, 4, none⟩ = some (.int .i64 f.freeze) := (blk_cell HR9.out 4).trans rfl
      have r5 : W9.cell? ⟨w.heap.size + 1, 5, none⟩ = some (.slice A3 d.length c3) := (blk_cell HR9.out 5).trans rfl
      refine bodyPost_ret (v := .tuple #[.agg #[.int .i64 f.places, .int .i64 f.wilds, .int .i64 f.guards, .int .i64 f.close, .int .i64 f.freeze, .slice A3 d.length c3], .int .i64 0]) (by simp [results, Tryz.results32, go_sem, r0, r1, r2, r3, r4, r5]) rfl ?_
      clear r0 r1 r2 r3 r4 r5
      exact ⟨.inr ⟨HC.out, d, A3, c3, HDF.out, rfl, HO3.out.kept HG9.out (.inr (row_ne HO3.out HQ3.out (by decide)))⟩, HB3.out.trans (grown_below HG9.out HB3.out.size (fun g e => by have h1 := Option.some.inj e; omega))⟩


def E.errE (f : E.Fd) (l : List E.Nt) (h p : Int) : Int := if E.checkE f l ≠ 0 then E.checkE f l else if E.within h 0 9999 = true ∧ E.within p 0 999 = true then 0 else 1
def OpenForPost (f : E.Fd) (l : List E.Nt) (h p : Int) (w : World) (e : Ending) (w' : World) : Prop := ((E.errE f l h p ≠ 0 ∧ e = .returned (.tuple #[noBook, .int .i64 (E.errE f l h p)])) ∨ (E.errE f l h p = 0 ∧ ∃ d A c, E.diffs l = some d ∧ e = .returned (.tuple #[bookVal f A d.length c, .int .i64 0]) ∧ w'.ownsRow w.heap.size 70 5 (.slice A d.length c) d.length (flatN d))) ∧ Below w.heap.size w w'

set_option maxHeartbeats 6400000 in
set_option maxRecDepth 100000 in
theorem openFor_any (f : E.Fd) (A : Option Addr) (n c : Nat) (l : List E.Nt) (h p : Int) (w : World) (hn : l.length = n) (hr : RdN w w.heap.size A l) (hid : ∀ x ∈ l, (Lit.int .i64 x.id).wf = true) (hm : n ≤ 1000000) :
    Calls Tryz.prog 15 #[.agg #[.int .i64 f.places, .int .i64 f.wilds, .int .i64 f.guards, .int .i64 f.close, .int .i64 f.freeze], .slice A n c, .int .i64 h, .int .i64 p] w (OpenForPost f l h p w) := by
  have HN := hide hn
  have HR := hide hr
  have HID := hide hid
  have HM := hide hm
  clear hn hr hid hm
  by_cases h0 : E.checkE f l = 0
  · have HC := hide h0
    obtain ⟨v1, hv1⟩ : ∃ b, E.within h 0 9999 = b := ⟨_, rfl⟩
    obtain ⟨v2, hv2⟩ : ∃ b, E.within p 0 999 = b := ⟨_, rfl⟩
    have HV1 := hide hv1
    have HV2 := hide hv2
    have he : E.errE f l h p = if v1 = true ∧ v2 = true then 0 else 1 := by unfold E.errE; rw [hv1, hv2, if_neg (by simp [h0])]
    have HE := hide he
    clear h0 hv1 hv2 he
    cases v1
    · have HE := hide (show E.errE f l h p = 1 from HE.out.trans (if_neg (by simp)))
      go_enter Tryz.func15, Tryz.ntmps15
      go_wp2_with (first | (go_at_call 32; refine (open_any f A n c l _ HN.out ((HR.out.below (by (repeat' first | exact zbR _ _ | assumption | refine zbD ?_ | refine zbA ?_ ?_ _ | refine zbS ?_ ?_ _ | refine zbT ?_ (by assumption) ?_ | (simp; done) | (simp; omega) | omega))).mono (by simp; omega)) HID.out HM.out).mono ?_; rintro e w2 hd2; have hb2 := hd2.2; have HB2 := hide (zbT (show Below w.heap.size w ((w.alloc (.cells #[.int .i64 f.places, .int .i64 f.wilds, .int .i64 f.guards, .int .i64 f.close, .int .i64 f.freeze] 23)).alloc (.cells #[.int .i64 0, .int .i64 0, .int .i64 0, .int .i64 0, .int .i64 0, .slice none 0 0] 43)) by (repeat' first | exact zbR _ _ | assumption | refine zbD ?_ | refine zbA ?_ ?_ _ | refine zbS ?_ ?_ _ | refine zbT ?_ (by assumption) ?_ | (simp; done) | (simp; omega) | omega)) hb2 (by simp; omega)); have HQ2 := hide ((hb2.block (w.heap.size + 1) (by simp)).trans (show ((w.alloc (.cells #[.int .i64 f.places, .int .i64 f.wilds, .int .i64 f.guards, .int .i64 f.close, .int .i64 f.freeze] 23)).alloc (.cells #[.int .i64 0, .int .i64 0, .int .i64 0, .int .i64 0, .int .i64 0, .slice none 0 0] 43)).heap[w.heap.size + 1]? = some (.cells #[.int .i64 0, .int .i64 0, .int .i64 0, .int .i64 0, .int .i64 0, .slice none 0 0] 43 (0, 0)) from (congrArg _ (by simp)).trans (World.alloc_heap_new _ _))); obtain ⟨(⟨h0, _⟩ | ⟨_, d, A3, c3, hdf, rfl, ho3⟩), _⟩ := hd2; (exact absurd HC.out h0); have HDF := hide hdf; have HO3 := hide (owns_mono ho3 (show w.heap.size ≤ _ by simp; omega)); unfold bookVal; clear hb2 hdf ho3) | (go_at_call 33; with_reducible refine (within_any h 0 9999 _).mono ?_; rintro e w' ⟨rfl, rfl⟩; rw [HV1.out]) | (go_at_call 33; with_reducible refine (within_any p 0 999 _).mono ?_; rintro e w' ⟨rfl, rfl⟩; rw [HV2.out]) | (refine wpList_store_row rfl 43 _ _ rfl (w.heap.size + 1) _ rfl rfl 43 _ ((Below.heap_alloc w2 _ _ (blk_lt HQ2.out)).trans HQ2.out) bookRow rfl (by simp [Value.oneCell']) ?_))
      have HQ3 := hide (show (w2.alloc (.cells #[.int .i64 f.places, .int .i64 f.wilds, .int .i64 f.guards, .int .i64 f.close, .int .i64 f.freeze, .slice A3 d.length c3] 43)).heap[w.heap.size + 1]? = some (.cells #[.int .i64 0, .int .i64 0, .int .i64 0, .int .i64 0, .int .i64 0, .slice none 0 0] 43 (0, 0)) from ((Below.heap_alloc w2 _ _ (blk_lt HQ2.out)).trans HQ2.out))
      have HBA := hide (zbA (zbR w.heap.size w2) HB2.out.size (.cells #[.int .i64 f.places, .int .i64 f.wilds, .int .i64 f.guards, .int .i64 f.close, .int .i64 f.freeze, .slice A3 d.length c3] 43))
      obtain ⟨W9, hW9⟩ : ∃ W9, (w2.alloc (.cells #[.int .i64 f.places, .int .i64 f.wilds, .int .i64 f.guards, .int .i64 f.close, .int .i64 f.freeze, .slice A3 d.length c3] 43)).setRow (w.heap.size + 1) #[.int .i64 0, .int .i64 0, .int .i64 0, .int .i64 0, .int .i64 0, .slice none 0 0] = W9 := ⟨_, rfl⟩
      have HR9 := hide (show W9.heap[w.heap.size + 1]? = some (.cells #[.int .i64 0, .int .i64 0, .int .i64 0, .int .i64 0, .int .i64 0, .slice none 0 0] 43 (0, 0)) by rw [← hW9]; exact setRow_heap1 HQ3.out)
      have HG9 := hide (show (w2.alloc (.cells #[.int .i64 f.places, .int .i64 f.wilds, .int .i64 f.guards, .int .i64 f.close, .int .i64 f.freeze, .slice A3 d.length c3] 43)).grownBy W9 (some (w.heap.size + 1)) by rw [← hW9]; exact setRow_grown _ _ _)
      rw [hW9]
      clear hW9
      have r0 : W9.cell? ⟨w.heap.size + 1, 0, none⟩ = some (.int .i64 0) := (blk_cell HR9.out 0).trans rfl
      have r1 : W9.cell? ⟨w.heap.size + 1, 1, none⟩ = some (.int .i64 0) := (blk_cell HR9.out 1).trans rfl
      have r2 : W9.cell? ⟨w.heap.size + 1, 2, none⟩ = some (.int .i64 0) := (blk_cell HR9.out 2).trans rfl
      have r3 : W9.cell? ⟨w.heap.size + 1, 3, none⟩ = some (.int .i64 0) := (blk_cell HR9.out 3).trans rfl
      have r4 : W9.cell? ⟨w.heap.size + 1, 4, none⟩ = some (.int .i64 0) := (blk_cell HR9.out 4).trans rfl
      have r5 : W9.cell? ⟨w.heap.size + 1, 5, none⟩ = some (.slice none 0 0) := (blk_cell HR9.out 5).trans rfl
      refine bodyPost_ret (v := .tuple #[.agg #[.int .i64 0, .int .i64 0, .int .i64 0, .int .i64 0, .int .i64 0, .slice none 0 0], .int .i64 1]) (by simp [results, Tryz.results15, go_sem, r0, r1, r2, r3, r4, r5]) rfl ?_
      clear r0 r1 r2 r3 r4 r5
      exact ⟨.inl ⟨by rw [HE.out]; decide, by rw [HE.out]; rfl⟩, (HB2.out.trans HBA.out).trans (grown_below HG9.out (Nat.le_trans HB2.out.size HBA.out.size) (fun g e => by have h1 := Option.some.inj e; omega))⟩
    · cases v2
      · have HE := hide (show E.errE f l h p = 1 from HE.out.trans (if_neg (by simp)))
        go_enter Tryz.func15, Tryz.ntmps15
        go_wp2_with (first | (go_at_call 32; refine (open_any f A n c l _ HN.out ((HR.out.below (by (repeat' first | exact zbR _ _ | assumption | refine zbD ?_ | refine zbA ?_ ?_ _ | refine zbS ?_ ?_ _ | refine zbT ?_ (by assumption) ?_ | (simp; done) | (simp; omega) | omega))).mono (by simp; omega)) HID.out HM.out).mono ?_; rintro e w2 hd2; have hb2 := hd2.2; have HB2 := hide (zbT (show Below w.heap.size w ((w.alloc (.cells #[.int .i64 f.places, .int .i64 f.wilds, .int .i64 f.guards, .int .i64 f.close, .int .i64 f.freeze] 23)).alloc (.cells #[.int .i64 0, .int .i64 0, .int .i64 0, .int .i64 0, .int .i64 0, .slice none 0 0] 43)) by (repeat' first | exact zbR _ _ | assumption | refine zbD ?_ | refine zbA ?_ ?_ _ | refine zbS ?_ ?_ _ | refine zbT ?_ (by assumption) ?_ | (simp; done) | (simp; omega) | omega)) hb2 (by simp; omega)); have HQ2 := hide ((hb2.block (w.heap.size + 1) (by simp)).trans (show ((w.alloc (.cells #[.int .i64 f.places, .int .i64 f.wilds, .int .i64 f.guards, .int .i64 f.close, .int .i64 f.freeze] 23)).alloc (.cells #[.int .i64 0, .int .i64 0, .int .i64 0, .int .i64 0, .int .i64 0, .slice none 0 0] 43)).heap[w.heap.size + 1]? = some (.cells #[.int .i64 0, .int .i64 0, .int .i64 0, .int .i64 0, .int .i64 0, .slice none 0 0] 43 (0, 0)) from (congrArg _ (by simp)).trans (World.alloc_heap_new _ _))); obtain ⟨(⟨h0, _⟩ | ⟨_, d, A3, c3, hdf, rfl, ho3⟩), _⟩ := hd2; (exact absurd HC.out h0); have HDF := hide hdf; have HO3 := hide (owns_mono ho3 (show w.heap.size ≤ _ by simp; omega)); unfold bookVal; clear hb2 hdf ho3) | (go_at_call 33; with_reducible refine (within_any h 0 9999 _).mono ?_; rintro e w' ⟨rfl, rfl⟩; rw [HV1.out]) | (go_at_call 33; with_reducible refine (within_any p 0 999 _).mono ?_; rintro e w' ⟨rfl, rfl⟩; rw [HV2.out]) | (refine wpList_store_row rfl 43 _ _ rfl (w.heap.size + 1) _ rfl rfl 43 _ ((Below.heap_alloc w2 _ _ (blk_lt HQ2.out)).trans HQ2.out) bookRow rfl (by simp [Value.oneCell']) ?_))
        have HQ3 := hide (show (w2.alloc (.cells #[.int .i64 f.places, .int .i64 f.wilds, .int .i64 f.guards, .int .i64 f.close, .int .i64 f.freeze, .slice A3 d.length c3] 43)).heap[w.heap.size + 1]? = some (.cells #[.int .i64 0, .int .i64 0, .int .i64 0, .int .i64 0, .int .i64 0, .slice none 0 0] 43 (0, 0)) from ((Below.heap_alloc w2 _ _ (blk_lt HQ2.out)).trans HQ2.out))
        have HBA := hide (zbA (zbR w.heap.size w2) HB2.out.size (.cells #[.int .i64 f.places, .int .i64 f.wilds, .int .i64 f.guards, .int .i64 f.close, .int .i64 f.freeze, .slice A3 d.length c3] 43))
        obtain ⟨W9, hW9⟩ : ∃ W9, (w2.alloc (.cells #[.int .i64 f.places, .int .i64 f.wilds, .int .i64 f.guards, .int .i64 f.close, .int .i64 f.freeze, .slice A3 d.length c3] 43)).setRow (w.heap.size + 1) #[.int .i64 0, .int .i64 0, .int .i64 0, .int .i64 0, .int .i64 0, .slice none 0 0] = W9 := ⟨_, rfl⟩
        have HR9 := hide (show W9.heap[w.heap.size + 1]? = some (.cells #[.int .i64 0, .int .i64 0, .int .i64 0, .int .i64 0, .int .i64 0, .slice none 0 0] 43 (0, 0)) by rw [← hW9]; exact setRow_heap1 HQ3.out)
        have HG9 := hide (show (w2.alloc (.cells #[.int .i64 f.places, .int .i64 f.wilds, .int .i64 f.guards, .int .i64 f.close, .int .i64 f.freeze, .slice A3 d.length c3] 43)).grownBy W9 (some (w.heap.size + 1)) by rw [← hW9]; exact setRow_grown _ _ _)
        rw [hW9]
        clear hW9
        have r0 : W9.cell? ⟨w.heap.size + 1, 0, none⟩ = some (.int .i64 0) := (blk_cell HR9.out 0).trans rfl
        have r1 : W9.cell? ⟨w.heap.size + 1, 1, none⟩ = some (.int .i64 0) := (blk_cell HR9.out 1).trans rfl
        have r2 : W9.cell? ⟨w.heap.size + 1, 2, none⟩ = some (.int .i64 0) := (blk_cell HR9.out 2).trans rfl
        have r3 : W9.cell? ⟨w.heap.size + 1, 3, none⟩ = some (.int .i64 0) := (blk_cell HR9.out 3).trans rfl
        have r4 : W9.cell? ⟨w.heap.size + 1, 4, none⟩ = some (.int .i64 0) := (blk_cell HR9.out 4).trans rfl
        have r5 : W9.cell? ⟨w.heap.size + 1, 5, none⟩ = some (.slice none 0 0) := (blk_cell HR9.out 5).trans rfl
        refine bodyPost_ret (v := .tuple #[.agg #[.int .i64 0, .int .i64 0, .int .i64 0, .int .i64 0, .int .i64 0, .slice none 0 0], .int .i64 1]) (by simp [results, Tryz.results15, go_sem, r0, r1, r2, r3, r4, r5]) rfl ?_
        clear r0 r1 r2 r3 r4 r5
        exact ⟨.inl ⟨by rw [HE.out]; decide, by rw [HE.out]; rfl⟩, (HB2.out.trans HBA.out).trans (grown_below HG9.out (Nat.le_trans HB2.out.size HBA.out.size) (fun g e => by have h1 := Option.some.inj e; omega))⟩
      · have HE := hide (show E.errE f l h p = 0 from HE.out.trans (if_pos (by simp)))
        go_enter Tryz.func15, Tryz.ntmps15
        go_wp2_with (first | (go_at_call 32; refine (open_any f A n c l _ HN.out ((HR.out.below (by (repeat' first | exact zbR _ _ | assumption | refine zbD ?_ | refine zbA ?_ ?_ _ | refine zbS ?_ ?_ _ | refine zbT ?_ (by assumption) ?_ | (simp; done) | (simp; omega) | omega))).mono (by simp; omega)) HID.out HM.out).mono ?_; rintro e w2 hd2; have hb2 := hd2.2; have HB2 := hide (zbT (show Below w.heap.size w ((w.alloc (.cells #[.int .i64 f.places, .int .i64 f.wilds, .int .i64 f.guards, .int .i64 f.close, .int .i64 f.freeze] 23)).alloc (.cells #[.int .i64 0, .int .i64 0, .int .i64 0, .int .i64 0, .int .i64 0, .slice none 0 0] 43)) by (repeat' first | exact zbR _ _ | assumption | refine zbD ?_ | refine zbA ?_ ?_ _ | refine zbS ?_ ?_ _ | refine zbT ?_ (by assumption) ?_ | (simp; done) | (simp; omega) | omega)) hb2 (by simp; omega)); have HQ2 := hide ((hb2.block (w.heap.size + 1) (by simp)).trans (show ((w.alloc (.cells #[.int .i64 f.places, .int .i64 f.wilds, .int .i64 f.guards, .int .i64 f.close, .int .i64 f.freeze] 23)).alloc (.cells #[.int .i64 0, .int .i64 0, .int .i64 0, .int .i64 0, .int .i64 0, .slice none 0 0] 43)).heap[w.heap.size + 1]? = some (.cells #[.int .i64 0, .int .i64 0, .int .i64 0, .int .i64 0, .int .i64 0, .slice none 0 0] 43 (0, 0)) from (congrArg _ (by simp)).trans (World.alloc_heap_new _ _))); obtain ⟨(⟨h0, _⟩ | ⟨_, d, A3, c3, hdf, rfl, ho3⟩), _⟩ := hd2; (exact absurd HC.out h0); have HDF := hide hdf; have HO3 := hide (owns_mono ho3 (show w.heap.size ≤ _ by simp; omega)); unfold bookVal; clear hb2 hdf ho3) | (go_at_call 33; with_reducible refine (within_any h 0 9999 _).mono ?_; rintro e w' ⟨rfl, rfl⟩; rw [HV1.out]) | (go_at_call 33; with_reducible refine (within_any p 0 999 _).mono ?_; rintro e w' ⟨rfl, rfl⟩; rw [HV2.out]) | (refine wpList_store_row rfl 43 _ _ rfl (w.heap.size + 1) _ rfl rfl 43 _ ((Below.heap_alloc w2 _ _ (blk_lt HQ2.out)).trans HQ2.out) bookRow rfl (by simp [Value.oneCell']) ?_))
        have HQ3 := hide (show (w2.alloc (.cells #[.int .i64 f.places, .int .i64 f.wilds, .int .i64 f.guards, .int .i64 f.close, .int .i64 f.freeze, .slice A3 d.length c3] 43)).heap[w.heap.size + 1]? = some (.cells #[.int .i64 0, .int .i64 0, .int .i64 0, .int .i64 0, .int .i64 0, .slice none 0 0] 43 (0, 0)) from ((Below.heap_alloc w2 _ _ (blk_lt HQ2.out)).trans HQ2.out))
        have HBA := hide (zbA (zbR w.heap.size w2) HB2.out.size (.cells #[.int .i64 f.places, .int .i64 f.wilds, .int .i64 f.guards, .int .i64 f.close, .int .i64 f.freeze, .slice A3 d.length c3] 43))
        obtain ⟨W9, hW9⟩ : ∃ W9, (w2.alloc (.cells #[.int .i64 f.places, .int .i64 f.wilds, .int .i64 f.guards, .int .i64 f.close, .int .i64 f.freeze, .slice A3 d.length c3] 43)).setRow (w.heap.size + 1) #[.int .i64 f.places, .int .i64 f.wilds, .int .i64 f.guards, .int .i64 f.close, .int .i64 f.freeze, .slice A3 d.length c3] = W9 := ⟨_, rfl⟩
        have HR9 := hide (show W9.heap[w.heap.size + 1]? = some (.cells #[.int .i64 f.places, .int .i64 f.wilds, .int .i64 f.guards, .int .i64 f.close, .int .i64 f.freeze, .slice A3 d.length c3] 43 (0, 0)) by rw [← hW9]; exact setRow_heap1 HQ3.out)
        have HG9 := hide (show (w2.alloc (.cells #[.int .i64 f.places, .int .i64 f.wilds, .int .i64 f.guards, .int .i64 f.close, .int .i64 f.freeze, .slice A3 d.length c3] 43)).grownBy W9 (some (w.heap.size + 1)) by rw [← hW9]; exact setRow_grown _ _ _)
        rw [hW9]
        clear hW9
        have r0 : W9.cell? ⟨w.heap.size + 1, 0, none⟩ = some (.int .i64 f.places) := (blk_cell HR9.out 0).trans rfl
        have r1 : W9.cell? ⟨w.heap.size + 1, 1, none⟩ = some (.int .i64 f.wilds) := (blk_cell HR9.out 1).trans rfl
        have r2 : W9.cell? ⟨w.heap.size + 1, 2, none⟩ = some (.int .i64 f.guards) := (blk_cell HR9.out 2).trans rfl
        have r3 : W9.cell? ⟨w.heap.size + 1, 3, none⟩ = some (.int .i64 f.close) := (blk_cell HR9.out 3).trans rfl
        have r4 : W9.cell? ⟨w.heap.size + 1, 4, none⟩ = some (.int .i64 f.freeze) := (blk_cell HR9.out 4).trans rfl
        have r5 : W9.cell? ⟨w.heap.size + 1, 5, none⟩ = some (.slice A3 d.length c3) := (blk_cell HR9.out 5).trans rfl
        refine bodyPost_ret (v := .tuple #[.agg #[.int .i64 f.places, .int .i64 f.wilds, .int .i64 f.guards, .int .i64 f.close, .int .i64 f.freeze, .slice A3 d.length c3], .int .i64 0]) (by simp [results, Tryz.results15, go_sem, r0, r1, r2, r3, r4, r5]) rfl ?_
        clear r0 r1 r2 r3 r4 r5
        exact ⟨.inr ⟨HE.out, d, A3, c3, HDF.out, rfl, (HO3.out.kept (World.grownBy_alloc _ _ none) (Classical.em _)).kept HG9.out (.inr (row_ne (HO3.out.kept (World.grownBy_alloc _ _ none) (Classical.em _)) HQ3.out (by decide)))⟩, (HB2.out.trans HBA.out).trans (grown_below HG9.out (Nat.le_trans HB2.out.size HBA.out.size) (fun g e => by have h1 := Option.some.inj e; omega))⟩
  · obtain ⟨en, hen⟩ : ∃ en, E.checkE f l = en := ⟨_, rfl⟩
    have HC := hide h0
    have HC2 := hide hen
    have HN0 := hide (show en ≠ 0 by rw [← hen]; exact h0)
    have HE := hide (show E.errE f l h p = en by unfold E.errE; rw [if_pos h0]; exact hen)
    have hb : (en != 0) = true := by rw [← hen]; simpa using h0
    clear h0 hen
    go_enter Tryz.func15, Tryz.ntmps15
    go_wp2_with (first | (go_at_call 32; refine (open_any f A n c l _ HN.out ((HR.out.below (by (repeat' first | exact zbR _ _ | assumption | refine zbD ?_ | refine zbA ?_ ?_ _ | refine zbS ?_ ?_ _ | refine zbT ?_ (by assumption) ?_ | (simp; done) | (simp; omega) | omega))).mono (by simp; omega)) HID.out HM.out).mono ?_; rintro e w2 hd2; have hb2 := hd2.2; have HB2 := hide (zbT (show Below w.heap.size w ((w.alloc (.cells #[.int .i64 f.places, .int .i64 f.wilds, .int .i64 f.guards, .int .i64 f.close, .int .i64 f.freeze] 23)).alloc (.cells #[.int .i64 0, .int .i64 0, .int .i64 0, .int .i64 0, .int .i64 0, .slice none 0 0] 43)) by (repeat' first | exact zbR _ _ | assumption | refine zbD ?_ | refine zbA ?_ ?_ _ | refine zbS ?_ ?_ _ | refine zbT ?_ (by assumption) ?_ | (simp; done) | (simp; omega) | omega)) hb2 (by simp; omega)); have HQ2 := hide ((hb2.block (w.heap.size + 1) (by simp)).trans (show ((w.alloc (.cells #[.int .i64 f.places, .int .i64 f.wilds, .int .i64 f.guards, .int .i64 f.close, .int .i64 f.freeze] 23)).alloc (.cells #[.int .i64 0, .int .i64 0, .int .i64 0, .int .i64 0, .int .i64 0, .slice none 0 0] 43)).heap[w.heap.size + 1]? = some (.cells #[.int .i64 0, .int .i64 0, .int .i64 0, .int .i64 0, .int .i64 0, .slice none 0 0] 43 (0, 0)) from (congrArg _ (by simp)).trans (World.alloc_heap_new _ _))); obtain ⟨(⟨_, rfl⟩ | ⟨h0, _⟩), _⟩ := hd2; rotate_left; (exact absurd h0 HC.out); rw [HC2.out]; unfold noBook; clear hb2) | (refine wpList_store_row rfl 43 _ _ rfl (w.heap.size + 1) _ rfl rfl 43 _ ((Below.heap_alloc w2 _ _ (blk_lt HQ2.out)).trans HQ2.out) bookRow rfl (by simp [Value.oneCell']) ?_))
    have HQ3 := hide (show (w2.alloc (.cells #[.int .i64 0, .int .i64 0, .int .i64 0, .int .i64 0, .int .i64 0, .slice none 0 0] 43)).heap[w.heap.size + 1]? = some (.cells #[.int .i64 0, .int .i64 0, .int .i64 0, .int .i64 0, .int .i64 0, .slice none 0 0] 43 (0, 0)) from ((Below.heap_alloc w2 _ _ (blk_lt HQ2.out)).trans HQ2.out))
    have HBA := hide (zbA (zbR w.heap.size w2) HB2.out.size (.cells #[.int .i64 0, .int .i64 0, .int .i64 0, .int .i64 0, .int .i64 0, .slice none 0 0] 43))
    obtain ⟨W9, hW9⟩ : ∃ W9, (w2.alloc (.cells #[.int .i64 0, .int .i64 0, .int .i64 0, .int .i64 0, .int .i64 0, .slice none 0 0] 43)).setRow (w.heap.size + 1) #[.int .i64 0, .int .i64 0, .int .i64 0, .int .i64 0, .int .i64 0, .slice none 0 0] = W9 := ⟨_, rfl⟩
    have HR9 := hide (show W9.heap[w.heap.size + 1]? = some (.cells #[.int .i64 0, .int .i64 0, .int .i64 0, .int .i64 0, .int .i64 0, .slice none 0 0] 43 (0, 0)) by rw [← hW9]; exact setRow_heap1 HQ3.out)
    have HG9 := hide (show (w2.alloc (.cells #[.int .i64 0, .int .i64 0, .int .i64 0, .int .i64 0, .int .i64 0, .slice none 0 0] 43)).grownBy W9 (some (w.heap.size + 1)) by rw [← hW9]; exact setRow_grown _ _ _)
    rw [hW9]
    clear hW9
    have r0 : W9.cell? ⟨w.heap.size + 1, 0, none⟩ = some (.int .i64 0) := (blk_cell HR9.out 0).trans rfl
    have r1 : W9.cell? ⟨w.heap.size + 1, 1, none⟩ = some (.int .i64 0) := (blk_cell HR9.out 1).trans rfl
    have r2 : W9.cell? ⟨w.heap.size + 1, 2, none⟩ = some (.int .i64 0) := (blk_cell HR9.out 2).trans rfl
    have r3 : W9.cell? ⟨w.heap.size + 1, 3, none⟩ = some (.int .i64 0) := (blk_cell HR9.out 3).trans rfl
    have r4 : W9.cell? ⟨w.heap.size + 1, 4, none⟩ = some (.int .i64 0) := (blk_cell HR9.out 4).trans rfl
    have r5 : W9.cell? ⟨w.heap.size + 1, 5, none⟩ = some (.slice none 0 0) := (blk_cell HR9.out 5).trans rfl
    refine bodyPost_ret (v := .tuple #[.agg #[.int .i64 0, .int .i64 0, .int .i64 0, .int .i64 0, .int .i64 0, .slice none 0 0], .int .i64 en]) (by simp [results, Tryz.results15, go_sem, r0, r1, r2, r3, r4, r5]) rfl ?_
    clear r0 r1 r2 r3 r4 r5
    exact ⟨.inl ⟨by rw [HE.out]; exact HN0.out, by rw [HE.out]; rfl⟩, (HB2.out.trans HBA.out).trans (grown_below HG9.out (Nat.le_trans HB2.out.size HBA.out.size) (fun g e => by have h1 := Option.some.inj e; omega))⟩


end Go.Proofs.YtobjahlmjcnfoaaGreat

namespace Go.Proofs.YtobjahlmjcnfoaaGreat
open Go.RowKit
attribute [local go_sem ↓] Go.wp_at_zero Go.wp_at_succ

namespace E
theorem diff_len : ∀ (l acc d : List Nt), diff acc l = some d → d.length ≤ acc.length + l.length
  | [], acc, d, h => by
    have : acc = d := Option.some.inj h
    subst this
    simp
  | x :: r, acc, d, h => by
    unfold diff at h
    split at h
    · cases h
    · split at h
      · split at h
        · have := diff_len r acc d h
          simp only [List.length_cons]; omega
        · cases h
      · have := diff_len r (acc ++ [x]) d h
        rw [List.length_append] at this
        simp only [List.length_cons, List.length_singleton, List.length_nil] at this ⊢; omega
theorem diffs_len {l d : List Nt} (h : diffs l = some d) : d.length ≤ 60 := by
  have h0 := (diffs_spec h).1
  unfold diffs at h
  rw [if_neg (by omega)] at h
  cases hd : diff [] l with
  | none => rw [hd] at h; cases h
  | some d0 =>
    rw [hd] at h
    have e : d0.mergeSort leN = d := Option.some.inj h
    have h1 := diff_len l [] d0 hd
    rw [← e, List.length_mergeSort]
    simp at h1
    omega
theorem errE_ok {f : Fd} {l : List Nt} {h p : Int} (he : errE f l h p = 0) : checkE f l = 0 ∧ validField f = true ∧ (0 ≤ h ∧ h ≤ 9999) ∧ (0 ≤ p ∧ p ≤ 999) := by
  unfold errE at he
  split at he
  · rename_i h1; exact absurd he h1
  · rename_i h1
    have h1' : checkE f l = 0 := Decidable.not_not.1 h1
    split at he
    · rename_i h2
      refine ⟨h1', ?_, ?_, ?_⟩
      · unfold checkE at h1'
        cases hv : validField f with
        | true => rfl
        | false => rw [hv] at h1'; cases h1'
      · have := h2.1; unfold within at this; simpa using this
      · have := h2.2; unfold within at this; simpa using this
    · cases he
theorem valid_places {f : Fd} (h : validField f = true) : 1 ≤ f.places ∧ f.places ≤ 32 := by
  unfold validField within at h
  simp only [Bool.and_eq_true, decide_eq_true_eq] at h
  exact h.1.1.1.1
end E
theorem entRow4 : (Tryz.prog.info? 38).map (·.size) = some 4 := by kernel_rfl
def noEnt : Value := .agg #[.slice none 0 0, .slice none 0 0, .slice none 0 0, .int .i64 0]
def ListPost (f : E.Fd) (l : List E.Nt) (h : Int) (w : World) (e : Ending) (w' : World) : Prop := ((E.errE f l h 0 ≠ 0 ∧ e = .returned (.tuple #[noEnt, .int .i64 (E.errE f l h 0)])) ∨ (E.errE f l h 0 = 0 ∧ ∃ d A1 c1 A2 c2 A3 c3, E.diffs l = some d ∧ e = .returned (.tuple #[.agg #[.slice A1 (E.atL f h d).main.length c1, .slice A2 (E.atL f h d).cards.length c2, .slice A3 (E.atL f h d).alts.length c3, .int .i64 ((E.atL f h d).f.places - ((E.atL f h d).main.length : Int))], .int .i64 0]) ∧ w'.ownsRow w.heap.size 3 1 (.slice A1 (E.atL f h d).main.length c1) (E.atL f h d).main.length (flatI (E.atL f h d).main) ∧ w'.ownsRow w.heap.size 3 1 (.slice A2 (E.atL f h d).cards.length c2) (E.atL f h d).cards.length (flatI (E.atL f h d).cards) ∧ w'.ownsRow w.heap.size 3 1 (.slice A3 (E.atL f h d).alts.length c3) (E.atL f h d).alts.length (flatI (E.atL f h d).alts))) ∧ Below w.heap.size w w'

set_option maxHeartbeats 6400000 in
set_option maxRecDepth 100000 in
theorem List_any (f : E.Fd) (A : Option Addr) (n c : Nat) (l : List E.Nt) (h : Int) (w : World) (hn : l.length = n) (hr : RdN w w.heap.size A l) (hid : ∀ x ∈ l, (Lit.int .i64 x.id).wf = true) (hm : n ≤ 1000000) :
    Calls Tryz.prog 13 #[.agg #[.int .i64 f.places, .int .i64 f.wilds, .int .i64 f.guards, .int .i64 f.close, .int .i64 f.freeze], .slice A n c, .int .i64 h] w (ListPost f l h w) := by
  have HN := hide hn
  have HR := hide hr
  have HID := hide hid
  have HM := hide hm
  clear hn hr hid hm
  by_cases h0 : E.errE f l h 0 = 0
  · have HC := hide h0
    have HPB := hide (show 0 ≤ f.places ∧ f.places ≤ 32 from ⟨by have := (E.valid_places (E.errE_ok h0).2.1).1; omega, (E.valid_places (E.errE_ok h0).2.1).2⟩)
    clear h0
    go_enter Tryz.func13, Tryz.ntmps13
    go_wp2_with (first | (go_at_call 15; refine (openFor_any f A n c l h 0 _ HN.out ((HR.out.below (by (repeat' first | exact zbR _ _ | assumption | refine zbD ?_ | refine zbA ?_ ?_ _ | refine zbS ?_ ?_ _ | refine zbT ?_ (by assumption) ?_ | (simp; done) | (simp; omega) | omega))).mono (by first | (simp; done) | (simp; omega))) HID.out HM.out).mono ?_; rintro e w2 hd2; have hb2 := hd2.2; have HB2 := hide (zbT (show Below w.heap.size w ((w.alloc (.cells #[.int .i64 f.places, .int .i64 f.wilds, .int .i64 f.guards, .int .i64 f.close, .int .i64 f.freeze] 23)).alloc (.cells #[.slice none 0 0, .slice none 0 0, .slice none 0 0, .int .i64 0] 38)) by (repeat' first | exact zbR _ _ | assumption | refine zbD ?_ | refine zbA ?_ ?_ _ | refine zbS ?_ ?_ _ | refine zbT ?_ (by assumption) ?_ | (simp; done) | (simp; omega) | omega)) hb2 (by first | (simp; done) | (simp; omega))); have HQ2 := hide ((hb2.block (w.heap.size + 1) (by simp)).trans (show ((w.alloc (.cells #[.int .i64 f.places, .int .i64 f.wilds, .int .i64 f.guards, .int .i64 f.close, .int .i64 f.freeze] 23)).alloc (.cells #[.slice none 0 0, .slice none 0 0, .slice none 0 0, .int .i64 0] 38)).heap[w.heap.size + 1]? = some (.cells #[.slice none 0 0, .slice none 0 0, .slice none 0 0, .int .i64 0] 38 (0, 0)) from (congrArg _ (by simp)).trans (World.alloc_heap_new _ _))); obtain ⟨(⟨h0, _⟩ | ⟨_, d, A3, c3, hdf, rfl, ho3⟩), _⟩ := hd2; (exact absurd HC.out h0); unfold bookVal; have HDF := hide hdf; have HO3 := hide (owns_mono ho3 (show w.heap.size ≤ _ by first | (simp; done) | (simp; omega))); have HDL := hide (E.diffs_len hdf); have HPL := hide (show ∀ x ∈ d, 0 ≤ x.player ∧ x.player ≤ 999 from fun x hx => E.valid_player ((E.diffs_spec hdf).2.1.valid x hx)); clear hb2 hdf ho3) | (go_at_call 16; refine (at_any f A3 d.length c3 d h (w2.alloc (.cells #[.int .i64 f.places, .int .i64 f.wilds, .int .i64 f.guards, .int .i64 f.close, .int .i64 f.freeze, .slice A3 d.length c3] 43)) HPB.out.1 HPB.out.2 rfl (owns_RdN (HO3.out.kept (World.grownBy_alloc _ _ none) (Classical.em _)) rfl) HDL.out HPL.out).mono ?_; rintro e w4 ⟨L, B, mv, cv, rfl, hl4, hb4⟩; have HL4 := hide hl4; have HB4 := hide (zbT (HB2.out.trans (zbA (zbR w.heap.size w2) HB2.out.size (.cells #[.int .i64 f.places, .int .i64 f.wilds, .int .i64 f.guards, .int .i64 f.close, .int .i64 f.freeze, .slice A3 d.length c3] 43))) hb4 (by have := HB2.out.size; simp; omega)); have HQ4 := hide ((hb4.block (w.heap.size + 1) (by have := blk_lt HQ2.out; simp; omega)).trans ((Below.heap_alloc w2 _ _ (blk_lt HQ2.out)).trans HQ2.out)); clear hl4 hb4) | (go_at_call 31; obtain ⟨⟨n4, hn4, hla4⟩, hok4, hbd4⟩ := HL4.out; refine (entries_any _ L B n4 (E.atL f h d) mv cv w4 hla4 hok4 (by have := HDL.out; omega) (by have := hbd4.main; have := HDL.out; omega) (by have := hbd4.cards; have := HDL.out; omega) hbd4.places0 (by have := hbd4.places; have := HDL.out; omega)).mono ?_; rintro e w5 ⟨E1, e1, E2, e2, E3, e3, rfl, ho1, ho2, ho3, hb5, -⟩; have HB5 := hide (zbT HB4.out hb5 HB4.out.size); have HQ5 := hide ((hb5.block _ (blk_lt HQ4.out)).trans HQ4.out); have HE1 := hide (owns_mono ho1 HB4.out.size); have HE2 := hide (owns_mono ho2 HB4.out.size); have HE3 := hide (owns_mono ho3 HB4.out.size); clear ho1 ho2 ho3 hb5 hla4 hok4 hbd4) | (refine wpList_store_row rfl 38 _ _ rfl (w.heap.size + 1) _ rfl rfl 38 _ HQ5.out entRow4 rfl (by simp [Value.oneCell']) ?_))
    obtain ⟨W9, hW9⟩ : ∃ W9, (w5).setRow (w.heap.size + 1) #[.slice E1 (E.atL f h d).main.length e1, .slice E2 (E.atL f h d).cards.length e2, .slice E3 (E.atL f h d).alts.length e3, .int .i64 ((E.atL f h d).f.places - ((E.atL f h d).main.length : Int))] = W9 := ⟨_, rfl⟩
    have HR9 := hide (show W9.heap[w.heap.size + 1]? = some (.cells #[.slice E1 (E.atL f h d).main.length e1, .slice E2 (E.atL f h d).cards.length e2, .slice E3 (E.atL f h d).alts.length e3, .int .i64 ((E.atL f h d).f.places - ((E.atL f h d).main.length : Int))] 38 (0, 0)) by rw [← hW9]; exact setRow_heap1 HQ5.out)
    have HG9 := hide (show (w5).grownBy W9 (some (w.heap.size + 1)) by rw [← hW9]; exact setRow_grown _ _ _)
    rw [hW9]
    clear hW9
    have r0 : W9.cell? ⟨w.heap.size + 1, 0, none⟩ = some (.slice E1 (E.atL f h d).main.length e1) := (blk_cell HR9.out 0).trans rfl
    have r1 : W9.cell? ⟨w.heap.size + 1, 1, none⟩ = some (.slice E2 (E.atL f h d).cards.length e2) := (blk_cell HR9.out 1).trans rfl
    have r2 : W9.cell? ⟨w.heap.size + 1, 2, none⟩ = some (.slice E3 (E.atL f h d).alts.length e3) := (blk_cell HR9.out 2).trans rfl
    have r3 : W9.cell? ⟨w.heap.size + 1, 3, none⟩ = some (.int .i64 ((E.atL f h d).f.places - ((E.atL f h d).main.length : Int))) := (blk_cell HR9.out 3).trans rfl
    refine bodyPost_ret (v := .tuple #[.agg #[.slice E1 (E.atL f h d).main.length e1, .slice E2 (E.atL f h d).cards.length e2, .slice E3 (E.atL f h d).alts.length e3, .int .i64 ((E.atL f h d).f.places - ((E.atL f h d).main.length : Int))], .int .i64 0]) (by simp [results, Tryz.results13, go_sem, r0, r1, r2, r3]) rfl ?_
    clear r0 r1 r2 r3
    exact ⟨.inr ⟨HC.out, d, E1, e1, E2, e2, E3, e3, HDF.out, rfl, HE1.out.kept HG9.out (.inr (row_ne HE1.out HQ5.out (by decide))), HE2.out.kept HG9.out (.inr (row_ne HE2.out HQ5.out (by decide))), HE3.out.kept HG9.out (.inr (row_ne HE3.out HQ5.out (by decide)))⟩, HB5.out.trans (grown_below HG9.out HB5.out.size (fun g e => by have h1 := Option.some.inj e; omega))⟩
  · obtain ⟨en, hen⟩ : ∃ en, E.errE f l h 0 = en := ⟨_, rfl⟩
    have HC := hide h0
    have HC2 := hide hen
    have HE := HC2
    have HN0 := hide (show en ≠ 0 by rw [← hen]; exact h0)
    have hb : (en != 0) = true := by rw [← hen]; simpa using h0
    clear h0 hen
    go_enter Tryz.func13, Tryz.ntmps13
    go_wp2_with (first | (go_at_call 15; refine (openFor_any f A n c l h 0 _ HN.out ((HR.out.below (by (repeat' first | exact zbR _ _ | assumption | refine zbD ?_ | refine zbA ?_ ?_ _ | refine zbS ?_ ?_ _ | refine zbT ?_ (by assumption) ?_ | (simp; done) | (simp; omega) | omega))).mono (by first | (simp; done) | (simp; omega))) HID.out HM.out).mono ?_; rintro e w2 hd2; have hb2 := hd2.2; have HB2 := hide (zbT (show Below w.heap.size w ((w.alloc (.cells #[.int .i64 f.places, .int .i64 f.wilds, .int .i64 f.guards, .int .i64 f.close, .int .i64 f.freeze] 23)).alloc (.cells #[.slice none 0 0, .slice none 0 0, .slice none 0 0, .int .i64 0] 38)) by (repeat' first | exact zbR _ _ | assumption | refine zbD ?_ | refine zbA ?_ ?_ _ | refine zbS ?_ ?_ _ | refine zbT ?_ (by assumption) ?_ | (simp; done) | (simp; omega) | omega)) hb2 (by first | (simp; done) | (simp; omega))); have HQ2 := hide ((hb2.block (w.heap.size + 1) (by simp)).trans (show ((w.alloc (.cells #[.int .i64 f.places, .int .i64 f.wilds, .int .i64 f.guards, .int .i64 f.close, .int .i64 f.freeze] 23)).alloc (.cells #[.slice none 0 0, .slice none 0 0, .slice none 0 0, .int .i64 0] 38)).heap[w.heap.size + 1]? = some (.cells #[.slice none 0 0, .slice none 0 0, .slice none 0 0, .int .i64 0] 38 (0, 0)) from (congrArg _ (by simp)).trans (World.alloc_heap_new _ _))); obtain ⟨(⟨_, rfl⟩ | ⟨h0, _⟩), _⟩ := hd2; rotate_left; (exact absurd h0 HC.out); rw [HC2.out]; unfold noBook; clear hb2) | (refine wpList_store_row rfl 38 _ _ rfl (w.heap.size + 1) _ rfl rfl 38 _ ((Below.heap_alloc w2 _ _ (blk_lt HQ2.out)).trans HQ2.out) entRow4 rfl (by simp [Value.oneCell']) ?_))
    obtain ⟨W9, hW9⟩ : ∃ W9, (w2.alloc (.cells #[.int .i64 0, .int .i64 0, .int .i64 0, .int .i64 0, .int .i64 0, .slice none 0 0] 43)).setRow (w.heap.size + 1) #[.slice none 0 0, .slice none 0 0, .slice none 0 0, .int .i64 0] = W9 := ⟨_, rfl⟩
    have HR9 := hide (show W9.heap[w.heap.size + 1]? = some (.cells #[.slice none 0 0, .slice none 0 0, .slice none 0 0, .int .i64 0] 38 (0, 0)) by rw [← hW9]; exact setRow_heap1 ((Below.heap_alloc w2 _ _ (blk_lt HQ2.out)).trans HQ2.out))
    have HG9 := hide (show (w2.alloc (.cells #[.int .i64 0, .int .i64 0, .int .i64 0, .int .i64 0, .int .i64 0, .slice none 0 0] 43)).grownBy W9 (some (w.heap.size + 1)) by rw [← hW9]; exact setRow_grown _ _ _)
    rw [hW9]
    clear hW9
    have r0 : W9.cell? ⟨w.heap.size + 1, 0, none⟩ = some (.slice none 0 0) := (blk_cell HR9.out 0).trans rfl
    have r1 : W9.cell? ⟨w.heap.size + 1, 1, none⟩ = some (.slice none 0 0) := (blk_cell HR9.out 1).trans rfl
    have r2 : W9.cell? ⟨w.heap.size + 1, 2, none⟩ = some (.slice none 0 0) := (blk_cell HR9.out 2).trans rfl
    have r3 : W9.cell? ⟨w.heap.size + 1, 3, none⟩ = some (.int .i64 0) := (blk_cell HR9.out 3).trans rfl
    refine bodyPost_ret (v := .tuple #[.agg #[.slice none 0 0, .slice none 0 0, .slice none 0 0, .int .i64 0], .int .i64 en]) (by simp [results, Tryz.results13, go_sem, r0, r1, r2, r3]) rfl ?_
    clear r0 r1 r2 r3
    exact ⟨.inl ⟨by rw [HE.out]; exact HN0.out, by rw [HE.out]; rfl⟩, (HB2.out.trans (zbA (zbR w.heap.size w2) HB2.out.size _)).trans (grown_below HG9.out (by have := HB2.out.size; simp; omega) (fun g e => by have h1 := Option.some.inj e; omega))⟩


def standV (f : E.Fd) (l : List E.Nt) (h p : Int) : Int × Int := match E.diffs l with | some d => (E.atL f h d).where_ p | none => (0, 0)
def StandVal (f : E.Fd) (l : List E.Nt) (h p : Int) : Value := if E.errE f l h p = 0 then .tuple #[.int .i64 (standV f l h p).1, .int .i64 (standV f l h p).2, .int .i64 0] else .tuple #[.int .i64 0, .int .i64 0, .int .i64 (E.errE f l h p)]
def needsV (f : E.Fd) (l : List E.Nt) (h p : Int) : Option Int := match E.diffs l with | some d => E.St.needs h p 61 0 (E.atL f h d) | none => none
def NeedsPost (f : E.Fd) (l : List E.Nt) (h p : Int) : Value := if E.errE f l h p = 0 then (match needsV f l h p with | some q => .tuple #[.int .i64 q, .int .i64 0] | none => .tuple #[.int .i64 0, .int .i64 3]) else .tuple #[.int .i64 0, .int .i64 (E.errE f l h p)]
set_option maxHeartbeats 6400000 in
set_option maxRecDepth 100000 in
theorem Needs_any (f : E.Fd) (A : Option Addr) (n c : Nat) (l : List E.Nt) (h p : Int) (w : World) (hn : l.length = n) (hr : RdN w w.heap.size A l) (hid : ∀ x ∈ l, (Lit.int .i64 x.id).wf = true) (hm : n ≤ 1000000) :
    Calls Tryz.prog 8 #[.agg #[.int .i64 f.places, .int .i64 f.wilds, .int .i64 f.guards, .int .i64 f.close, .int .i64 f.freeze], .slice A n c, .int .i64 h, .int .i64 p] w fun e w' => e = .returned (NeedsPost f l h p) ∧ Below w.heap.size w w' := by
  have HN := hide hn
  have HR := hide hr
  have HID := hide hid
  have HM := hide hm
  clear hn hr hid hm
  by_cases h0 : E.errE f l h p = 0
  · have HC := hide h0
    have HPB := hide (show 0 ≤ f.places ∧ f.places ≤ 32 from ⟨by have := (E.valid_places (E.errE_ok h0).2.1).1; omega, (E.valid_places (E.errE_ok h0).2.1).2⟩)
    clear h0
    have HPR := hide (E.errE_ok HC.out).2.2.2
    cases hnv0 : needsV f l h p with
    | none =>
      have hnv : needsV f l h p = none := hnv0
      clear hnv0
      go_enter Tryz.func8, Tryz.ntmps8
      go_wp2_with (first | (go_at_call 15; refine (openFor_any f A n c l h p _ HN.out ((HR.out.below (by (repeat' first | exact zbR _ _ | assumption | refine zbD ?_ | refine zbA ?_ ?_ _ | refine zbS ?_ ?_ _ | refine zbT ?_ (by assumption) ?_ | (simp; done) | (simp; omega) | omega))).mono (by first | (simp; done) | (simp; omega))) HID.out HM.out).mono ?_; rintro e w2 hd2; have hb2 := hd2.2; have HB2 := hide (zbT (show Below w.heap.size w (w.alloc (.cells #[.int .i64 f.places, .int .i64 f.wilds, .int .i64 f.guards, .int .i64 f.close, .int .i64 f.freeze] 23)) by (repeat' first | exact zbR _ _ | assumption | refine zbD ?_ | refine zbA ?_ ?_ _ | refine zbS ?_ ?_ _ | refine zbT ?_ (by assumption) ?_ | (simp; done) | (simp; omega) | omega)) hb2 (by first | (simp; done) | (simp; omega)));  obtain ⟨(⟨h0, _⟩ | ⟨_, d, A3, c3, hdf, rfl, ho3⟩), _⟩ := hd2; (exact absurd HC.out h0); unfold bookVal; have HDF := hide hdf; have HO3 := hide (owns_mono ho3 (show w.heap.size ≤ _ by first | (simp; done) | (simp; omega))); have HDL := hide (E.diffs_len hdf); have HPL := hide (show ∀ x ∈ d, 0 ≤ x.player ∧ x.player ≤ 999 from fun x hx => E.valid_player ((E.diffs_spec hdf).2.1.valid x hx)); clear hb2 hdf ho3) | (go_at_call 16; refine (at_any f A3 d.length c3 d h (w2.alloc (.cells #[.int .i64 f.places, .int .i64 f.wilds, .int .i64 f.guards, .int .i64 f.close, .int .i64 f.freeze, .slice A3 d.length c3] 43)) HPB.out.1 HPB.out.2 rfl (owns_RdN (HO3.out.kept (World.grownBy_alloc _ _ none) (Classical.em _)) rfl) HDL.out HPL.out).mono ?_; rintro e w4 ⟨L, B, mv, cv, rfl, hl4, hb4⟩; have HL4 := hide hl4; have HB4 := hide (zbT (HB2.out.trans (zbA (zbR w.heap.size w2) HB2.out.size (.cells #[.int .i64 f.places, .int .i64 f.wilds, .int .i64 f.guards, .int .i64 f.close, .int .i64 f.freeze, .slice A3 d.length c3] 43))) hb4 (by have := HB2.out.size; simp; omega)); have HBS4 := hide (show (w2.alloc (.cells #[.int .i64 f.places, .int .i64 f.wilds, .int .i64 f.guards, .int .i64 f.close, .int .i64 f.freeze, .slice A3 d.length c3] 43)).heap.size ≤ w4.heap.size from hb4.size); have HBS0 := hide (show w.heap.size ≤ (w2.alloc (.cells #[.int .i64 f.places, .int .i64 f.wilds, .int .i64 f.guards, .int .i64 f.close, .int .i64 f.freeze, .slice A3 d.length c3] 43)).heap.size by have := HB2.out.size; simp; omega); clear hl4 hb4) | (go_at_call 22; refine (needs_any _ L B d.length (E.atL f h d) mv cv h p w4 HL4.out (by have := HDL.out; omega) HBS4.out HPR.out.1 HPR.out.2).mono ?_; rintro e w5 ⟨rfl, hb5⟩; have HB5 := hide (zbT HB4.out hb5 HBS0.out); have HNV := hide (show needsV f l h p = E.St.needs h p 61 0 (E.atL f h d) by unfold needsV; rw [HDF.out]); rw [← HNV.out, hnv]; unfold NeedsVal; clear hb5))
      refine bodyPost_ret (v := .tuple #[.int .i64 0, .int .i64 3]) (by simp [results, Tryz.results8, go_sem]) rfl ?_
      exact ⟨by unfold NeedsPost; rw [if_pos HC.out, hnv], HB5.out⟩
    | some z =>
      have hnv : needsV f l h p = some z := hnv0
      clear hnv0
      go_enter Tryz.func8, Tryz.ntmps8
      go_wp2_with (first | (go_at_call 15; refine (openFor_any f A n c l h p _ HN.out ((HR.out.below (by (repeat' first | exact zbR _ _ | assumption | refine zbD ?_ | refine zbA ?_ ?_ _ | refine zbS ?_ ?_ _ | refine zbT ?_ (by assumption) ?_ | (simp; done) | (simp; omega) | omega))).mono (by first | (simp; done) | (simp; omega))) HID.out HM.out).mono ?_; rintro e w2 hd2; have hb2 := hd2.2; have HB2 := hide (zbT (show Below w.heap.size w (w.alloc (.cells #[.int .i64 f.places, .int .i64 f.wilds, .int .i64 f.guards, .int .i64 f.close, .int .i64 f.freeze] 23)) by (repeat' first | exact zbR _ _ | assumption | refine zbD ?_ | refine zbA ?_ ?_ _ | refine zbS ?_ ?_ _ | refine zbT ?_ (by assumption) ?_ | (simp; done) | (simp; omega) | omega)) hb2 (by first | (simp; done) | (simp; omega)));  obtain ⟨(⟨h0, _⟩ | ⟨_, d, A3, c3, hdf, rfl, ho3⟩), _⟩ := hd2; (exact absurd HC.out h0); unfold bookVal; have HDF := hide hdf; have HO3 := hide (owns_mono ho3 (show w.heap.size ≤ _ by first | (simp; done) | (simp; omega))); have HDL := hide (E.diffs_len hdf); have HPL := hide (show ∀ x ∈ d, 0 ≤ x.player ∧ x.player ≤ 999 from fun x hx => E.valid_player ((E.diffs_spec hdf).2.1.valid x hx)); clear hb2 hdf ho3) | (go_at_call 16; refine (at_any f A3 d.length c3 d h (w2.alloc (.cells #[.int .i64 f.places, .int .i64 f.wilds, .int .i64 f.guards, .int .i64 f.close, .int .i64 f.freeze, .slice A3 d.length c3] 43)) HPB.out.1 HPB.out.2 rfl (owns_RdN (HO3.out.kept (World.grownBy_alloc _ _ none) (Classical.em _)) rfl) HDL.out HPL.out).mono ?_; rintro e w4 ⟨L, B, mv, cv, rfl, hl4, hb4⟩; have HL4 := hide hl4; have HB4 := hide (zbT (HB2.out.trans (zbA (zbR w.heap.size w2) HB2.out.size (.cells #[.int .i64 f.places, .int .i64 f.wilds, .int .i64 f.guards, .int .i64 f.close, .int .i64 f.freeze, .slice A3 d.length c3] 43))) hb4 (by have := HB2.out.size; simp; omega)); have HBS4 := hide (show (w2.alloc (.cells #[.int .i64 f.places, .int .i64 f.wilds, .int .i64 f.guards, .int .i64 f.close, .int .i64 f.freeze, .slice A3 d.length c3] 43)).heap.size ≤ w4.heap.size from hb4.size); have HBS0 := hide (show w.heap.size ≤ (w2.alloc (.cells #[.int .i64 f.places, .int .i64 f.wilds, .int .i64 f.guards, .int .i64 f.close, .int .i64 f.freeze, .slice A3 d.length c3] 43)).heap.size by have := HB2.out.size; simp; omega); clear hl4 hb4) | (go_at_call 22; refine (needs_any _ L B d.length (E.atL f h d) mv cv h p w4 HL4.out (by have := HDL.out; omega) HBS4.out HPR.out.1 HPR.out.2).mono ?_; rintro e w5 ⟨rfl, hb5⟩; have HB5 := hide (zbT HB4.out hb5 HBS0.out); have HNV := hide (show needsV f l h p = E.St.needs h p 61 0 (E.atL f h d) by unfold needsV; rw [HDF.out]); rw [← HNV.out, hnv]; unfold NeedsVal; clear hb5))
      refine bodyPost_ret (v := .tuple #[.int .i64 z, .int .i64 0]) (by simp [results, Tryz.results8, go_sem]) rfl ?_
      exact ⟨by unfold NeedsPost; rw [if_pos HC.out, hnv], HB5.out⟩
  · obtain ⟨en, hen⟩ : ∃ en, E.errE f l h p = en := ⟨_, rfl⟩
    have HC := hide h0
    have HC2 := hide hen
    have HE := HC2
    have HN0 := hide (show en ≠ 0 by rw [← hen]; exact h0)
    have hb : (en != 0) = true := by rw [← hen]; simpa using h0
    clear h0 hen
    go_enter Tryz.func8, Tryz.ntmps8
    go_wp2_with ((go_at_call 15; refine (openFor_any f A n c l h p _ HN.out ((HR.out.below (by (repeat' first | exact zbR _ _ | assumption | refine zbD ?_ | refine zbA ?_ ?_ _ | refine zbS ?_ ?_ _ | refine zbT ?_ (by assumption) ?_ | (simp; done) | (simp; omega) | omega))).mono (by first | (simp; done) | (simp; omega))) HID.out HM.out).mono ?_; rintro e w2 hd2; have hb2 := hd2.2; have HB2 := hide (zbT (show Below w.heap.size w (w.alloc (.cells #[.int .i64 f.places, .int .i64 f.wilds, .int .i64 f.guards, .int .i64 f.close, .int .i64 f.freeze] 23)) by (repeat' first | exact zbR _ _ | assumption | refine zbD ?_ | refine zbA ?_ ?_ _ | refine zbS ?_ ?_ _ | refine zbT ?_ (by assumption) ?_ | (simp; done) | (simp; omega) | omega)) hb2 (by first | (simp; done) | (simp; omega)));  obtain ⟨(⟨_, rfl⟩ | ⟨h0, _⟩), _⟩ := hd2; rotate_left; (exact absurd h0 HC.out); rw [HC2.out]; unfold noBook; clear hb2))
    refine bodyPost_ret (v := .tuple #[.int .i64 0, .int .i64 en]) (by simp [results, Tryz.results8, go_sem]) rfl ?_
    exact ⟨by unfold NeedsPost; rw [if_neg HC.out, HE.out], HB2.out.trans (zbA (zbR w.heap.size w2) HB2.out.size _)⟩


end Go.Proofs.YtobjahlmjcnfoaaGreat

namespace Go.Proofs.YtobjahlmjcnfoaaGreat
open Go.RowKit
attribute [local go_sem ↓] Go.wp_at_zero Go.wp_at_succ

namespace E
theorem when_end (y : Int) (s : St) : St.when y s [] = none := rfl
def moreB (x : Nt) (r : List Nt) : Bool := match r with | z :: _ => decide (z.hour = x.hour) | [] => false
theorem when_step (y : Int) (s : St) (x : Nt) (r : List Nt) : St.when y s (x :: r) = if moreB x r = false ∧ (((s.take x).where_ y).1 = 1 ∨ ((s.take x).where_ y).1 = 2) then some x.hour else St.when y (s.take x) r := rfl
end E

set_option maxHeartbeats 6400000 in
set_option maxRecDepth 100000 in
theorem when_any (f : E.Fd) (A : Option Addr) (n c : Nat) (d : List E.Nt) (y : Int) (w : World) (hp0 : 0 ≤ f.places) (hp1 : f.places ≤ 32) (hn : d.length = n) (hr : RdN w w.heap.size A d) (hn1 : n ≤ 60) (hpl : ∀ x ∈ d, 0 ≤ x.player ∧ x.player ≤ 999) :
    Calls Tryz.prog 28 #[.agg #[.int .i64 f.places, .int .i64 f.wilds, .int .i64 f.guards, .int .i64 f.close, .int .i64 f.freeze, .slice A n c], .int .i64 y] w fun e w' => e = .returned (NeedsVal (E.St.when y (E.St.new f) d)) ∧ Below w.heap.size w w' := by
  have HN := hide hn
  have HR := hide hr
  have HN1 := hide hn1
  have HP0 := hide hp0
  have HP1 := hide hp1
  have HPL := hide hpl
  clear hn hr hp0 hp1 hpl hn1
  go_enter Tryz.func28, Tryz.ntmps28
  obtain ⟨w1, hw1⟩ : ∃ w1, w.alloc (.cells #[.int .i64 f.places, .int .i64 f.wilds, .int .i64 f.guards, .int .i64 f.close, .int .i64 f.freeze, .slice A n c] 43) = w1 := ⟨_, rfl⟩
  have HB1 := hide (show Below w.heap.size w w1 by rw [← hw1]; (repeat' first | exact zbR _ _ | assumption | refine zbD ?_ | refine zbA ?_ ?_ _ | refine zbS ?_ ?_ _ | refine zbT ?_ (by assumption) ?_ | (simp; done) | (simp; omega) | omega))
  have HQ := hide (show w1.heap[w.heap.size]? = some (.cells #[.int .i64 f.places, .int .i64 f.wilds, .int .i64 f.guards, .int .i64 f.close, .int .i64 f.freeze, .slice A n c] 43 (0, 0)) by rw [← hw1]; exact World.alloc_heap_new _ _)
  have HW1 := hide hw1
  clear hw1
  go_wp2_with (go_at_call 34; rw [HW1.out]; refine (newList_any f _).mono ?_; rintro e w2 ⟨rfl, hl2, hb2⟩; have HL2 := hide hl2; have HB2 := hide hb2; clear hl2 hb2; have k2 : w2.cell? ⟨w.heap.size, 5, none⟩ = some (.slice A n c) := (blk_cell ((HB2.out.block _ (blk_lt HQ.out)).trans HQ.out) 5).trans rfl)
  obtain ⟨L, hL⟩ : ∃ L, w1.heap.size + 1 + 1 = L := ⟨_, rfl⟩
  rw [hL] at HL2 ⊢
  obtain ⟨B, hB⟩ : ∃ B, w1.heap.size + 1 = B := ⟨_, rfl⟩
  rw [hB] at HL2
  have HS1 := hide (show w.heap.size ≤ w1.heap.size from HB1.out.size)
  have HLL := hide (show L < w2.heap.size from HL2.out.lt)
  have HBL2 := hide (show B < w2.heap.size from HL2.out.map.lt)
  have HR2 := hide (((HR.out.below HB1.out).below (HB2.out.mono HB1.out.size)))
  clear k2 hL hB
  go_loopw [18] (fun i wr => ∃ (k : Nat) (s : E.St) (mv cv : Value), k ≤ n ∧ i = .int .i64 k ∧ Hid (E.St.when y s (d.drop k) = E.St.when y (E.St.new f) d) ∧ Hid (LOk wr w1.heap.size L B k s mv cv) ∧ Hid (Below w1.heap.size w2 wr)) (fun i _ => n - (intOf i).toNat)
  case atStart => exact ⟨0, _, _, _, by omega, rfl, hide (by rw [List.drop_zero]), hide ⟨⟨0, by omega, HL2.out⟩, E.new_ok f, E.new_bd HP0.out HP1.out⟩, hide (Below.refl _ _)⟩
  case round =>
    obtain ⟨k, s, mv, cv, hk, rfl, HE, HLr, HBr⟩ := hrel
    have hn1 := HN1.out
    have HMVL := hide (show ∀ g, mv.ownBlock = some g → g < wr.heap.size from by obtain ⟨⟨_, _, h1⟩, _, _⟩ := HLr.out; exact fun g hg => (h1.main.lt g hg).2)
    have HCVL := hide (show ∀ g, cv.ownBlock = some g → g < wr.heap.size from by obtain ⟨⟨_, _, h1⟩, _, _⟩ := HLr.out; exact fun g hg => (h1.cards.lt g hg).2)
    by_cases hlt : k < n
    · obtain ⟨x, hx⟩ : ∃ q, d[k]? = some q := ⟨_, List.getElem?_eq_getElem (by have := HN.out; omega)⟩
      obtain ⟨b, o, hA, hbB, c0, c1, c2, c3, c4⟩ := (HR2.out.below (HBr.out.mono HS1.out)) k x hx
      subst hA
      have HPX := hide (HPL.out x (List.mem_of_getElem? hx))
      have hdrop : d.drop k = x :: d.drop (k + 1) := by
        obtain ⟨hl, he⟩ := List.getElem?_eq_some_iff.1 hx
        rw [List.drop_eq_getElem_cons hl, he]
      have HE2 := hide ((congrArg (E.St.when y s) hdrop).symm.trans HE.out)
      rw [E.when_step] at HE2
      have hlt' : (k : Int) < (n : Int) := by omega
      have hk0 : (0 : Int) ≤ (k : Int) := by omega
      have hbr : b < wr.heap.size := Nat.lt_of_lt_of_le hbB (Nat.le_trans HB1.out.size (Nat.le_trans HB2.out.size HBr.out.size))
      clear hx hdrop
      by_cases hm : k + 1 < n
      · obtain ⟨z, hz⟩ : ∃ q, d[k + 1]? = some q := ⟨_, List.getElem?_eq_getElem (by have := HN.out; omega)⟩
        have hd1 : d.drop (k + 1) = z :: d.drop (k + 2) := by
          obtain ⟨hl, he⟩ := List.getElem?_eq_some_iff.1 hz
          rw [List.drop_eq_getElem_cons hl, he]
        have HMO := hide (show E.moreB x (d.drop (k + 1)) = decide (z.hour = x.hour) by rw [hd1]; rfl)
        have HZ := hide hz
        clear hz hd1
        go_upto_region 6 with (go_at_call 35; refine (take_ok w1.heap.size L B k _ mv cv x _ (HLr.out.below (by (repeat' first | exact zbR _ _ | assumption | refine zbD ?_ | refine zbA ?_ ?_ _ | refine zbS ?_ ?_ _ | refine zbT ?_ (by assumption) ?_ | (simp; done) | (simp; omega) | omega))) (by omega) (by have := HBr.out.size; have := HB2.out.size; simp; omega) HPX.out.1 HPX.out.2).mono ?_; rintro e w4 ⟨rfl, ⟨mv4, cv4, hl4⟩, hb4, hk4⟩; have HL4 := hide hl4; have HB4 := hide hb4; have HX4 := hide (show w4.heap[wr.heap.size]? = some (.cells #[.int .i64 x.id, .int .i64 x.hour, .int .i64 x.kind, .int .i64 x.player, .int .i64 x.rank] 70 (0, 0)) from (hk4 wr.heap.size (by simp) (by have := HLL.out; have := HBr.out.size; omega) (by have := HBL2.out; have := HBr.out.size; omega) (fun e => by have h1 := HMVL.out _ e.symm; omega) (fun e => by have h1 := HCVL.out _ e.symm; omega)).trans (World.alloc_heap_new _ _)); clear hl4 hb4 hk4)
        obtain ⟨V, hV⟩ : ∃ V, w4.drew = V := ⟨_, rfl⟩
        have HBV := hide (show Below w4.heap.size w4 V by rw [← hV]; exact zbD (zbR _ _))
        have HB4V := hide ((zbT HBr.out (show Below wr.heap.size wr _ by (repeat' first | exact zbR _ _ | assumption | refine zbD ?_ | refine zbA ?_ ?_ _ | refine zbS ?_ ?_ _ | refine zbT ?_ (by assumption) ?_ | (simp; done) | (simp; omega) | omega)) (Nat.le_trans HB2.out.size HBr.out.size)).trans (HB4.out.trans (HBV.out.mono (Nat.le_trans (Nat.le_trans HB2.out.size HBr.out.size) (Nat.le_trans (by simp) HB4.out.size)))))
        have HLV := hide (HL4.out.below HBV.out)
        have HXV := hide ((HBV.out.block _ (blk_lt HX4.out)).trans HX4.out)
        have HQV := hide ((HB4V.out.block w.heap.size (blk_lt HQ.out)).trans ((HB2.out.block w.heap.size (blk_lt HQ.out)).trans HQ.out))
        refine wp_region_still_lit (by kernel_rfl) (by kernel_rfl) ?_
        change wpStill _ _ w4.drew (fun a' => Exit.then _ _ Exit.normal a' w4.drew) _ _
        rw [hV]
        clear hV
        have v1 : V.cell? ⟨w.heap.size, 5, none⟩ = some (.slice (some ⟨b, o, none⟩) n c) := (blk_cell HQV.out 5).trans rfl
        have v2 : V.cell? ⟨wr.heap.size, 1, none⟩ = some (.int .i64 x.hour) := (blk_cell HXV.out 1).trans rfl
        have hwr : IntKind.i64.wrap ((k : Int) + 1) = (k : Int) + 1 := IntWalk.i64_in _ (by omega)
        have hk1 : ((k : Int) + 1 < (n : Int)) := by omega
        have hk2 : (0 : Int) ≤ (k : Int) + 1 := by omega
        have hk3 : ((k : Int) + 1).toNat = k + 1 := by omega
        have v3 : V.cell? ⟨b, o + (k + 1) * 5 + 1, none⟩ = some (.int .i64 z.hour) := by
          obtain ⟨b', o', e, _, _, d1, _⟩ := (HR2.out.below (HB4V.out.mono HS1.out)) (k + 1) z HZ.out
          injection e with e
          injection e with e1 e2
          subst e1 e2
          exact d1
        obtain ⟨mo, hmo⟩ : ∃ mo, (z.hour == x.hour) = mo := ⟨_, rfl⟩
        have HMV := hide (show E.moreB x (d.drop (k + 1)) = mo by rw [HMO.out, ← hmo]; rfl)
        iterate 5 (with_reducible refine stTake (v := ?_) (by kernel_rfl) ?_ ?_; rotate_left; (focus (go_simp; (try with_reducible rfl))); (try simp only [Act.put, zl, z0, z1]))
        with_reducible refine stTake (v := ?_) (by kernel_rfl) ?_ ?_; rotate_left
        · (go_simp; (try simp only [hk1, decide_true]); (try with_reducible rfl))
        (try simp only [Act.put, zl, z0, z1])
        iterate 10 (with_reducible refine stTake (v := ?_) (by kernel_rfl) ?_ ?_; rotate_left; (focus (go_simp; (try with_reducible rfl))); (try simp only [Act.put, zl, z0, z1]))
        with_reducible refine stTake (v := ?_) (by kernel_rfl) ?_ ?_; rotate_left
        · (go_simp; (try simp only [hmo]); (try with_reducible rfl))
        (try simp only [Act.put, zl, z0, z1])
        iterate 2 (with_reducible refine stTake (v := ?_) (by kernel_rfl) ?_ ?_; rotate_left; (focus (go_simp; (try with_reducible rfl))); (try simp only [Act.put, zl, z0, z1]))
        refine wpStill_nil ?_
        clear v1 v2 v3 hk1 hk2 hk3 hwr hmo
        cases mo
        · have hwx : ∃ p, ((s.take x).where_ y).1 = p := ⟨_, rfl⟩
          obtain ⟨p, hwh⟩ := hwx
          have HWH := hide hwh
          by_cases p1 : p = 1
          · have HEN := hide ((if_pos ⟨HMV.out, (.inl (HWH.out.trans p1))⟩).symm.trans HE2.out)
            have q1 : (p == 1) = true := by rw [p1]; rfl
            clear p1
            go_wp2_with (go_at_call 45; obtain ⟨⟨n4, hn4, hla4⟩, hok4, hbd4⟩ := HLV.out; refine (stand_any _ L B n4 (s.take x) mv4 cv4 y V hla4 hok4 (by omega) (by have := hbd4.main; omega) (by have := hbd4.cards; omega) hbd4.places0 (by have := hbd4.places; omega)).mono ?_; rintro e w5 ⟨rfl, hb5⟩; have HB5 := hide hb5; have x5 : w5.cell? ⟨wr.heap.size, 1, none⟩ = some (.int .i64 x.hour) := (blk_cell ((hb5.block _ (blk_lt HXV.out)).trans HXV.out) 1).trans rfl; clear hb5 hla4 hok4 hbd4; rw [hwh])
            exact bodyPost_ret (v := .tuple #[.int .i64 x.hour, .bool true]) (by simp [results, Tryz.results28, go_sem]) rfl ⟨by rw [← HEN.out]; rfl, (HB1.out.trans (HB2.out.mono HS1.out)).trans ((zbT HB4V.out HB5.out (Nat.le_trans HB2.out.size HB4V.out.size)).mono HS1.out)⟩
          · by_cases p2 : p = 2
            · have HEN := hide ((if_pos ⟨HMV.out, (.inr (HWH.out.trans p2))⟩).symm.trans HE2.out)
              have q1 : (p == 1) = false := by rw [p2]; rfl
              have q2 : (p == 2) = true := by rw [p2]; rfl
              clear p1 p2
              go_wp2_with (go_at_call 45; obtain ⟨⟨n4, hn4, hla4⟩, hok4, hbd4⟩ := HLV.out; refine (stand_any _ L B n4 (s.take x) mv4 cv4 y V hla4 hok4 (by omega) (by have := hbd4.main; omega) (by have := hbd4.cards; omega) hbd4.places0 (by have := hbd4.places; omega)).mono ?_; rintro e w5 ⟨rfl, hb5⟩; have HB5 := hide hb5; have x5 : w5.cell? ⟨wr.heap.size, 1, none⟩ = some (.int .i64 x.hour) := (blk_cell ((hb5.block _ (blk_lt HXV.out)).trans HXV.out) 1).trans rfl; clear hb5 hla4 hok4 hbd4; rw [hwh])
              exact bodyPost_ret (v := .tuple #[.int .i64 x.hour, .bool true]) (by simp [results, Tryz.results28, go_sem]) rfl ⟨by rw [← HEN.out]; rfl, (HB1.out.trans (HB2.out.mono HS1.out)).trans ((zbT HB4V.out HB5.out (Nat.le_trans HB2.out.size HB4V.out.size)).mono HS1.out)⟩
            · have HEN := hide ((if_neg (by rintro ⟨_, h1 | h1⟩; exact p1 (HWH.out.symm.trans h1); exact p2 (HWH.out.symm.trans h1))).symm.trans HE2.out)
              have q1 : (p == 1) = false := by simpa using p1
              have q2 : (p == 2) = false := by simpa using p2
              clear p1 p2
              go_wp2_with (go_at_call 45; obtain ⟨⟨n4, hn4, hla4⟩, hok4, hbd4⟩ := HLV.out; refine (stand_any _ L B n4 (s.take x) mv4 cv4 y V hla4 hok4 (by omega) (by have := hbd4.main; omega) (by have := hbd4.cards; omega) hbd4.places0 (by have := hbd4.places; omega)).mono ?_; rintro e w5 ⟨rfl, hb5⟩; have HB5 := hide hb5; have x5 : w5.cell? ⟨wr.heap.size, 1, none⟩ = some (.int .i64 x.hour) := (blk_cell ((hb5.block _ (blk_lt HXV.out)).trans HXV.out) 1).trans rfl; clear hb5 hla4 hok4 hbd4; rw [hwh])
              go_roundw
              case rel => exact ⟨k + 1, s.take x, mv4, cv4, by omega, by go_num, HEN, hide (HLV.out.below HB5.out), hide (zbT HB4V.out HB5.out (Nat.le_trans HB2.out.size HB4V.out.size))⟩
              case measure => simp [intOf]; omega
        · have hwx : ∃ p, ((s.take x).where_ y).1 = p := ⟨_, rfl⟩
          obtain ⟨p, hwh⟩ := hwx
          have HWH := hide hwh
          have HEN := hide ((if_neg (by rintro ⟨h1, _⟩; rw [HMV.out] at h1; cases h1)).symm.trans HE2.out)
          go_wp2_with (go_at_call 45; obtain ⟨⟨n4, hn4, hla4⟩, hok4, hbd4⟩ := HLV.out; refine (stand_any _ L B n4 (s.take x) mv4 cv4 y V hla4 hok4 (by omega) (by have := hbd4.main; omega) (by have := hbd4.cards; omega) hbd4.places0 (by have := hbd4.places; omega)).mono ?_; rintro e w5 ⟨rfl, hb5⟩; have HB5 := hide hb5; have x5 : w5.cell? ⟨wr.heap.size, 1, none⟩ = some (.int .i64 x.hour) := (blk_cell ((hb5.block _ (blk_lt HXV.out)).trans HXV.out) 1).trans rfl; clear hb5 hla4 hok4 hbd4; rw [hwh])
          go_roundw
          case rel => exact ⟨k + 1, s.take x, mv4, cv4, by omega, by go_num, HEN, hide (HLV.out.below HB5.out), hide (zbT HB4V.out HB5.out (Nat.le_trans HB2.out.size HB4V.out.size))⟩
          case measure => simp [intOf]; omega
      · skip
        have HMV := hide (show E.moreB x (d.drop (k + 1)) = false by rw [List.drop_of_length_le (by have := HN.out; omega)]; rfl)
        go_upto_region 6 with (go_at_call 35; refine (take_ok w1.heap.size L B k _ mv cv x _ (HLr.out.below (by (repeat' first | exact zbR _ _ | assumption | refine zbD ?_ | refine zbA ?_ ?_ _ | refine zbS ?_ ?_ _ | refine zbT ?_ (by assumption) ?_ | (simp; done) | (simp; omega) | omega))) (by omega) (by have := HBr.out.size; have := HB2.out.size; simp; omega) HPX.out.1 HPX.out.2).mono ?_; rintro e w4 ⟨rfl, ⟨mv4, cv4, hl4⟩, hb4, hk4⟩; have HL4 := hide hl4; have HB4 := hide hb4; have HX4 := hide (show w4.heap[wr.heap.size]? = some (.cells #[.int .i64 x.id, .int .i64 x.hour, .int .i64 x.kind, .int .i64 x.player, .int .i64 x.rank] 70 (0, 0)) from (hk4 wr.heap.size (by simp) (by have := HLL.out; have := HBr.out.size; omega) (by have := HBL2.out; have := HBr.out.size; omega) (fun e => by have h1 := HMVL.out _ e.symm; omega) (fun e => by have h1 := HCVL.out _ e.symm; omega)).trans (World.alloc_heap_new _ _)); clear hl4 hb4 hk4)
        obtain ⟨V, hV⟩ : ∃ V, w4.drew = V := ⟨_, rfl⟩
        have HBV := hide (show Below w4.heap.size w4 V by rw [← hV]; exact zbD (zbR _ _))
        have HB4V := hide ((zbT HBr.out (show Below wr.heap.size wr _ by (repeat' first | exact zbR _ _ | assumption | refine zbD ?_ | refine zbA ?_ ?_ _ | refine zbS ?_ ?_ _ | refine zbT ?_ (by assumption) ?_ | (simp; done) | (simp; omega) | omega)) (Nat.le_trans HB2.out.size HBr.out.size)).trans (HB4.out.trans (HBV.out.mono (Nat.le_trans (Nat.le_trans HB2.out.size HBr.out.size) (Nat.le_trans (by simp) HB4.out.size)))))
        have HLV := hide (HL4.out.below HBV.out)
        have HXV := hide ((HBV.out.block _ (blk_lt HX4.out)).trans HX4.out)
        have HQV := hide ((HB4V.out.block w.heap.size (blk_lt HQ.out)).trans ((HB2.out.block w.heap.size (blk_lt HQ.out)).trans HQ.out))
        refine wp_region_still_lit (by kernel_rfl) (by kernel_rfl) ?_
        change wpStill _ _ w4.drew (fun a' => Exit.then _ _ Exit.normal a' w4.drew) _ _
        rw [hV]
        clear hV
        have v1 : V.cell? ⟨w.heap.size, 5, none⟩ = some (.slice (some ⟨b, o, none⟩) n c) := (blk_cell HQV.out 5).trans rfl
        have v2 : V.cell? ⟨wr.heap.size, 1, none⟩ = some (.int .i64 x.hour) := (blk_cell HXV.out 1).trans rfl
        have hwr : IntKind.i64.wrap ((k : Int) + 1) = (k : Int) + 1 := IntWalk.i64_in _ (by omega)
        have hk1 : ¬ ((k : Int) + 1 < (n : Int)) := by omega
        iterate 5 (with_reducible refine stTake (v := ?_) (by kernel_rfl) ?_ ?_; rotate_left; (focus (go_simp; (try with_reducible rfl))); (try simp only [Act.put, zl, z0, z1]))
        with_reducible refine stTake (v := ?_) (by kernel_rfl) ?_ ?_; rotate_left
        · (go_simp; (try simp only [hk1, decide_false]); (try with_reducible rfl))
        (try simp only [Act.put, zl, z0, z1])
        with_reducible refine stTake (v := ?_) (by kernel_rfl) ?_ ?_; rotate_left; (focus (go_simp; (try with_reducible rfl))); (try simp only [Act.put, zl, z0, z1])
        iterate 10 (with_reducible refine stSkip (by kernel_rfl) ?_; (try simp only [Act.put, zl, z0, z1]))
        iterate 2 (with_reducible refine stTake (v := ?_) (by kernel_rfl) ?_ ?_; rotate_left; (focus (go_simp; (try with_reducible rfl))); (try simp only [Act.put, zl, z0, z1]))
        refine wpStill_nil ?_
        clear v1 v2 hk1 hwr
        have hwx : ∃ p, ((s.take x).where_ y).1 = p := ⟨_, rfl⟩
        obtain ⟨p, hwh⟩ := hwx
        have HWH := hide hwh
        by_cases p1 : p = 1
        · have HEN := hide ((if_pos ⟨HMV.out, (.inl (HWH.out.trans p1))⟩).symm.trans HE2.out)
          have q1 : (p == 1) = true := by rw [p1]; rfl
          clear p1
          go_wp2_with (go_at_call 45; obtain ⟨⟨n4, hn4, hla4⟩, hok4, hbd4⟩ := HLV.out; refine (stand_any _ L B n4 (s.take x) mv4 cv4 y V hla4 hok4 (by omega) (by have := hbd4.main; omega) (by have := hbd4.cards; omega) hbd4.places0 (by have := hbd4.places; omega)).mono ?_; rintro e w5 ⟨rfl, hb5⟩; have HB5 := hide hb5; have x5 : w5.cell? ⟨wr.heap.size, 1, none⟩ = some (.int .i64 x.hour) := (blk_cell ((hb5.block _ (blk_lt HXV.out)).trans HXV.out) 1).trans rfl; clear hb5 hla4 hok4 hbd4; rw [hwh])
          exact bodyPost_ret (v := .tuple #[.int .i64 x.hour, .bool true]) (by simp [results, Tryz.results28, go_sem]) rfl ⟨by rw [← HEN.out]; rfl, (HB1.out.trans (HB2.out.mono HS1.out)).trans ((zbT HB4V.out HB5.out (Nat.le_trans HB2.out.size HB4V.out.size)).mono HS1.out)⟩
        · by_cases p2 : p = 2
          · have HEN := hide ((if_pos ⟨HMV.out, (.inr (HWH.out.trans p2))⟩).symm.trans HE2.out)
            have q1 : (p == 1) = false := by rw [p2]; rfl
            have q2 : (p == 2) = true := by rw [p2]; rfl
            clear p1 p2
            go_wp2_with (go_at_call 45; obtain ⟨⟨n4, hn4, hla4⟩, hok4, hbd4⟩ := HLV.out; refine (stand_any _ L B n4 (s.take x) mv4 cv4 y V hla4 hok4 (by omega) (by have := hbd4.main; omega) (by have := hbd4.cards; omega) hbd4.places0 (by have := hbd4.places; omega)).mono ?_; rintro e w5 ⟨rfl, hb5⟩; have HB5 := hide hb5; have x5 : w5.cell? ⟨wr.heap.size, 1, none⟩ = some (.int .i64 x.hour) := (blk_cell ((hb5.block _ (blk_lt HXV.out)).trans HXV.out) 1).trans rfl; clear hb5 hla4 hok4 hbd4; rw [hwh])
            exact bodyPost_ret (v := .tuple #[.int .i64 x.hour, .bool true]) (by simp [results, Tryz.results28, go_sem]) rfl ⟨by rw [← HEN.out]; rfl, (HB1.out.trans (HB2.out.mono HS1.out)).trans ((zbT HB4V.out HB5.out (Nat.le_trans HB2.out.size HB4V.out.size)).mono HS1.out)⟩
          · have HEN := hide ((if_neg (by rintro ⟨_, h1 | h1⟩; exact p1 (HWH.out.symm.trans h1); exact p2 (HWH.out.symm.trans h1))).symm.trans HE2.out)
            have q1 : (p == 1) = false := by simpa using p1
            have q2 : (p == 2) = false := by simpa using p2
            clear p1 p2
            go_wp2_with (go_at_call 45; obtain ⟨⟨n4, hn4, hla4⟩, hok4, hbd4⟩ := HLV.out; refine (stand_any _ L B n4 (s.take x) mv4 cv4 y V hla4 hok4 (by omega) (by have := hbd4.main; omega) (by have := hbd4.cards; omega) hbd4.places0 (by have := hbd4.places; omega)).mono ?_; rintro e w5 ⟨rfl, hb5⟩; have HB5 := hide hb5; have x5 : w5.cell? ⟨wr.heap.size, 1, none⟩ = some (.int .i64 x.hour) := (blk_cell ((hb5.block _ (blk_lt HXV.out)).trans HXV.out) 1).trans rfl; clear hb5 hla4 hok4 hbd4; rw [hwh])
            go_roundw
            case rel => exact ⟨k + 1, s.take x, mv4, cv4, by omega, by go_num, HEN, hide (HLV.out.below HB5.out), hide (zbT HB4V.out HB5.out (Nat.le_trans HB2.out.size HB4V.out.size))⟩
            case measure => simp [intOf]; omega
    · have hkn : k = n := by omega
      subst hkn
      go_wp2_with fail
      have hv : E.St.when y (E.St.new f) d = none := HE.out.symm.trans (by rw [List.drop_of_length_le (by have := HN.out; omega)]; exact E.when_end y s)
      exact bodyPost_ret (v := .tuple #[.int .i64 0, .bool false]) (by simp [results, Tryz.results28, go_sem]) rfl ⟨by rw [hv]; rfl, (HB1.out.trans (HB2.out.mono HS1.out)).trans (HBr.out.mono HS1.out)⟩

end Go.Proofs.YtobjahlmjcnfoaaGreat

namespace Go.Proofs.YtobjahlmjcnfoaaGreat
open Go.RowKit
attribute [local go_sem ↓] Go.wp_at_zero Go.wp_at_succ

def whenV (f : E.Fd) (l : List E.Nt) (p : Int) : Option Int := match E.diffs l with | some d => E.St.when p (E.St.new f) d | none => none
def WhenPost (f : E.Fd) (l : List E.Nt) (p : Int) : Value := if E.errE f l 0 p = 0 then (match whenV f l p with | some q => .tuple #[.int .i64 q, .int .i64 0] | none => .tuple #[.int .i64 0, .int .i64 3]) else .tuple #[.int .i64 0, .int .i64 (E.errE f l 0 p)]
set_option maxHeartbeats 6400000 in
set_option maxRecDepth 100000 in
theorem When_any (f : E.Fd) (A : Option Addr) (n c : Nat) (l : List E.Nt) (p : Int) (w : World) (hn : l.length = n) (hr : RdN w w.heap.size A l) (hid : ∀ x ∈ l, (Lit.int .i64 x.id).wf = true) (hm : n ≤ 1000000) :
    Calls Tryz.prog 10 #[.agg #[.int .i64 f.places, .int .i64 f.wilds, .int .i64 f.guards, .int .i64 f.close, .int .i64 f.freeze], .slice A n c, .int .i64 p] w fun e w' => e = .returned (WhenPost f l p) ∧ Below w.heap.size w w' := by
  have HN := hide hn
  have HR := hide hr
  have HID := hide hid
  have HM := hide hm
  clear hn hr hid hm
  by_cases h0 : E.errE f l 0 p = 0
  · have HC := hide h0
    have HPB := hide (show 0 ≤ f.places ∧ f.places ≤ 32 from ⟨by have := (E.valid_places (E.errE_ok h0).2.1).1; omega, (E.valid_places (E.errE_ok h0).2.1).2⟩)
    clear h0
    cases hnv0 : whenV f l p with
    | none =>
      have hnv : whenV f l p = none := hnv0
      clear hnv0
      go_enter Tryz.func10, Tryz.ntmps10
      go_wp2_with (first | (go_at_call 15; refine (openFor_any f A n c l 0 p _ HN.out ((HR.out.below (by (repeat' first | exact zbR _ _ | assumption | refine zbD ?_ | refine zbA ?_ ?_ _ | refine zbS ?_ ?_ _ | refine zbT ?_ (by assumption) ?_ | (simp; done) | (simp; omega) | omega))).mono (by first | (simp; done) | (simp; omega))) HID.out HM.out).mono ?_; rintro e w2 hd2; have hb2 := hd2.2; have HB2 := hide (zbT (show Below w.heap.size w (w.alloc (.cells #[.int .i64 f.places, .int .i64 f.wilds, .int .i64 f.guards, .int .i64 f.close, .int .i64 f.freeze] 23)) by (repeat' first | exact zbR _ _ | assumption | refine zbD ?_ | refine zbA ?_ ?_ _ | refine zbS ?_ ?_ _ | refine zbT ?_ (by assumption) ?_ | (simp; done) | (simp; omega) | omega)) hb2 (by first | (simp; done) | (simp; omega)));  obtain ⟨(⟨h0, _⟩ | ⟨_, d, A3, c3, hdf, rfl, ho3⟩), _⟩ := hd2; (exact absurd HC.out h0); unfold bookVal; have HDF := hide hdf; have HO3 := hide (owns_mono ho3 (show w.heap.size ≤ _ by first | (simp; done) | (simp; omega))); have HDL := hide (E.diffs_len hdf); have HPL := hide (show ∀ x ∈ d, 0 ≤ x.player ∧ x.player ≤ 999 from fun x hx => E.valid_player ((E.diffs_spec hdf).2.1.valid x hx)); clear hb2 hdf ho3) | (go_at_call 28; refine (when_any f A3 d.length c3 d p (w2.alloc (.cells #[.int .i64 f.places, .int .i64 f.wilds, .int .i64 f.guards, .int .i64 f.close, .int .i64 f.freeze, .slice A3 d.length c3] 43)) HPB.out.1 HPB.out.2 rfl (owns_RdN (HO3.out.kept (World.grownBy_alloc _ _ none) (Classical.em _)) rfl) HDL.out HPL.out).mono ?_; rintro e w5 ⟨rfl, hb5⟩; have HB5 := hide (zbT (HB2.out.trans (zbA (zbR w.heap.size w2) HB2.out.size (.cells #[.int .i64 f.places, .int .i64 f.wilds, .int .i64 f.guards, .int .i64 f.close, .int .i64 f.freeze, .slice A3 d.length c3] 43))) hb5 (by have := HB2.out.size; simp; omega)); have HNV := hide (show whenV f l p = E.St.when p (E.St.new f) d by unfold whenV; rw [HDF.out]); rw [← HNV.out, hnv]; unfold NeedsVal; clear hb5))
      refine bodyPost_ret (v := .tuple #[.int .i64 0, .int .i64 3]) (by simp [results, Tryz.results10, go_sem]) rfl ?_
      exact ⟨by unfold WhenPost; rw [if_pos HC.out, hnv], HB5.out⟩
    | some z =>
      have hnv : whenV f l p = some z := hnv0
      clear hnv0
      go_enter Tryz.func10, Tryz.ntmps10
      go_wp2_with (first | (go_at_call 15; refine (openFor_any f A n c l 0 p _ HN.out ((HR.out.below (by (repeat' first | exact zbR _ _ | assumption | refine zbD ?_ | refine zbA ?_ ?_ _ | refine zbS ?_ ?_ _ | refine zbT ?_ (by assumption) ?_ | (simp; done) | (simp; omega) | omega))).mono (by first | (simp; done) | (simp; omega))) HID.out HM.out).mono ?_; rintro e w2 hd2; have hb2 := hd2.2; have HB2 := hide (zbT (show Below w.heap.size w (w.alloc (.cells #[.int .i64 f.places, .int .i64 f.wilds, .int .i64 f.guards, .int .i64 f.close, .int .i64 f.freeze] 23)) by (repeat' first | exact zbR _ _ | assumption | refine zbD ?_ | refine zbA ?_ ?_ _ | refine zbS ?_ ?_ _ | refine zbT ?_ (by assumption) ?_ | (simp; done) | (simp; omega) | omega)) hb2 (by first | (simp; done) | (simp; omega)));  obtain ⟨(⟨h0, _⟩ | ⟨_, d, A3, c3, hdf, rfl, ho3⟩), _⟩ := hd2; (exact absurd HC.out h0); unfold bookVal; have HDF := hide hdf; have HO3 := hide (owns_mono ho3 (show w.heap.size ≤ _ by first | (simp; done) | (simp; omega))); have HDL := hide (E.diffs_len hdf); have HPL := hide (show ∀ x ∈ d, 0 ≤ x.player ∧ x.player ≤ 999 from fun x hx => E.valid_player ((E.diffs_spec hdf).2.1.valid x hx)); clear hb2 hdf ho3) | (go_at_call 28; refine (when_any f A3 d.length c3 d p (w2.alloc (.cells #[.int .i64 f.places, .int .i64 f.wilds, .int .i64 f.guards, .int .i64 f.close, .int .i64 f.freeze, .slice A3 d.length c3] 43)) HPB.out.1 HPB.out.2 rfl (owns_RdN (HO3.out.kept (World.grownBy_alloc _ _ none) (Classical.em _)) rfl) HDL.out HPL.out).mono ?_; rintro e w5 ⟨rfl, hb5⟩; have HB5 := hide (zbT (HB2.out.trans (zbA (zbR w.heap.size w2) HB2.out.size (.cells #[.int .i64 f.places, .int .i64 f.wilds, .int .i64 f.guards, .int .i64 f.close, .int .i64 f.freeze, .slice A3 d.length c3] 43))) hb5 (by have := HB2.out.size; simp; omega)); have HNV := hide (show whenV f l p = E.St.when p (E.St.new f) d by unfold whenV; rw [HDF.out]); rw [← HNV.out, hnv]; unfold NeedsVal; clear hb5))
      refine bodyPost_ret (v := .tuple #[.int .i64 z, .int .i64 0]) (by simp [results, Tryz.results10, go_sem]) rfl ?_
      exact ⟨by unfold WhenPost; rw [if_pos HC.out, hnv], HB5.out⟩
  · obtain ⟨en, hen⟩ : ∃ en, E.errE f l 0 p = en := ⟨_, rfl⟩
    have HC := hide h0
    have HC2 := hide hen
    have HE := HC2
    have HN0 := hide (show en ≠ 0 by rw [← hen]; exact h0)
    have hb : (en != 0) = true := by rw [← hen]; simpa using h0
    clear h0 hen
    go_enter Tryz.func10, Tryz.ntmps10
    go_wp2_with ((go_at_call 15; refine (openFor_any f A n c l 0 p _ HN.out ((HR.out.below (by (repeat' first | exact zbR _ _ | assumption | refine zbD ?_ | refine zbA ?_ ?_ _ | refine zbS ?_ ?_ _ | refine zbT ?_ (by assumption) ?_ | (simp; done) | (simp; omega) | omega))).mono (by first | (simp; done) | (simp; omega))) HID.out HM.out).mono ?_; rintro e w2 hd2; have hb2 := hd2.2; have HB2 := hide (zbT (show Below w.heap.size w (w.alloc (.cells #[.int .i64 f.places, .int .i64 f.wilds, .int .i64 f.guards, .int .i64 f.close, .int .i64 f.freeze] 23)) by (repeat' first | exact zbR _ _ | assumption | refine zbD ?_ | refine zbA ?_ ?_ _ | refine zbS ?_ ?_ _ | refine zbT ?_ (by assumption) ?_ | (simp; done) | (simp; omega) | omega)) hb2 (by first | (simp; done) | (simp; omega)));  obtain ⟨(⟨_, rfl⟩ | ⟨h0, _⟩), _⟩ := hd2; rotate_left; (exact absurd h0 HC.out); rw [HC2.out]; unfold noBook; clear hb2))
    refine bodyPost_ret (v := .tuple #[.int .i64 0, .int .i64 en]) (by simp [results, Tryz.results10, go_sem]) rfl ?_
    exact ⟨by unfold WhenPost; rw [if_neg HC.out, HE.out], HB2.out.trans (zbA (zbR w.heap.size w2) HB2.out.size _)⟩


end Go.Proofs.YtobjahlmjcnfoaaGreat

namespace Go.Proofs.YtobjahlmjcnfoaaGreat
open Go.RowKit
attribute [local go_sem ↓] Go.wp_at_zero Go.wp_at_succ

namespace E
theorem check_ok {f : Fd} {l : List Nt} (hf : validField f = true) (hl : l.length ≤ 60) (hv : ∀ x ∈ l, validNotice x = true) (hs : ∀ x ∈ l, ∀ y ∈ l, y.id = x.id → y = x) : checkE f l = 0 := by
  obtain ⟨d, hd⟩ := diffs_some hl hv hs
  unfold checkE
  rw [if_pos hf, hd]
  rfl
theorem within_zero (r : Int) : within r 0 0 = (r == 0) := by
  unfold within
  by_cases h : r = 0
  · subst h; rfl
  · have h2 : (r == 0) = false := by simpa using h
    rw [h2]
    rcases Int.lt_or_gt_of_ne h with h3 | h3
    · rw [decide_eq_false (by omega : ¬ 0 ≤ r)]; rfl
    · rw [decide_eq_false (by omega : ¬ r ≤ 0)]; simp
theorem check_bad {f : Fd} {l : List Nt} (hf : validField f = true) (h : diffs l = none) : checkE f l = 51 := by
  unfold checkE
  rw [if_pos hf, h]
  rfl
theorem diffs_long {l : List Nt} (h : 60 < l.length) : diffs l = none := by unfold diffs; rw [if_pos h]
theorem diffs_badN {l : List Nt} {x : Nt} (hx : x ∈ l) (h : validNotice x = false) : diffs l = none := by
  cases hd : diffs l with
  | none => rfl
  | some d =>
    obtain ⟨_, h2, h3⟩ := diffs_spec hd
    have := h2.valid x ((h3 x).2 hx)
    rw [h] at this; cases this
theorem diffs_badI {l : List Nt} {x y : Nt} (hx : x ∈ l) (hy : y ∈ l) (hi : y.id = x.id) (hne : y ≠ x) : diffs l = none := by
  cases hd : diffs l with
  | none => rfl
  | some d =>
    obtain ⟨_, h2, h3⟩ := diffs_spec hd
    exact absurd (ids_inj h2.ids y ((h3 y).2 hy) x ((h3 x).2 hx) hi) hne
def pairOk (l : List Nt) (i : Nat) (x : Nt) : Prop := ∀ k y, k < i → l[k]? = some y → y.id = x.id → y = x
def upTo (l : List Nt) (i : Nat) : Prop := ∀ j x, j < i → l[j]? = some x → validNotice x = true ∧ pairOk l j x
theorem upTo_all {f : Fd} {l : List Nt} (hf : validField f = true) (hl : l.length ≤ 60) (h : upTo l l.length) : checkE f l = 0 := by
  refine check_ok hf hl (fun x hx => ?_) (fun x hx y hy e => ?_)
  · obtain ⟨i, hi, rfl⟩ := List.getElem_of_mem hx
    exact (h i _ hi (List.getElem?_eq_getElem hi)).1
  · obtain ⟨i, hi, rfl⟩ := List.getElem_of_mem hx
    obtain ⟨k, hk, rfl⟩ := List.getElem_of_mem hy
    rcases Nat.lt_trichotomy i k with h1 | h1 | h1
    · exact ((h k _ hk (List.getElem?_eq_getElem hk)).2 i _ h1 (List.getElem?_eq_getElem hi) e.symm).symm
    · subst h1; rfl
    · exact (h i _ hi (List.getElem?_eq_getElem hi)).2 k _ h1 (List.getElem?_eq_getElem hk) e
end E

theorem refWithin_any (n lo hi : Int) (w : World) :
    Calls Tryz.prog 39 #[.int .i64 n, .int .i64 lo, .int .i64 hi] w fun e w' => e = .returned (.bool (E.within n lo hi)) ∧ w = w' := by
  by_cases h1 : lo ≤ n <;> by_cases h2 : n ≤ hi <;>
    (go_enter Tryz.func39, Tryz.ntmps39
     go_wp2
     go_ret
     exact ⟨by simp [E.within, h1, h2], rfl⟩)

set_option maxHeartbeats 6400000 in
set_option maxRecDepth 100000 in
theorem isNotice_any (x : E.Nt) (w : World) :
    Calls Tryz.prog 61 #[.agg #[.int .i64 x.id, .int .i64 x.hour, .int .i64 x.kind, .int .i64 x.player, .int .i64 x.rank]] w fun e w' => e = .returned (.bool (E.validNotice x)) ∧ Below w.heap.size w w' := by
  obtain ⟨v1, h1⟩ : ∃ b, E.within x.id 0 999 = b := ⟨_, rfl⟩
  obtain ⟨v2, h2⟩ : ∃ b, E.within x.player 0 999 = b := ⟨_, rfl⟩
  obtain ⟨v3, h3⟩ : ∃ b, E.within x.hour 0 9999 = b := ⟨_, rfl⟩
  have hv : E.validNotice x = (v1 && v2 && v3 && E.within x.rank (E.lowOf x.kind) (E.highOf x.kind)) := by unfold E.validNotice; rw [h1, h2, h3]
  have H1 := hide h1
  have H2 := hide h2
  have H3 := hide h3
  have HV := hide hv
  clear h1 h2 h3 hv
  cases v1
  · go_enter Tryz.func61, Tryz.ntmps61
    go_wp2_with (first | (go_at_call 39; with_reducible refine (refWithin_any x.id 0 999 _).mono ?_; rintro e w' ⟨rfl, rfl⟩; rw [H1.out]) | (go_at_call 39; with_reducible refine (refWithin_any x.player 0 999 _).mono ?_; rintro e w' ⟨rfl, rfl⟩; rw [H2.out]) | (go_at_call 39; with_reducible refine (refWithin_any x.hour 0 9999 _).mono ?_; rintro e w' ⟨rfl, rfl⟩; rw [H3.out]))
    go_ret
    exact ⟨by rw [HV.out]; rfl, by (repeat' first | exact zbR _ _ | assumption | refine zbD ?_ | refine zbA ?_ ?_ _ | refine zbS ?_ ?_ _ | refine zbT ?_ (by assumption) ?_ | (simp; done) | (simp; omega) | omega)⟩
  · cases v2
    · go_enter Tryz.func61, Tryz.ntmps61
      go_wp2_with (first | (go_at_call 39; with_reducible refine (refWithin_any x.id 0 999 _).mono ?_; rintro e w' ⟨rfl, rfl⟩; rw [H1.out]) | (go_at_call 39; with_reducible refine (refWithin_any x.player 0 999 _).mono ?_; rintro e w' ⟨rfl, rfl⟩; rw [H2.out]) | (go_at_call 39; with_reducible refine (refWithin_any x.hour 0 9999 _).mono ?_; rintro e w' ⟨rfl, rfl⟩; rw [H3.out]))
      go_ret
      exact ⟨by rw [HV.out]; rfl, by (repeat' first | exact zbR _ _ | assumption | refine zbD ?_ | refine zbA ?_ ?_ _ | refine zbS ?_ ?_ _ | refine zbT ?_ (by assumption) ?_ | (simp; done) | (simp; omega) | omega)⟩
    · cases v3
      · go_enter Tryz.func61, Tryz.ntmps61
        go_wp2_with (first | (go_at_call 39; with_reducible refine (refWithin_any x.id 0 999 _).mono ?_; rintro e w' ⟨rfl, rfl⟩; rw [H1.out]) | (go_at_call 39; with_reducible refine (refWithin_any x.player 0 999 _).mono ?_; rintro e w' ⟨rfl, rfl⟩; rw [H2.out]) | (go_at_call 39; with_reducible refine (refWithin_any x.hour 0 9999 _).mono ?_; rintro e w' ⟨rfl, rfl⟩; rw [H3.out]))
        go_ret
        exact ⟨by rw [HV.out]; rfl, by (repeat' first | exact zbR _ _ | assumption | refine zbD ?_ | refine zbA ?_ ?_ _ | refine zbS ?_ ?_ _ | refine zbT ?_ (by assumption) ?_ | (simp; done) | (simp; omega) | omega)⟩
      · have HV2 := hide (show E.validNotice x = E.within x.rank (E.lowOf x.kind) (E.highOf x.kind) from HV.out.trans (by simp))
        clear HV
        by_cases h1 : x.kind = 1
        · have hk := h1
          clear h1
          have HV3 := hide (show E.validNotice x = E.within x.rank 0 9999 by rw [HV2.out, hk]; rfl)
          have d1 : (x.kind == 1) = true := by rw [hk]; rfl
          clear hk HV2
          obtain ⟨v4, h4⟩ : ∃ b, E.within x.rank 0 9999 = b := ⟨_, rfl⟩
          have H4 := hide h4
          clear h4
          go_enter Tryz.func61, Tryz.ntmps61
          go_wp2_with (first | (go_at_call 39; with_reducible refine (refWithin_any x.id 0 999 _).mono ?_; rintro e w' ⟨rfl, rfl⟩; rw [H1.out]) | (go_at_call 39; with_reducible refine (refWithin_any x.player 0 999 _).mono ?_; rintro e w' ⟨rfl, rfl⟩; rw [H2.out]) | (go_at_call 39; with_reducible refine (refWithin_any x.hour 0 9999 _).mono ?_; rintro e w' ⟨rfl, rfl⟩; rw [H3.out]) | (go_at_call 39; with_reducible refine (refWithin_any x.rank 0 9999 _).mono ?_; rintro e w' ⟨rfl, rfl⟩; rw [H4.out]))
          go_ret
          exact ⟨by rw [HV3.out, H4.out]; rfl, by (repeat' first | exact zbR _ _ | assumption | refine zbD ?_ | refine zbA ?_ ?_ _ | refine zbS ?_ ?_ _ | refine zbT ?_ (by assumption) ?_ | (simp; done) | (simp; omega) | omega)⟩
        · by_cases h2 : x.kind = 2
          · have hk := h2
            clear h1 h2
            have HV3 := hide (show E.validNotice x = E.within x.rank 1 9999 by rw [HV2.out, hk]; rfl)
            have d1 : (x.kind == 1) = false := by rw [hk]; rfl
            have d2 : (x.kind == 2) = true := by rw [hk]; rfl
            clear hk HV2
            obtain ⟨v4, h4⟩ : ∃ b, E.within x.rank 1 9999 = b := ⟨_, rfl⟩
            have H4 := hide h4
            clear h4
            go_enter Tryz.func61, Tryz.ntmps61
            go_wp2_with (first | (go_at_call 39; with_reducible refine (refWithin_any x.id 0 999 _).mono ?_; rintro e w' ⟨rfl, rfl⟩; rw [H1.out]) | (go_at_call 39; with_reducible refine (refWithin_any x.player 0 999 _).mono ?_; rintro e w' ⟨rfl, rfl⟩; rw [H2.out]) | (go_at_call 39; with_reducible refine (refWithin_any x.hour 0 9999 _).mono ?_; rintro e w' ⟨rfl, rfl⟩; rw [H3.out]) | (go_at_call 39; with_reducible refine (refWithin_any x.rank 1 9999 _).mono ?_; rintro e w' ⟨rfl, rfl⟩; rw [H4.out]))
            go_ret
            exact ⟨by rw [HV3.out, H4.out]; rfl, by (repeat' first | exact zbR _ _ | assumption | refine zbD ?_ | refine zbA ?_ ?_ _ | refine zbS ?_ ?_ _ | refine zbT ?_ (by assumption) ?_ | (simp; done) | (simp; omega) | omega)⟩
          · by_cases h3 : x.kind = 3
            · have hk := h3
              clear h1 h2 h3
              have HV3 := hide (show E.validNotice x = E.within x.rank 0 0 by rw [HV2.out, hk]; rfl)
              have d1 : (x.kind == 1) = false := by rw [hk]; rfl
              have d2 : (x.kind == 2) = false := by rw [hk]; rfl
              have d3 : (x.kind == 3) = true := by rw [hk]; rfl
              clear hk HV2
              have HV4 := hide (show E.validNotice x = (x.rank == 0) from HV3.out.trans (E.within_zero _))
              go_enter Tryz.func61, Tryz.ntmps61
              go_wp2_with (first | (go_at_call 39; with_reducible refine (refWithin_any x.id 0 999 _).mono ?_; rintro e w' ⟨rfl, rfl⟩; rw [H1.out]) | (go_at_call 39; with_reducible refine (refWithin_any x.player 0 999 _).mono ?_; rintro e w' ⟨rfl, rfl⟩; rw [H2.out]) | (go_at_call 39; with_reducible refine (refWithin_any x.hour 0 9999 _).mono ?_; rintro e w' ⟨rfl, rfl⟩; rw [H3.out]))
              go_ret
              exact ⟨by rw [HV4.out]; rfl, by (repeat' first | exact zbR _ _ | assumption | refine zbD ?_ | refine zbA ?_ ?_ _ | refine zbS ?_ ?_ _ | refine zbT ?_ (by assumption) ?_ | (simp; done) | (simp; omega) | omega)⟩
            · by_cases h4 : x.kind = 4
              · have hk := h4
                clear h1 h2 h3 h4
                have HV3 := hide (show E.validNotice x = E.within x.rank 0 0 by rw [HV2.out, hk]; rfl)
                have d1 : (x.kind == 1) = false := by rw [hk]; rfl
                have d2 : (x.kind == 2) = false := by rw [hk]; rfl
                have d3 : (x.kind == 3) = false := by rw [hk]; rfl
                have d4 : (x.kind == 4) = true := by rw [hk]; rfl
                clear hk HV2
                have HV4 := hide (show E.validNotice x = (x.rank == 0) from HV3.out.trans (E.within_zero _))
                go_enter Tryz.func61, Tryz.ntmps61
                go_wp2_with (first | (go_at_call 39; with_reducible refine (refWithin_any x.id 0 999 _).mono ?_; rintro e w' ⟨rfl, rfl⟩; rw [H1.out]) | (go_at_call 39; with_reducible refine (refWithin_any x.player 0 999 _).mono ?_; rintro e w' ⟨rfl, rfl⟩; rw [H2.out]) | (go_at_call 39; with_reducible refine (refWithin_any x.hour 0 9999 _).mono ?_; rintro e w' ⟨rfl, rfl⟩; rw [H3.out]))
                go_ret
                exact ⟨by rw [HV4.out]; rfl, by (repeat' first | exact zbR _ _ | assumption | refine zbD ?_ | refine zbA ?_ ?_ _ | refine zbS ?_ ?_ _ | refine zbT ?_ (by assumption) ?_ | (simp; done) | (simp; omega) | omega)⟩
              · by_cases h5 : x.kind = 5
                · have hk := h5
                  clear h1 h2 h3 h4 h5
                  have HV3 := hide (show E.validNotice x = E.within x.rank 0 0 by rw [HV2.out, hk]; rfl)
                  have d1 : (x.kind == 1) = false := by rw [hk]; rfl
                  have d2 : (x.kind == 2) = false := by rw [hk]; rfl
                  have d3 : (x.kind == 3) = false := by rw [hk]; rfl
                  have d4 : (x.kind == 4) = false := by rw [hk]; rfl
                  have d5 : (x.kind == 5) = true := by rw [hk]; rfl
                  clear hk HV2
                  have HV4 := hide (show E.validNotice x = (x.rank == 0) from HV3.out.trans (E.within_zero _))
                  go_enter Tryz.func61, Tryz.ntmps61
                  go_wp2_with (first | (go_at_call 39; with_reducible refine (refWithin_any x.id 0 999 _).mono ?_; rintro e w' ⟨rfl, rfl⟩; rw [H1.out]) | (go_at_call 39; with_reducible refine (refWithin_any x.player 0 999 _).mono ?_; rintro e w' ⟨rfl, rfl⟩; rw [H2.out]) | (go_at_call 39; with_reducible refine (refWithin_any x.hour 0 9999 _).mono ?_; rintro e w' ⟨rfl, rfl⟩; rw [H3.out]))
                  go_ret
                  exact ⟨by rw [HV4.out]; rfl, by (repeat' first | exact zbR _ _ | assumption | refine zbD ?_ | refine zbA ?_ ?_ _ | refine zbS ?_ ?_ _ | refine zbT ?_ (by assumption) ?_ | (simp; done) | (simp; omega) | omega)⟩
                · have HV3 := hide (show E.validNotice x = false by rw [HV2.out]; unfold E.lowOf E.highOf E.within; rw [if_neg h1, if_neg h2, if_neg (by rintro (h | h | h); exact h3 h; exact h4 h; exact h5 h), if_neg h1, if_neg h2]; simp; omega)
                  have d1 : (x.kind == 1) = false := by simpa using h1
                  have d2 : (x.kind == 2) = false := by simpa using h2
                  have d3 : (x.kind == 3) = false := by simpa using h3
                  have d4 : (x.kind == 4) = false := by simpa using h4
                  have d5 : (x.kind == 5) = false := by simpa using h5
                  clear h1 h2 h3 h4 h5 HV2
                  go_enter Tryz.func61, Tryz.ntmps61
                  go_wp2_with (first | (go_at_call 39; with_reducible refine (refWithin_any x.id 0 999 _).mono ?_; rintro e w' ⟨rfl, rfl⟩; rw [H1.out]) | (go_at_call 39; with_reducible refine (refWithin_any x.player 0 999 _).mono ?_; rintro e w' ⟨rfl, rfl⟩; rw [H2.out]) | (go_at_call 39; with_reducible refine (refWithin_any x.hour 0 9999 _).mono ?_; rintro e w' ⟨rfl, rfl⟩; rw [H3.out]))
                  go_ret
                  exact ⟨by rw [HV3.out]; rfl, by (repeat' first | exact zbR _ _ | assumption | refine zbD ?_ | refine zbA ?_ ?_ _ | refine zbS ?_ ?_ _ | refine zbT ?_ (by assumption) ?_ | (simp; done) | (simp; omega) | omega)⟩


end Go.Proofs.YtobjahlmjcnfoaaGreat

namespace Go.Proofs.YtobjahlmjcnfoaaGreat
open Go.RowKit
attribute [local go_sem ↓] Go.wp_at_zero Go.wp_at_succ run_neq_nt

namespace E
theorem pair_add {l : List Nt} {m : Nat} {x y : Nt} (h : pairOk l m x) (hy : l[m]? = some y) (he : y.id = x.id → y = x) : pairOk l (m + 1) x := by
  intro k z hk hz hi
  rcases Nat.lt_or_ge k m with h1 | h1
  · exact h k z h1 hz hi
  · have : k = m := by omega
    subst this
    rw [hy] at hz
    have := Option.some.inj hz
    subst this
    exact he hi
theorem upTo_add {l : List Nt} {k : Nat} {x : Nt} (h : upTo l k) (hx : l[k]? = some x) (hv : validNotice x = true) (hp : pairOk l k x) : upTo l (k + 1) := by
  intro j z hj hz
  rcases Nat.lt_or_ge j k with h1 | h1
  · exact h j z h1 hz
  · have : j = k := by omega
    subst this
    rw [hx] at hz
    have := Option.some.inj hz
    subst this
    exact ⟨hv, hp⟩
end E

set_option maxHeartbeats 6400000 in
set_option maxRecDepth 100000 in
theorem refCheck_any (f : E.Fd) (A : Option Addr) (n c : Nat) (l : List E.Nt) (w : World) (hn : l.length = n) (hr : RdN w w.heap.size A l) (hm : n ≤ 1000000) :
    Calls Tryz.prog 38 #[.agg #[.int .i64 f.places, .int .i64 f.wilds, .int .i64 f.guards, .int .i64 f.close, .int .i64 f.freeze], .slice A n c] w fun e w' => e = .returned (.int .i64 (E.checkE f l)) ∧ Below w.heap.size w w' := by
  have HN := hide hn
  have HR := hide hr
  clear hn hr
  obtain ⟨v1, h1⟩ : ∃ b, E.within f.places 1 32 = b := ⟨_, rfl⟩
  have H1 := hide h1
  clear h1
  cases v1
  · have HC := hide (show E.checkE f l = 50 by unfold E.checkE E.validField; rw [H1.out]; simp)
    go_enter Tryz.func38, Tryz.ntmps38
    go_wp2_with (first | (go_at_call 39; with_reducible refine (refWithin_any f.places 1 32 _).mono ?_; rintro e w' ⟨rfl, rfl⟩; rw [H1.out]))
    go_ret
    exact ⟨by rw [HC.out]; rfl, by (repeat' first | exact zbR _ _ | assumption | refine zbD ?_ | refine zbA ?_ ?_ _ | refine zbS ?_ ?_ _ | refine zbT ?_ (by assumption) ?_ | (simp; done) | (simp; omega) | omega)⟩
  · obtain ⟨v2, h2⟩ : ∃ b, E.within f.wilds 0 32 = b := ⟨_, rfl⟩
    have H2 := hide h2
    clear h2
    cases v2
    · have HC := hide (show E.checkE f l = 50 by unfold E.checkE E.validField; rw [H1.out, H2.out]; simp)
      go_enter Tryz.func38, Tryz.ntmps38
      go_wp2_with (first | (go_at_call 39; with_reducible refine (refWithin_any f.places 1 32 _).mono ?_; rintro e w' ⟨rfl, rfl⟩; rw [H1.out]) | (go_at_call 39; with_reducible refine (refWithin_any f.wilds 0 32 _).mono ?_; rintro e w' ⟨rfl, rfl⟩; rw [H2.out]))
      go_ret
      exact ⟨by rw [HC.out]; rfl, by (repeat' first | exact zbR _ _ | assumption | refine zbD ?_ | refine zbA ?_ ?_ _ | refine zbS ?_ ?_ _ | refine zbT ?_ (by assumption) ?_ | (simp; done) | (simp; omega) | omega)⟩
    · obtain ⟨v3, h3⟩ : ∃ b, E.within f.guards 0 32 = b := ⟨_, rfl⟩
      have H3 := hide h3
      clear h3
      cases v3
      · have HC := hide (show E.checkE f l = 50 by unfold E.checkE E.validField; rw [H1.out, H2.out, H3.out]; simp)
        go_enter Tryz.func38, Tryz.ntmps38
        go_wp2_with (first | (go_at_call 39; with_reducible refine (refWithin_any f.places 1 32 _).mono ?_; rintro e w' ⟨rfl, rfl⟩; rw [H1.out]) | (go_at_call 39; with_reducible refine (refWithin_any f.wilds 0 32 _).mono ?_; rintro e w' ⟨rfl, rfl⟩; rw [H2.out]) | (go_at_call 39; with_reducible refine (refWithin_any f.guards 0 32 _).mono ?_; rintro e w' ⟨rfl, rfl⟩; rw [H3.out]))
        go_ret
        exact ⟨by rw [HC.out]; rfl, by (repeat' first | exact zbR _ _ | assumption | refine zbD ?_ | refine zbA ?_ ?_ _ | refine zbS ?_ ?_ _ | refine zbT ?_ (by assumption) ?_ | (simp; done) | (simp; omega) | omega)⟩
      · obtain ⟨v4, h4⟩ : ∃ b, E.within f.close 0 9999 = b := ⟨_, rfl⟩
        have H4 := hide h4
        clear h4
        cases v4
        · have HC := hide (show E.checkE f l = 50 by unfold E.checkE E.validField; rw [H1.out, H2.out, H3.out, H4.out]; simp)
          go_enter Tryz.func38, Tryz.ntmps38
          go_wp2_with (first | (go_at_call 39; with_reducible refine (refWithin_any f.places 1 32 _).mono ?_; rintro e w' ⟨rfl, rfl⟩; rw [H1.out]) | (go_at_call 39; with_reducible refine (refWithin_any f.wilds 0 32 _).mono ?_; rintro e w' ⟨rfl, rfl⟩; rw [H2.out]) | (go_at_call 39; with_reducible refine (refWithin_any f.guards 0 32 _).mono ?_; rintro e w' ⟨rfl, rfl⟩; rw [H3.out]) | (go_at_call 39; with_reducible refine (refWithin_any f.close 0 9999 _).mono ?_; rintro e w' ⟨rfl, rfl⟩; rw [H4.out]))
          go_ret
          exact ⟨by rw [HC.out]; rfl, by (repeat' first | exact zbR _ _ | assumption | refine zbD ?_ | refine zbA ?_ ?_ _ | refine zbS ?_ ?_ _ | refine zbT ?_ (by assumption) ?_ | (simp; done) | (simp; omega) | omega)⟩
        · obtain ⟨v5, h5⟩ : ∃ b, E.within f.freeze f.close 9999 = b := ⟨_, rfl⟩
          have H5 := hide h5
          clear h5
          cases v5
          · have HC := hide (show E.checkE f l = 50 by unfold E.checkE E.validField; rw [H1.out, H2.out, H3.out, H4.out, H5.out]; simp)
            go_enter Tryz.func38, Tryz.ntmps38
            go_wp2_with (first | (go_at_call 39; with_reducible refine (refWithin_any f.places 1 32 _).mono ?_; rintro e w' ⟨rfl, rfl⟩; rw [H1.out]) | (go_at_call 39; with_reducible refine (refWithin_any f.wilds 0 32 _).mono ?_; rintro e w' ⟨rfl, rfl⟩; rw [H2.out]) | (go_at_call 39; with_reducible refine (refWithin_any f.guards 0 32 _).mono ?_; rintro e w' ⟨rfl, rfl⟩; rw [H3.out]) | (go_at_call 39; with_reducible refine (refWithin_any f.close 0 9999 _).mono ?_; rintro e w' ⟨rfl, rfl⟩; rw [H4.out]) | (go_at_call 39; with_reducible refine (refWithin_any f.freeze f.close 9999 _).mono ?_; rintro e w' ⟨rfl, rfl⟩; rw [H5.out]))
            go_ret
            exact ⟨by rw [HC.out]; rfl, by (repeat' first | exact zbR _ _ | assumption | refine zbD ?_ | refine zbA ?_ ?_ _ | refine zbS ?_ ?_ _ | refine zbT ?_ (by assumption) ?_ | (simp; done) | (simp; omega) | omega)⟩
          · have HVF := hide (show E.validField f = true by unfold E.validField; rw [H1.out, H2.out, H3.out, H4.out, H5.out]; rfl)
            by_cases h60 : 60 < n
            · have hc1 : (60 : Int) < (n : Int) := by omega
              have HC := hide (E.check_bad HVF.out (E.diffs_long (l := l) (by have := HN.out; omega)))
              go_enter Tryz.func38, Tryz.ntmps38
              go_wp2_with (first | (go_at_call 39; with_reducible refine (refWithin_any f.places 1 32 _).mono ?_; rintro e w' ⟨rfl, rfl⟩; rw [H1.out]) | (go_at_call 39; with_reducible refine (refWithin_any f.wilds 0 32 _).mono ?_; rintro e w' ⟨rfl, rfl⟩; rw [H2.out]) | (go_at_call 39; with_reducible refine (refWithin_any f.guards 0 32 _).mono ?_; rintro e w' ⟨rfl, rfl⟩; rw [H3.out]) | (go_at_call 39; with_reducible refine (refWithin_any f.close 0 9999 _).mono ?_; rintro e w' ⟨rfl, rfl⟩; rw [H4.out]) | (go_at_call 39; with_reducible refine (refWithin_any f.freeze f.close 9999 _).mono ?_; rintro e w' ⟨rfl, rfl⟩; rw [H5.out]))
              go_ret
              exact ⟨by rw [HC.out]; rfl, by (repeat' first | exact zbR _ _ | assumption | refine zbD ?_ | refine zbA ?_ ?_ _ | refine zbS ?_ ?_ _ | refine zbT ?_ (by assumption) ?_ | (simp; done) | (simp; omega) | omega)⟩
            · have hc1 : (n : Int) ≤ 60 := by omega
              have hn60 : n ≤ 60 := by omega
              clear h60
              go_enter Tryz.func38, Tryz.ntmps38
              go_wp2_with (first | (go_at_call 39; with_reducible refine (refWithin_any f.places 1 32 _).mono ?_; rintro e w' ⟨rfl, rfl⟩; rw [H1.out]) | (go_at_call 39; with_reducible refine (refWithin_any f.wilds 0 32 _).mono ?_; rintro e w' ⟨rfl, rfl⟩; rw [H2.out]) | (go_at_call 39; with_reducible refine (refWithin_any f.guards 0 32 _).mono ?_; rintro e w' ⟨rfl, rfl⟩; rw [H3.out]) | (go_at_call 39; with_reducible refine (refWithin_any f.close 0 9999 _).mono ?_; rintro e w' ⟨rfl, rfl⟩; rw [H4.out]) | (go_at_call 39; with_reducible refine (refWithin_any f.freeze f.close 9999 _).mono ?_; rintro e w' ⟨rfl, rfl⟩; rw [H5.out]))
              obtain ⟨w1, hw1⟩ : ∃ w1, w.alloc (.cells #[.int .i64 f.places, .int .i64 f.wilds, .int .i64 f.guards, .int .i64 f.close, .int .i64 f.freeze] 23) = w1 := ⟨_, rfl⟩
              have HB1 := hide (show Below w.heap.size w w1 by rw [← hw1]; (repeat' first | exact zbR _ _ | assumption | refine zbD ?_ | refine zbA ?_ ?_ _ | refine zbS ?_ ?_ _ | refine zbT ?_ (by assumption) ?_ | (simp; done) | (simp; omega) | omega))
              rw [hw1]
              clear hw1 hc1
              have HR1 := hide (HR.out.below HB1.out)
              go_loopw [5] (fun i wr => ∃ k : Nat, k ≤ n ∧ i = .int .i64 k ∧ Hid (E.upTo l k) ∧ Hid (Below w.heap.size w1 wr)) (fun i _ => n - (intOf i).toNat)
              case atStart => exact ⟨0, by omega, rfl, hide (fun j x hj => by omega), hide (Below.refl _ _)⟩
              case round =>
                obtain ⟨k, hk, rfl, HU, HBr⟩ := hrel
                by_cases hlt : k < n
                · obtain ⟨x, hx⟩ : ∃ q, l[k]? = some q := ⟨_, List.getElem?_eq_getElem (by have := HN.out; omega)⟩
                  obtain ⟨b, o, hA, hbB, d0, d1, d2, d3, d4⟩ := (HR1.out.below HBr.out) k x hx
                  subst hA
                  have HX := hide hx
                  have hlt' : (k : Int) < (n : Int) := by omega
                  have hk0 : (0 : Int) ≤ (k : Int) := by omega
                  obtain ⟨vn, hvn⟩ : ∃ vn, E.validNotice x = vn := ⟨_, rfl⟩
                  have HVN := hide hvn
                  have HCV := fun W => hide (isNotice_any x W)
                  rw [hvn] at HCV
                  clear hx hvn
                  cases vn
                  · have HC := hide (E.check_bad HVF.out (E.diffs_badN (List.mem_of_getElem? HX.out) HVN.out))
                    go_wp2_with (go_at_call 61; refine (HCV _).out.mono ?_; rintro e w3 ⟨rfl, hb3⟩; have HB3 := hide hb3; clear hb3)
                    go_ret
                    exact ⟨by rw [HC.out]; rfl, HB1.out.trans (zbT HBr.out HB3.out (Nat.le_trans HB1.out.size HBr.out.size))⟩
                  · go_wp2_with (go_at_call 61; refine (HCV _).out.mono ?_; rintro e w3 ⟨rfl, hb3⟩; have HB3 := hide (zbT HBr.out hb3 (Nat.le_trans HB1.out.size HBr.out.size)); clear hb3)
                    clear d0 d1 d2 d3 d4 hbB
                    go_loopw [6] (fun j wi => ∃ m : Nat, m ≤ k ∧ j = .int .i64 m ∧ Hid (E.pairOk l m x) ∧ Hid (Below w.heap.size w1 wi)) (fun j _ => k - (intOf j).toNat)
                    case atStart => exact ⟨0, by omega, rfl, hide (fun j y hj => by omega), HB3⟩
                    case round =>
                      obtain ⟨m, hm, rfl, HPK, HBi⟩ := hrel
                      by_cases hmk : m < k
                      · obtain ⟨y, hy⟩ : ∃ q, l[m]? = some q := ⟨_, List.getElem?_eq_getElem (by have := HN.out; omega)⟩
                        have HY := hide hy
                        obtain ⟨q, hq0⟩ : ∃ q, (y.id == x.id) = q := ⟨_, rfl⟩
                        have HQ := hide hq0
                        have hm1 : (m : Int) < (k : Int) := by omega
                        have hm2 : (m : Int) < (n : Int) := by omega
                        have hm0 : (0 : Int) ≤ (m : Int) := by omega
                        clear hy hq0
                        go_upto_region 13 with fail
                        obtain ⟨V, hV⟩ : ∃ V, wr.drew = V := ⟨_, rfl⟩
                        have HBV := hide (show Below wr.heap.size wr V by rw [← hV]; exact zbD (zbR _ _))
                        refine wp_region_still_lit (by kernel_rfl) (by kernel_rfl) ?_
                        change wpStill _ _ wr.drew (fun a' => Exit.then _ _ Exit.normal a' wr.drew) _ _
                        rw [hV]
                        clear hV
                        have HRV := (HR1.out.below HBi.out).below (HBV.out.mono (Nat.le_trans HB1.out.size HBi.out.size))
                        obtain ⟨b1, o1, e1, _, y0, y1, y2, y3, y4⟩ := HRV m y HY.out
                        injection e1 with e1
                        injection e1 with e1 e2
                        subst e1 e2
                        obtain ⟨b2, o2, e1, _, x0, x1, x2, x3, x4⟩ := HRV k x HX.out
                        injection e1 with e1
                        injection e1 with e1 e2
                        subst e1 e2
                        clear HRV
                        have HQ2 := hide (show decide (y.id = x.id) = q from HQ.out)
                        cases q
                        · with_reducible refine stTake (v := ?_) (by kernel_rfl) ?_ ?_; rotate_left
                          · (go_simp; (try with_reducible rfl))
                          (try simp only [Act.put, zl, z0, z1])
                          iterate 9 (with_reducible refine stTake (v := ?_) (by kernel_rfl) ?_ ?_; rotate_left; (focus (go_simp; (try with_reducible rfl))); (try simp only [Act.put, zl, z0, z1]))
                          with_reducible refine stTake (v := ?_) (by kernel_rfl) ?_ ?_; rotate_left
                          · (go_simp; (try simp only [HQ.out, HQ2.out]); (try with_reducible rfl))
                          (try simp only [Act.put, zl, z0, z1])
                          with_reducible refine stTake (v := ?_) (by kernel_rfl) ?_ ?_; rotate_left; (focus (go_simp; (try with_reducible rfl))); (try simp only [Act.put, zl, z0, z1])
                          iterate 9 (with_reducible refine stSkip (by kernel_rfl) ?_; (try simp only [Act.put, zl, z0, z1]))
                          with_reducible refine stTake (v := ?_) (by kernel_rfl) ?_ ?_; rotate_left; (focus (go_simp; (try with_reducible rfl))); (try simp only [Act.put, zl, z0, z1])
                          refine wpStill_nil ?_
                          clear y0 y1 y2 y3 y4 x0 x1 x2 x3 x4
                          go_wp2_with fail
                          go_roundw
                          case rel => exact ⟨m + 1, by omega, by go_num, hide (E.pair_add HPK.out HY.out (fun e => by have := HQ.out; rw [beq_eq_false_iff_ne] at this; exact absurd e this)), hide (zbT HBi.out HBV.out (Nat.le_trans HB1.out.size HBi.out.size))⟩
                          case measure => simp [intOf]; omega
                        · obtain ⟨dz, hdz⟩ : ∃ dz, decide (y = x) = dz := ⟨_, rfl⟩
                          have HDZ := hide hdz
                          clear hdz
                          iterate 10 (with_reducible refine stTake (v := ?_) (by kernel_rfl) ?_ ?_; rotate_left; (focus (go_simp; (try with_reducible rfl))); (try simp only [Act.put, zl, z0, z1]))
                          with_reducible refine stTake (v := ?_) (by kernel_rfl) ?_ ?_; rotate_left
                          · (go_simp; (try simp only [HQ.out, HQ2.out]); (try with_reducible rfl))
                          (try simp only [Act.put, zl, z0, z1])
                          iterate 9 (with_reducible refine stTake (v := ?_) (by kernel_rfl) ?_ ?_; rotate_left; (focus (go_simp; (try with_reducible rfl))); (try simp only [Act.put, zl, z0, z1]))
                          with_reducible refine stTake (v := ?_) (by kernel_rfl) ?_ ?_; rotate_left
                          · (go_simp; (try simp only [HDZ.out]); (try with_reducible rfl))
                          (try simp only [Act.put, zl, z0, z1])
                          with_reducible refine stTake (v := ?_) (by kernel_rfl) ?_ ?_; rotate_left; (focus (go_simp; (try with_reducible rfl))); (try simp only [Act.put, zl, z0, z1])
                          refine wpStill_nil ?_
                          clear y0 y1 y2 y3 y4 x0 x1 x2 x3 x4
                          cases dz
                          · have HC := hide (E.check_bad HVF.out (E.diffs_badI (List.mem_of_getElem? HX.out) (List.mem_of_getElem? HY.out) (by simpa using HQ.out) (of_decide_eq_false HDZ.out)))
                            go_wp2_with fail
                            go_ret
                            exact ⟨by rw [HC.out]; rfl, HB1.out.trans (zbT HBi.out HBV.out (Nat.le_trans HB1.out.size HBi.out.size))⟩
                          · go_wp2_with fail
                            go_roundw
                            case rel => exact ⟨m + 1, by omega, by go_num, hide (E.pair_add HPK.out HY.out (fun _ => of_decide_eq_true HDZ.out)), hide (zbT HBi.out HBV.out (Nat.le_trans HB1.out.size HBi.out.size))⟩
                            case measure => simp [intOf]; omega
                      · have hmn : m = k := by omega
                        subst hmn
                        go_wp2_with fail
                        go_roundw
                        case rel => exact ⟨m + 1, by omega, by go_num, hide (E.upTo_add HU.out HX.out HVN.out HPK.out), HBi⟩
                        case measure => simp [intOf]; omega
                · have hkn : k = n := by omega
                  subst hkn
                  have HC := hide (E.upTo_all (l := l) HVF.out (by have := HN.out; omega) (by rw [HN.out]; exact HU.out))
                  go_wp2_with fail
                  go_ret
                  exact ⟨by rw [HC.out]; rfl, HB1.out.trans HBr.out⟩


end Go.Proofs.YtobjahlmjcnfoaaGreat

namespace Go.Proofs.YtobjahlmjcnfoaaGreat
open Go.RowKit
attribute [local go_sem ↓] Go.wp_at_zero Go.wp_at_succ

namespace E
def exF : Fd := ⟨3, 1, 1, 10, 20⟩
def exL : List Nt := [⟨0, 1, 1, 7, 50⟩, ⟨1, 2, 1, 8, 20⟩, ⟨2, 3, 2, 9, 10⟩, ⟨3, 4, 2, 6, 30⟩, ⟨4, 5, 1, 5, 70⟩, ⟨5, 6, 1, 4, 0⟩, ⟨6, 11, 1, 3, 1⟩, ⟨7, 12, 3, 7, 0⟩, ⟨8, 15, 4, 8, 0⟩, ⟨9, 21, 5, 4, 0⟩, ⟨10, 22, 4, 5, 0⟩]
end E
theorem fldRow : (Tryz.prog.info? 23).map (·.size) = some 5 := by kernel_rfl
theorem rdN_block {w : World} {b : Nat} {xs : List E.Nt} {t : TypeId} {cs : Array Value} (hb : w.heap[b]? = some (.cells cs t (0, 0))) (hc : cs = (flatN xs).toArray) : RdN w w.heap.size (some ⟨b, 0, none⟩) xs := by
  subst hc
  intro k x hk
  have c : ∀ i, i < 5 → w.cell? ⟨b, 0 + k * 5 + i, none⟩ = (nc x)[i]? := fun i hi => by
    rw [Nat.zero_add, blk_cell hb (k * 5 + i)]
    have := flatN_at xs k x i hk hi
    rw [← this]
    simp
  exact ⟨b, 0, rfl, blk_lt hb, c 0 (by omega), c 1 (by omega), c 2 (by omega), c 3 (by omega), c 4 (by omega)⟩

set_option maxRecDepth 100000 in
theorem notice_any (a b c d e : Int) (w : World) :
    Calls Tryz.prog 30 #[.int .i64 a, .int .i64 b, .int .i64 c, .int .i64 d, .int .i64 e] w fun e' w' => e' = .returned (.agg #[.int .i64 a, .int .i64 b, .int .i64 c, .int .i64 d, .int .i64 e]) ∧ Below w.heap.size w w' := by
  go_enter Tryz.func30, Tryz.ntmps30
  go_wp2_with fail
  exact bodyPost_ret (v := .agg #[.int .i64 a, .int .i64 b, .int .i64 c, .int .i64 d, .int .i64 e]) (by simp [results, Tryz.results30, go_sem]) rfl ⟨rfl, by (repeat' first | exact zbR _ _ | assumption | refine zbD ?_ | refine zbA ?_ ?_ _ | refine zbS ?_ ?_ _ | refine zbT ?_ (by assumption) ?_ | (simp; done) | (simp; omega) | omega)⟩

theorem ne_types {w : World} {a b : Nat} {c1 c2 : Array Value} {t1 t2 : TypeId} {f1 f2 : Nat × Nat} (h1 : w.heap[a]? = some (.cells c1 t1 f1)) (h2 : w.heap[b]? = some (.cells c2 t2 f2)) (ht : t1 ≠ t2) : a ≠ b := by
  intro e
  subst e
  rw [h1] at h2
  simp only [Option.some.injEq, Obj.cells.injEq] at h2
  exact ht h2.2.1
def ExS (W1 : World) (q : Nat) (v : World) : Prop := W1.grownBy v (some q) ∧ ∃ old : Array Value, v.heap[q]? = some (.cells old 23 (0, 0)) ∧ old.size = 5
theorem ExS.below {W1 u u' : World} {q : Nat} (h : ExS W1 q u) (hb : Below u.heap.size u u') : ExS W1 q u' := by
  obtain ⟨hg, old, ho, h5⟩ := h
  exact ⟨gr_trans hg ⟨hb.os, hb.tape, hb.output, hb.size, fun i hi _ => hb.block i hi⟩, old, (hb.block q (blk_lt ho)).trans ho, h5⟩
theorem ExS.row {W1 u u' : World} {q : Nat} {cs : Array Value} (h : ExS W1 q u) (hc : u'.heap[q]? = some (.cells cs 23 (0, 0))) (hg : u.grownBy u' (some q)) (h5 : cs.size = 5) : ExS W1 q u' := ⟨gr_trans h.1 hg, cs, hc, h5⟩

def ExPost (w : World) (e : Ending) (w' : World) : Prop := ∃ A : Option Addr, e = .returned (.tuple #[.agg #[.int .i64 3, .int .i64 1, .int .i64 1, .int .i64 10, .int .i64 20], .slice A 11 11]) ∧ RdN w' w'.heap.size A E.exL ∧ Below w.heap.size w w'

set_option maxHeartbeats 6400000 in
set_option maxRecDepth 100000 in
theorem Example_any (w : World) : Calls Tryz.prog 12 #[] w (ExPost w) := by
  go_enter Tryz.func12, Tryz.ntmps12
  go_upto_region 2 with fail
  obtain ⟨W1, hW1⟩ : ∃ W1, (w.alloc (.cells #[.int .i64 0, .int .i64 0, .int .i64 0, .int .i64 0, .int .i64 0] 23)).alloc (.cells #[.int .i64 3, .int .i64 1, .int .i64 1, .int .i64 10, .int .i64 20] 23) = W1 := ⟨_, rfl⟩
  have HB1 := hide (show Below w.heap.size w W1 by rw [← hW1]; (repeat' first | exact zbR _ _ | assumption | refine zbD ?_ | refine zbA ?_ ?_ _ | refine zbS ?_ ?_ _ | refine zbT ?_ (by assumption) ?_ | (simp; done) | (simp; omega) | omega))
  have HQ := hide (show W1.heap[w.heap.size]? = some (.cells #[.int .i64 0, .int .i64 0, .int .i64 0, .int .i64 0, .int .i64 0] 23 (0, 0)) by rw [← hW1]; exact (Below.heap_alloc _ _ _ (by first | (simp; done) | (simp; omega) | omega)).trans (World.alloc_heap_new _ _))
  have HQ2 := hide (show W1.heap[w.heap.size + 1]? = some (.cells #[.int .i64 3, .int .i64 1, .int .i64 1, .int .i64 10, .int .i64 20] 23 (0, 0)) by rw [← hW1]; exact (congrArg _ (by simp)).trans (World.alloc_heap_new _ _))
  rw [hW1]
  clear hW1
  obtain ⟨q, hq⟩ : ∃ q, w.heap.size = q := ⟨_, rfl⟩
  obtain ⟨q2, hq2⟩ : ∃ q2, w.heap.size + 1 = q2 := ⟨_, rfl⟩
  have HQE := hide hq
  have HNE := hide (show q2 ≠ q by omega)
  rw [hq2] at HQ2 ⊢
  rw [hq] at HQ ⊢
  have HQW := hide (blk_lt HQ.out)
  clear hq hq2
  have hSof : ∀ v, ExS W1 q v → (fun w' => ExS W1 q w' ∧ w'.cell? ⟨q2, 0, none⟩ = some (.int .i64 3) ∧ w'.cell? ⟨q2, 1, none⟩ = some (.int .i64 1) ∧ w'.cell? ⟨q2, 2, none⟩ = some (.int .i64 1) ∧ w'.cell? ⟨q2, 3, none⟩ = some (.int .i64 10) ∧ w'.cell? ⟨q2, 4, none⟩ = some (.int .i64 20)) v := by
    intro v hb
    have h2 := (hb.1.block q2 (blk_lt HQ2.out) (fun e => HNE.out (Option.some.inj e))).trans HQ2.out
    exact ⟨hb, (blk_cell h2 0).trans rfl, (blk_cell h2 1).trans rfl, (blk_cell h2 2).trans rfl, (blk_cell h2 3).trans rfl, (blk_cell h2 4).trans rfl⟩
  have hS : (fun w' => ExS W1 q w' ∧ w'.cell? ⟨q2, 0, none⟩ = some (.int .i64 3) ∧ w'.cell? ⟨q2, 1, none⟩ = some (.int .i64 1) ∧ w'.cell? ⟨q2, 2, none⟩ = some (.int .i64 1) ∧ w'.cell? ⟨q2, 3, none⟩ = some (.int .i64 10) ∧ w'.cell? ⟨q2, 4, none⟩ = some (.int .i64 20)) W1 := hSof _ ⟨World.grownBy.refl _ _, _, HQ.out, rfl⟩
  (try dsimp only at hS)
  refine wp_region_held_drew (S := (fun w' => ExS W1 q w' ∧ w'.cell? ⟨q2, 0, none⟩ = some (.int .i64 3) ∧ w'.cell? ⟨q2, 1, none⟩ = some (.int .i64 1) ∧ w'.cell? ⟨q2, 2, none⟩ = some (.int .i64 1) ∧ w'.cell? ⟨q2, 3, none⟩ = some (.int .i64 10) ∧ w'.cell? ⟨q2, 4, none⟩ = some (.int .i64 20))) (by kernel_rfl) ?_ (fun hD0 => ?_)
  · (try dsimp only); first | assumption | exact hSof _ (hD0.1.below (zbA (zbR _ _) (Nat.le_refl _) _)) | exact hSof _ (hD0.1.below (zbD (zbA (zbR _ _) (Nat.le_refl _) _))) | exact hSof _ (hD0.1.below (zbD (zbR _ _))) | exact hSof _ ((show ExS W1 q W1 from ⟨World.grownBy.refl _ _, _, HQ.out, rfl⟩).below (zbD (zbR _ _)))
  refine tW ?_ 0 rfl (by kernel_rfl) (fun _ _ _ h => h) (by rfl) (by assumption) ?_ ?_; rotate_left; (focus (intro w hSw; (try dsimp only at hSw); go_simp; try with_reducible rfl)); try simp only [Act.put, zl, z0, z1]
  refine wpAnyH_ready (rs := [1]) (by kernel_rfl) (by simp) ?_; refine consL 1 rfl (fun K hK => ?_) AllReadyH.nil
  (go_simp; go_at_call 30; refine (notice_any _ _ _ _ _ _).mono ?_; rintro e w9 ⟨rfl, hb9⟩; have hSn := hSof _ (hD0.1.below hb9); clear hb9; (try dsimp only at hSn))
  refine hK.out _ _ ?_ (fun hD1 => ?_)
  · (try dsimp only); first | assumption | exact hSof _ (hD0.1.below (zbA (zbR _ _) (Nat.le_refl _) _)) | exact hSof _ (hD0.1.below (zbD (zbA (zbR _ _) (Nat.le_refl _) _))) | exact hSof _ (hD0.1.below (zbD (zbR _ _))) | exact hSof _ ((show ExS W1 q W1 from ⟨World.grownBy.refl _ _, _, HQ.out, rfl⟩).below (zbD (zbR _ _)))
  clear hK K hD0; try simp only [Act.put, zl, z0, z1]
  refine wpAnyH_ready (rs := [2]) (by kernel_rfl) (by simp) ?_; refine consL 2 rfl (fun K hK => ?_) AllReadyH.nil
  (go_simp; go_at_call 30; refine (notice_any _ _ _ _ _ _).mono ?_; rintro e w9 ⟨rfl, hb9⟩; have hSn := hSof _ (hD1.1.below hb9); clear hb9; (try dsimp only at hSn))
  refine hK.out _ _ ?_ (fun hD2 => ?_)
  · (try dsimp only); first | assumption | exact hSof _ (hD1.1.below (zbA (zbR _ _) (Nat.le_refl _) _)) | exact hSof _ (hD1.1.below (zbD (zbA (zbR _ _) (Nat.le_refl _) _))) | exact hSof _ (hD1.1.below (zbD (zbR _ _))) | exact hSof _ ((show ExS W1 q W1 from ⟨World.grownBy.refl _ _, _, HQ.out, rfl⟩).below (zbD (zbR _ _)))
  clear hK K hD1; try simp only [Act.put, zl, z0, z1]
  refine wpAnyH_ready (rs := [3]) (by kernel_rfl) (by simp) ?_; refine consL 3 rfl (fun K hK => ?_) AllReadyH.nil
  (go_simp; go_at_call 30; refine (notice_any _ _ _ _ _ _).mono ?_; rintro e w9 ⟨rfl, hb9⟩; have hSn := hSof _ (hD2.1.below hb9); clear hb9; (try dsimp only at hSn))
  refine hK.out _ _ ?_ (fun hD3 => ?_)
  · (try dsimp only); first | assumption | exact hSof _ (hD2.1.below (zbA (zbR _ _) (Nat.le_refl _) _)) | exact hSof _ (hD2.1.below (zbD (zbA (zbR _ _) (Nat.le_refl _) _))) | exact hSof _ (hD2.1.below (zbD (zbR _ _))) | exact hSof _ ((show ExS W1 q W1 from ⟨World.grownBy.refl _ _, _, HQ.out, rfl⟩).below (zbD (zbR _ _)))
  clear hK K hD2; try simp only [Act.put, zl, z0, z1]
  refine wpAnyH_ready (rs := [4]) (by kernel_rfl) (by simp) ?_; refine consL 4 rfl (fun K hK => ?_) AllReadyH.nil
  (go_simp; go_at_call 30; refine (notice_any _ _ _ _ _ _).mono ?_; rintro e w9 ⟨rfl, hb9⟩; have hSn := hSof _ (hD3.1.below hb9); clear hb9; (try dsimp only at hSn))
  refine hK.out _ _ ?_ (fun hD4 => ?_)
  · (try dsimp only); first | assumption | exact hSof _ (hD3.1.below (zbA (zbR _ _) (Nat.le_refl _) _)) | exact hSof _ (hD3.1.below (zbD (zbA (zbR _ _) (Nat.le_refl _) _))) | exact hSof _ (hD3.1.below (zbD (zbR _ _))) | exact hSof _ ((show ExS W1 q W1 from ⟨World.grownBy.refl _ _, _, HQ.out, rfl⟩).below (zbD (zbR _ _)))
  clear hK K hD3; try simp only [Act.put, zl, z0, z1]
  refine wpAnyH_ready (rs := [5]) (by kernel_rfl) (by simp) ?_; refine consL 5 rfl (fun K hK => ?_) AllReadyH.nil
  (go_simp; go_at_call 30; refine (notice_any _ _ _ _ _ _).mono ?_; rintro e w9 ⟨rfl, hb9⟩; have hSn := hSof _ (hD4.1.below hb9); clear hb9; (try dsimp only at hSn))
  refine hK.out _ _ ?_ (fun hD5 => ?_)
  · (try dsimp only); first | assumption | exact hSof _ (hD4.1.below (zbA (zbR _ _) (Nat.le_refl _) _)) | exact hSof _ (hD4.1.below (zbD (zbA (zbR _ _) (Nat.le_refl _) _))) | exact hSof _ (hD4.1.below (zbD (zbR _ _))) | exact hSof _ ((show ExS W1 q W1 from ⟨World.grownBy.refl _ _, _, HQ.out, rfl⟩).below (zbD (zbR _ _)))
  clear hK K hD4; try simp only [Act.put, zl, z0, z1]
  refine wpAnyH_ready (rs := [6]) (by kernel_rfl) (by simp) ?_; refine consL 6 rfl (fun K hK => ?_) AllReadyH.nil
  (go_simp; go_at_call 30; refine (notice_any _ _ _ _ _ _).mono ?_; rintro e w9 ⟨rfl, hb9⟩; have hSn := hSof _ (hD5.1.below hb9); clear hb9; (try dsimp only at hSn))
  refine hK.out _ _ ?_ (fun hD6 => ?_)
  · (try dsimp only); first | assumption | exact hSof _ (hD5.1.below (zbA (zbR _ _) (Nat.le_refl _) _)) | exact hSof _ (hD5.1.below (zbD (zbA (zbR _ _) (Nat.le_refl _) _))) | exact hSof _ (hD5.1.below (zbD (zbR _ _))) | exact hSof _ ((show ExS W1 q W1 from ⟨World.grownBy.refl _ _, _, HQ.out, rfl⟩).below (zbD (zbR _ _)))
  clear hK K hD5; try simp only [Act.put, zl, z0, z1]
  refine wpAnyH_ready (rs := [7]) (by kernel_rfl) (by simp) ?_; refine consL 7 rfl (fun K hK => ?_) AllReadyH.nil
  (go_simp; go_at_call 30; refine (notice_any _ _ _ _ _ _).mono ?_; rintro e w9 ⟨rfl, hb9⟩; have hSn := hSof _ (hD6.1.below hb9); clear hb9; (try dsimp only at hSn))
  refine hK.out _ _ ?_ (fun hD7 => ?_)
  · (try dsimp only); first | assumption | exact hSof _ (hD6.1.below (zbA (zbR _ _) (Nat.le_refl _) _)) | exact hSof _ (hD6.1.below (zbD (zbA (zbR _ _) (Nat.le_refl _) _))) | exact hSof _ (hD6.1.below (zbD (zbR _ _))) | exact hSof _ ((show ExS W1 q W1 from ⟨World.grownBy.refl _ _, _, HQ.out, rfl⟩).below (zbD (zbR _ _)))
  clear hK K hD6; try simp only [Act.put, zl, z0, z1]
  refine wpAnyH_ready (rs := [8]) (by kernel_rfl) (by simp) ?_; refine consL 8 rfl (fun K hK => ?_) AllReadyH.nil
  (go_simp; go_at_call 30; refine (notice_any _ _ _ _ _ _).mono ?_; rintro e w9 ⟨rfl, hb9⟩; have hSn := hSof _ (hD7.1.below hb9); clear hb9; (try dsimp only at hSn))
  refine hK.out _ _ ?_ (fun hD8 => ?_)
  · (try dsimp only); first | assumption | exact hSof _ (hD7.1.below (zbA (zbR _ _) (Nat.le_refl _) _)) | exact hSof _ (hD7.1.below (zbD (zbA (zbR _ _) (Nat.le_refl _) _))) | exact hSof _ (hD7.1.below (zbD (zbR _ _))) | exact hSof _ ((show ExS W1 q W1 from ⟨World.grownBy.refl _ _, _, HQ.out, rfl⟩).below (zbD (zbR _ _)))
  clear hK K hD7; try simp only [Act.put, zl, z0, z1]
  refine wpAnyH_ready (rs := [9]) (by kernel_rfl) (by simp) ?_; refine consL 9 rfl (fun K hK => ?_) AllReadyH.nil
  (go_simp; go_at_call 30; refine (notice_any _ _ _ _ _ _).mono ?_; rintro e w9 ⟨rfl, hb9⟩; have hSn := hSof _ (hD8.1.below hb9); clear hb9; (try dsimp only at hSn))
  refine hK.out _ _ ?_ (fun hD9 => ?_)
  · (try dsimp only); first | assumption | exact hSof _ (hD8.1.below (zbA (zbR _ _) (Nat.le_refl _) _)) | exact hSof _ (hD8.1.below (zbD (zbA (zbR _ _) (Nat.le_refl _) _))) | exact hSof _ (hD8.1.below (zbD (zbR _ _))) | exact hSof _ ((show ExS W1 q W1 from ⟨World.grownBy.refl _ _, _, HQ.out, rfl⟩).below (zbD (zbR _ _)))
  clear hK K hD8; try simp only [Act.put, zl, z0, z1]
  refine wpAnyH_ready (rs := [10]) (by kernel_rfl) (by simp) ?_; refine consL 10 rfl (fun K hK => ?_) AllReadyH.nil
  (go_simp; go_at_call 30; refine (notice_any _ _ _ _ _ _).mono ?_; rintro e w9 ⟨rfl, hb9⟩; have hSn := hSof _ (hD9.1.below hb9); clear hb9; (try dsimp only at hSn))
  refine hK.out _ _ ?_ (fun hD10 => ?_)
  · (try dsimp only); first | assumption | exact hSof _ (hD9.1.below (zbA (zbR _ _) (Nat.le_refl _) _)) | exact hSof _ (hD9.1.below (zbD (zbA (zbR _ _) (Nat.le_refl _) _))) | exact hSof _ (hD9.1.below (zbD (zbR _ _))) | exact hSof _ ((show ExS W1 q W1 from ⟨World.grownBy.refl _ _, _, HQ.out, rfl⟩).below (zbD (zbR _ _)))
  clear hK K hD9; try simp only [Act.put, zl, z0, z1]
  refine wpAnyH_ready (rs := [11]) (by kernel_rfl) (by simp) ?_; refine consL 11 rfl (fun K hK => ?_) AllReadyH.nil
  (go_simp; go_at_call 30; refine (notice_any _ _ _ _ _ _).mono ?_; rintro e w9 ⟨rfl, hb9⟩; have hSn := hSof _ (hD10.1.below hb9); clear hb9; (try dsimp only at hSn))
  refine hK.out _ _ ?_ (fun hD11 => ?_)
  · (try dsimp only); first | assumption | exact hSof _ (hD10.1.below (zbA (zbR _ _) (Nat.le_refl _) _)) | exact hSof _ (hD10.1.below (zbD (zbA (zbR _ _) (Nat.le_refl _) _))) | exact hSof _ (hD10.1.below (zbD (zbR _ _))) | exact hSof _ ((show ExS W1 q W1 from ⟨World.grownBy.refl _ _, _, HQ.out, rfl⟩).below (zbD (zbR _ _)))
  clear hK K hD10; try simp only [Act.put, zl, z0, z1]
  refine wpAnyH_ready (rs := [12, 13]) (by kernel_rfl) (by simp) ?_; refine consL 12 rfl (fun K hK => ?_) ?_
  (go_simp; (first | refine cap_alloc (K := K) (O := (.cells #[.int .i64 0, .int .i64 1, .int .i64 1, .int .i64 7, .int .i64 50, .int .i64 1, .int .i64 2, .int .i64 1, .int .i64 8, .int .i64 20, .int .i64 2, .int .i64 3, .int .i64 2, .int .i64 9, .int .i64 10, .int .i64 3, .int .i64 4, .int .i64 2, .int .i64 6, .int .i64 30, .int .i64 4, .int .i64 5, .int .i64 1, .int .i64 5, .int .i64 70, .int .i64 5, .int .i64 6, .int .i64 1, .int .i64 4, .int .i64 0, .int .i64 6, .int .i64 11, .int .i64 1, .int .i64 3, .int .i64 1, .int .i64 7, .int .i64 12, .int .i64 3, .int .i64 7, .int .i64 0, .int .i64 8, .int .i64 15, .int .i64 4, .int .i64 8, .int .i64 0, .int .i64 9, .int .i64 21, .int .i64 5, .int .i64 4, .int .i64 0, .int .i64 10, .int .i64 22, .int .i64 4, .int .i64 5, .int .i64 0] 70 (0, 0))) (fun hG hb hle => ?_) | refine cap_allocD (K := K) (O := (.cells #[.int .i64 0, .int .i64 1, .int .i64 1, .int .i64 7, .int .i64 50, .int .i64 1, .int .i64 2, .int .i64 1, .int .i64 8, .int .i64 20, .int .i64 2, .int .i64 3, .int .i64 2, .int .i64 9, .int .i64 10, .int .i64 3, .int .i64 4, .int .i64 2, .int .i64 6, .int .i64 30, .int .i64 4, .int .i64 5, .int .i64 1, .int .i64 5, .int .i64 70, .int .i64 5, .int .i64 6, .int .i64 1, .int .i64 4, .int .i64 0, .int .i64 6, .int .i64 11, .int .i64 1, .int .i64 3, .int .i64 1, .int .i64 7, .int .i64 12, .int .i64 3, .int .i64 7, .int .i64 0, .int .i64 8, .int .i64 15, .int .i64 4, .int .i64 8, .int .i64 0, .int .i64 9, .int .i64 21, .int .i64 5, .int .i64 4, .int .i64 0, .int .i64 10, .int .i64 22, .int .i64 4, .int .i64 5, .int .i64 0] 70 (0, 0))) (fun hG hb hle => ?_)); (try replace HR := hide ((hb.block _ (blk_lt HR.out)).trans HR.out)); (try simp only [World.size_alloc, drew_size] at hG); have HSL := hide hG; clear hG hle hb)
  refine hK.out _ _ ?_ (fun hD12 => ?_)
  · (try dsimp only); first | assumption | exact hSof _ (hD11.1.below (zbA (zbR _ _) (Nat.le_refl _) _)) | exact hSof _ (hD11.1.below (zbD (zbA (zbR _ _) (Nat.le_refl _) _))) | exact hSof _ (hD11.1.below (zbD (zbR _ _))) | exact hSof _ ((show ExS W1 q W1 from ⟨World.grownBy.refl _ _, _, HQ.out, rfl⟩).below (zbD (zbR _ _)))
  clear hK K hD11; try simp only [Act.put, zl, z0, z1]
  refine wpAnyH_ready (rs := [13]) (by kernel_rfl) (by simp) ?_; refine consL 13 rfl (fun K hK => ?_) AllReadyH.nil
  (have hx9 := hD12.1.2; obtain ⟨old9, ho9⟩ := hx9; refine step_row rfl 23 (.tmp 0) (.tmp 4) rfl _ _ rfl rfl 23 _ ho9.1 fldRow ho9.2 (by simp [Value.oneCell']) ?_; refine cap_row2 ho9.1 (fun W9 hqr hgr hbr => ?_); (try replace HSL := hide ((hgr.block _ (blk_lt HSL.out) (fun e => ne_types HSL.out ho9.1 (by decide) (Option.some.inj e))).trans HSL.out)); have hSn := hSof _ (hD12.1.row hqr hgr rfl); have HR := hide hqr; clear hqr hgr hbr ho9; (try dsimp only at hSn))
  refine hK.out _ _ ?_ (fun hD13 => ?_)
  · (try dsimp only); first | assumption | exact hSof _ (hD12.1.below (zbA (zbR _ _) (Nat.le_refl _) _)) | exact hSof _ (hD12.1.below (zbD (zbA (zbR _ _) (Nat.le_refl _) _))) | exact hSof _ (hD12.1.below (zbD (zbR _ _))) | exact hSof _ ((show ExS W1 q W1 from ⟨World.grownBy.refl _ _, _, HQ.out, rfl⟩).below (zbD (zbR _ _)))
  clear hK K hD12; try simp only [Act.put, zl, z0, z1]
  refine tW ?_ 14 rfl (by kernel_rfl) (fun _ _ _ h => h) (by rfl) (by assumption) ?_ ?_; rotate_left; (focus (intro w hSw; (try dsimp only at hSw); go_simp; try with_reducible rfl)); try simp only [Act.put, zl, z0, z1]
  refine wpAnyH_done (by kernel_rfl) ?_ _
  rotate_left 1
  refine consL 13 rfl (fun K hK => ?_) AllReadyH.nil
  (have hx9 := hD11.1.2; obtain ⟨old9, ho9⟩ := hx9; refine step_row rfl 23 (.tmp 0) (.tmp 4) rfl _ _ rfl rfl 23 _ ho9.1 fldRow ho9.2 (by simp [Value.oneCell']) ?_; refine cap_row2 ho9.1 (fun W9 hqr hgr hbr => ?_); (try replace HSL := hide ((hgr.block _ (blk_lt HSL.out) (fun e => ne_types HSL.out ho9.1 (by decide) (Option.some.inj e))).trans HSL.out)); have hSn := hSof _ (hD11.1.row hqr hgr rfl); have HR := hide hqr; clear hqr hgr hbr ho9; (try dsimp only at hSn))
  refine hK.out _ _ ?_ (fun hD12 => ?_)
  · (try dsimp only); first | assumption | exact hSof _ (hD11.1.below (zbA (zbR _ _) (Nat.le_refl _) _)) | exact hSof _ (hD11.1.below (zbD (zbA (zbR _ _) (Nat.le_refl _) _))) | exact hSof _ (hD11.1.below (zbD (zbR _ _))) | exact hSof _ ((show ExS W1 q W1 from ⟨World.grownBy.refl _ _, _, HQ.out, rfl⟩).below (zbD (zbR _ _)))
  clear hK K hD11; try simp only [Act.put, zl, z0, z1]
  refine wpAnyH_ready (rs := [12]) (by kernel_rfl) (by simp) ?_; refine consL 12 rfl (fun K hK => ?_) AllReadyH.nil
  (go_simp; (first | refine cap_alloc (K := K) (O := (.cells #[.int .i64 0, .int .i64 1, .int .i64 1, .int .i64 7, .int .i64 50, .int .i64 1, .int .i64 2, .int .i64 1, .int .i64 8, .int .i64 20, .int .i64 2, .int .i64 3, .int .i64 2, .int .i64 9, .int .i64 10, .int .i64 3, .int .i64 4, .int .i64 2, .int .i64 6, .int .i64 30, .int .i64 4, .int .i64 5, .int .i64 1, .int .i64 5, .int .i64 70, .int .i64 5, .int .i64 6, .int .i64 1, .int .i64 4, .int .i64 0, .int .i64 6, .int .i64 11, .int .i64 1, .int .i64 3, .int .i64 1, .int .i64 7, .int .i64 12, .int .i64 3, .int .i64 7, .int .i64 0, .int .i64 8, .int .i64 15, .int .i64 4, .int .i64 8, .int .i64 0, .int .i64 9, .int .i64 21, .int .i64 5, .int .i64 4, .int .i64 0, .int .i64 10, .int .i64 22, .int .i64 4, .int .i64 5, .int .i64 0] 70 (0, 0))) (fun hG hb hle => ?_) | refine cap_allocD (K := K) (O := (.cells #[.int .i64 0, .int .i64 1, .int .i64 1, .int .i64 7, .int .i64 50, .int .i64 1, .int .i64 2, .int .i64 1, .int .i64 8, .int .i64 20, .int .i64 2, .int .i64 3, .int .i64 2, .int .i64 9, .int .i64 10, .int .i64 3, .int .i64 4, .int .i64 2, .int .i64 6, .int .i64 30, .int .i64 4, .int .i64 5, .int .i64 1, .int .i64 5, .int .i64 70, .int .i64 5, .int .i64 6, .int .i64 1, .int .i64 4, .int .i64 0, .int .i64 6, .int .i64 11, .int .i64 1, .int .i64 3, .int .i64 1, .int .i64 7, .int .i64 12, .int .i64 3, .int .i64 7, .int .i64 0, .int .i64 8, .int .i64 15, .int .i64 4, .int .i64 8, .int .i64 0, .int .i64 9, .int .i64 21, .int .i64 5, .int .i64 4, .int .i64 0, .int .i64 10, .int .i64 22, .int .i64 4, .int .i64 5, .int .i64 0] 70 (0, 0))) (fun hG hb hle => ?_)); (try replace HR := hide ((hb.block _ (blk_lt HR.out)).trans HR.out)); (try simp only [World.size_alloc, drew_size] at hG); have HSL := hide hG; clear hG hle hb)
  refine hK.out _ _ ?_ (fun hD13 => ?_)
  · (try dsimp only); first | assumption | exact hSof _ (hD12.1.below (zbA (zbR _ _) (Nat.le_refl _) _)) | exact hSof _ (hD12.1.below (zbD (zbA (zbR _ _) (Nat.le_refl _) _))) | exact hSof _ (hD12.1.below (zbD (zbR _ _))) | exact hSof _ ((show ExS W1 q W1 from ⟨World.grownBy.refl _ _, _, HQ.out, rfl⟩).below (zbD (zbR _ _)))
  clear hK K hD12; try simp only [Act.put, zl, z0, z1]
  refine tW ?_ 14 rfl (by kernel_rfl) (fun _ _ _ h => h) (by rfl) (by assumption) ?_ ?_; rotate_left; (focus (intro w hSw; (try dsimp only at hSw); go_simp; try with_reducible rfl)); try simp only [Act.put, zl, z0, z1]
  refine wpAnyH_done (by kernel_rfl) ?_ _
  all_goals
    (try dsimp only [Act.put, List.getElem_toArray, List.getElem_cons_succ, List.getElem_cons_zero])
    (try simp only [zl, z0, z1])
  all_goals
    have r0 := (blk_cell HR.out 0).trans (rfl : _ = some (Value.int .i64 3))
    have r1 := (blk_cell HR.out 1).trans (rfl : _ = some (Value.int .i64 1))
    have r2 := (blk_cell HR.out 2).trans (rfl : _ = some (Value.int .i64 1))
    have r3 := (blk_cell HR.out 3).trans (rfl : _ = some (Value.int .i64 10))
    have r4 := (blk_cell HR.out 4).trans (rfl : _ = some (Value.int .i64 20))
    have hx := hD13.1
    clear hD13 hS hSof
  · go_wp2_with fail
    exact bodyPost_ret (v := .tuple #[.agg #[.int .i64 3, .int .i64 1, .int .i64 1, .int .i64 10, .int .i64 20], .slice (some ⟨W9.heap.size, 0, none⟩) 11 11]) (by simp [results, Tryz.results12, go_sem, r0, r1, r2, r3, r4]) rfl ⟨_, rfl, rdN_block HSL.out rfl, HB1.out.trans (grown_below hx.1 HB1.out.size (fun g e => by have h1 := Option.some.inj e; have h2 := HQE.out; omega))⟩
  · go_wp2_with fail
    exact bodyPost_ret (v := .tuple #[.agg #[.int .i64 3, .int .i64 1, .int .i64 1, .int .i64 10, .int .i64 20], .slice (some ⟨w9.heap.size, 0, none⟩) 11 11]) (by simp [results, Tryz.results12, go_sem, r0, r1, r2, r3, r4]) rfl ⟨_, rfl, rdN_block HSL.out rfl, HB1.out.trans (grown_below hx.1 HB1.out.size (fun g e => by have h1 := Option.some.inj e; have h2 := HQE.out; omega))⟩

end Go.Proofs.YtobjahlmjcnfoaaGreat
