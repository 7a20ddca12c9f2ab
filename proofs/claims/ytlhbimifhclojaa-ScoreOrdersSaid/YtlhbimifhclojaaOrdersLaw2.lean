/-
  Contracts: the law ScoreOrders, where Ways answers.
-/
import Derived.Test.YtlhbimifhclojaaOrdersLaw
namespace Go.Proofs.Ytlhbimifhclojaa
open Go.RowKit
attribute [local go_sem ↓] Go.wp_at_zero Go.wp_at_succ

theorem RdP_blk {w : World} {q : Nat} {t : TypeId} {p : M.Pr} (h : w.heap[q]? = some (.cells #[.int .i64 p.A, .int .i64 p.B] t (0, 0))) : RdP w w.heap.size (some ⟨q, 0, none⟩) [p] := by
  intro k x hk
  have hk0 : k = 0 := by have := (List.getElem?_eq_some_iff.1 hk).1; simp at this; exact this
  subst hk0
  simp only [List.getElem?_cons_zero, Option.some.injEq] at hk
  subst hk
  exact ⟨q, 0, rfl, (Array.getElem?_eq_some_iff.1 h).1, (cell_of_row _ _ _ _ _ _ h).trans rfl, (cell_of_row _ _ _ _ _ _ h).trans rfl⟩
theorem only_of_below' {a w : World} (h : Below a.heap.size a w) : a.grownBy w none := ⟨h.os, h.tape, h.output, h.size, fun i hi _ => h.block i hi⟩
theorem own_or_none (v : Value) : v.ownBlock = none ∨ v.ownBlock ≠ none := by cases v.ownBlock <;> simp
set_option maxHeartbeats 8000000 in
set_option maxRecDepth 100000 in
theorem ordersLaw_ok (f : M.Fm) (A : Option Addr) (n c k : Nat) (ps : List M.Pr) (w : World) (hv : M.validB f = true) (hn : ps.length = n) (hr : RdP w w.heap.size A ps) (h5 : n ≤ 5) (hnc : n ≤ c) (hk : k < n) (hcm : c ≤ maxLen) (he : M.waysE f ps = 0) :
    Calls Try.prog 8 #[.agg #[.int .i64 f.sets, .int .i64 f.games, .bool f.noAd, .int .i64 f.tie, .int .i64 f.to, .int .i64 f.lastTie, .int .i64 f.lastTo, .int .i64 f.first, .int .i64 f.next, .bool f.doubles], .slice A n c, .int .i64 (k : Int)] w fun e w' => e = .returned (.bool true) ∧ Below w.heap.size w w' := by
  obtain ⟨g, hg⟩ : ∃ g, ps[k]? = some g := ⟨_, List.getElem?_eq_getElem (by omega)⟩
  obtain ⟨b, o, hA, hbB, _, _⟩ := hr k g hg
  subst hA
  obtain ⟨a, s, l, L⟩ := M.orders_law he hg
  have HW0 := hide (And.intro L.all he)
  have HW1 := hide (And.intro L.some L.someE)
  have HW2 := hide (And.intro L.less L.lessE)
  have HW3 := hide (And.intro L.mir L.mirE)
  have hl1 : (1 : Int) ≤ (l : Int) := by have := L.l1; omega
  have hls : (l : Int) ≤ (s : Int) := by have := L.ls; omega
  have hsa : (s : Int) ≤ (a : Int) := by have := L.sa; omega
  have ham : (a : Int) ≤ 1000000000000 := by have := L.amost; omega
  have hm1 : (s : Int).tmod (l : Int) = 0 := by rw [Int.tmod_eq_emod_of_nonneg (by omega)]; exact L.dls
  have hm2 : (a : Int).tmod (s : Int) = 0 := by rw [Int.tmod_eq_emod_of_nonneg (by omega)]; exact L.dsa
  have hm3 : (s : Int) % (l : Int) = 0 := L.dls
  have hm4 : (a : Int) % (s : Int) = 0 := L.dsa
  have HM := hide (And.intro (And.intro hm1 hm2) (And.intro hm3 hm4))
  clear he L hm1 hm2 hm3 hm4
  have HN := hide hn
  have HR := hide hr
  have HG := hide hg
  have hv5 : ¬ (5 : Int) < (n : Int) := by omega
  have hk0 : ¬ (k : Int) < 0 := by omega
  have hkn : ¬ (n : Int) ≤ (k : Int) := by omega
  have hk1 : IntKind.i64.wrap ((k : Int) + 1) = (k : Int) + 1 := IntWalk.i64_in _ (by omega)
  have hk2 : (0 : Int) ≤ (k : Int) + 1 := by omega
  have hk3 : ((k : Int) + 1).toNat = k + 1 := by omega
  have hk4 : (k : Int) + 1 ≤ (c : Int) := by omega
  have hk5 : (k : Int) ≤ (c : Int) := by omega
  have hcm' : (c : Int) ≤ 9223372036854775807 := by unfold maxLen at hcm; omega
  clear hn hr hg hcm
  go_enter Try.func8, Try.ntmps8
  go_upto_region 4 with (first | (go_at_call 11; refine (RefCheck_good f _ hv).mono ?_; rintro e w1 ⟨rfl, hb1⟩; have h23 := (hb1.block w.heap.size (by simp)).trans (heap_alloc_new w _); have hcf := fun i => cell_of_row w1 w.heap.size i _ _ _ h23; have H23 := hide h23; have hq1 : w.heap.size < w1.heap.size := (by have := hb1.size; simp at this; omega); have HB1 := hide (show Below w.heap.size w w1 from Below.trans (by (repeat' first | exact Below.refl _ _ | assumption | refine Below.drew ?_ | refine Below.alloc ?_ ?_ _ | refine Below.setCell ?_ ?_ _ | refine Below.trans ?_ (Below.mono (by assumption) ?_) | (simp; done) | (simp; omega) | omega)) (hb1.mono (by simp))); clear hb1 h23) | (go_at_call 31; refine (Ways_val f _ n c ps (a : Int) 0 _ HW0.out.1 HW0.out.2 HN.out ((HR.out.below HB1.out).mono HB1.out.size) (by omega)).mono ?_; rintro e w2 ⟨rfl, hb2⟩; have HB2 := hide hb2; clear hb2))
  have h23 := (HB2.out.block w.heap.size hq1).trans H23.out
  have c23 : w2.cell? ⟨w.heap.size, 0, none⟩ = some (.int .i64 f.sets) ∧ w2.cell? ⟨w.heap.size, 1, none⟩ = some (.int .i64 f.games) ∧ w2.cell? ⟨w.heap.size, 2, none⟩ = some (.bool f.noAd) ∧ w2.cell? ⟨w.heap.size, 3, none⟩ = some (.int .i64 f.tie) ∧ w2.cell? ⟨w.heap.size, 4, none⟩ = some (.int .i64 f.to) ∧ w2.cell? ⟨w.heap.size, 5, none⟩ = some (.int .i64 f.lastTie) ∧ w2.cell? ⟨w.heap.size, 6, none⟩ = some (.int .i64 f.lastTo) ∧ w2.cell? ⟨w.heap.size, 7, none⟩ = some (.int .i64 f.first) ∧ w2.cell? ⟨w.heap.size, 8, none⟩ = some (.int .i64 f.next) ∧ w2.cell? ⟨w.heap.size, 9, none⟩ = some (.bool f.doubles) := by (repeat' apply And.intro) <;> exact (cell_of_row _ _ _ _ _ _ h23).trans rfl
  have hq2 : w.heap.size < w2.heap.size := Nat.lt_of_lt_of_le hq1 HB2.out.size
  have HB02 := hide (HB1.out.trans (HB2.out.mono HB1.out.size))
  have HR2 := hide ((HR.out.below HB02.out).mono HB02.out.size)
  have H23b := hide h23
  clear h23 H23 HB1 HB2 hq1 hcf HR w1
  refine wp_region_held_drew (S := (fun w' => w2.heap.size ≤ w'.heap.size ∧ w'.cell? ⟨w.heap.size, 0, none⟩ = some (.int .i64 f.sets) ∧ w'.cell? ⟨w.heap.size, 1, none⟩ = some (.int .i64 f.games) ∧ w'.cell? ⟨w.heap.size, 2, none⟩ = some (.bool f.noAd) ∧ w'.cell? ⟨w.heap.size, 3, none⟩ = some (.int .i64 f.tie) ∧ w'.cell? ⟨w.heap.size, 4, none⟩ = some (.int .i64 f.to) ∧ w'.cell? ⟨w.heap.size, 5, none⟩ = some (.int .i64 f.lastTie) ∧ w'.cell? ⟨w.heap.size, 6, none⟩ = some (.int .i64 f.lastTo) ∧ w'.cell? ⟨w.heap.size, 7, none⟩ = some (.int .i64 f.first) ∧ w'.cell? ⟨w.heap.size, 8, none⟩ = some (.int .i64 f.next) ∧ w'.cell? ⟨w.heap.size, 9, none⟩ = some (.bool f.doubles))) (by kernel_rfl) ?_ (fun hHeld0 => ?_)
  · (try dsimp only); (first | (go_keep; done) | (go_split_ands; (repeat' apply And.intro) <;> first | (go_keep; done) | (simp [*, World.cell?_alloc_at, World.cell?_alloc_past, World.frozen?_alloc_at, World.frozen?_alloc_past]; done) | (simp [World.cell?_alloc_at, World.cell?_alloc_past]; done) | (simp [World.cell?_alloc_at, World.cell?_alloc_past]; rfl) | (simp [*, World.cell?_setCell_same', World.cell?_setCell_other, World.cell?_alloc_some]; done) | (refine (hc _ _ (by first | (simp; done) | (simp; omega) | omega)).trans ?_; (first | (go_keep; done) | assumption | (simp [*, World.cell?_alloc_at, World.cell?_alloc_past, World.frozen?_alloc_at, World.frozen?_alloc_past]; done) | (simp [World.cell?_alloc_at, World.cell?_alloc_past]; rfl))) | (refine (hf _ _ (by first | (simp; done) | (simp; omega) | omega)).trans ?_; (first | (go_keep; done) | assumption | (simp [*, World.cell?_alloc_at, World.cell?_alloc_past, World.frozen?_alloc_at, World.frozen?_alloc_past]; done))) | (repeat' first | exact Below.refl _ _ | assumption | refine Below.drew ?_ | refine Below.alloc ?_ ?_ _ | refine Below.setCell ?_ ?_ _ | refine Below.trans ?_ (Below.mono (by assumption) ?_) | (simp; done) | (simp; omega) | omega) | (simp; omega) | omega))
  refine takeL (v := ?_) 0 rfl (by kernel_rfl) (by kernel_rfl) (by kernel_rfl) (fun _ _ _ h => h) (Or.inl ⟨by rfl, ?_⟩) (by assumption) ?_
  rotate_left
  · (intro w hSw; (try dsimp only at hSw); go_simp; try with_reducible rfl)
  try simp only [Act.put, List.setIfInBounds_toArray, List.set_cons_zero, List.set_cons_succ]
  refine takeL (v := ?_) 2 rfl (by kernel_rfl) (by kernel_rfl) (by kernel_rfl) (fun _ _ _ h => h) (Or.inl ⟨by rfl, ?_⟩) (by assumption) ?_
  rotate_left
  · (intro w hSw; (try dsimp only at hSw); go_simp; try with_reducible rfl)
  try simp only [Act.put, List.setIfInBounds_toArray, List.set_cons_zero, List.set_cons_succ]
  refine takeL (v := ?_) 3 rfl (by kernel_rfl) (by kernel_rfl) (by kernel_rfl) (fun _ _ _ h => h) (Or.inl ⟨by rfl, ?_⟩) (by assumption) ?_
  rotate_left
  · (intro w hSw; (try dsimp only at hSw); go_simp; try with_reducible rfl)
  try simp only [Act.put, List.setIfInBounds_toArray, List.set_cons_zero, List.set_cons_succ]
  refine takeL (v := ?_) 4 rfl (by kernel_rfl) (by kernel_rfl) (by kernel_rfl) (fun _ _ _ h => h) (Or.inl ⟨by rfl, ?_⟩) (by assumption) ?_
  rotate_left
  · (intro w hSw; (try dsimp only at hSw); go_simp; try with_reducible rfl)
  try simp only [Act.put, List.setIfInBounds_toArray, List.set_cons_zero, List.set_cons_succ]
  refine takeL (v := ?_) 5 rfl (by kernel_rfl) (by kernel_rfl) (by kernel_rfl) (fun _ _ _ h => h) (Or.inl ⟨by rfl, ?_⟩) (by assumption) ?_
  rotate_left
  · (intro w hSw; (try dsimp only at hSw); go_simp; try with_reducible rfl)
  try simp only [Act.put, List.setIfInBounds_toArray, List.set_cons_zero, List.set_cons_succ]
  refine wpAnyH_ready (rs := [1]) (by kernel_rfl) (by simp) ?_
  refine consL 1 rfl (fun K hK => ?_) AllReadyH.nil
  go_simp
  refine hK.out _ _ ?_ (fun hHeld1 => ?_)
  · (try dsimp only); (first | (go_keep; done) | (go_split_ands; (repeat' apply And.intro) <;> first | (go_keep; done) | (simp [*, World.cell?_alloc_at, World.cell?_alloc_past, World.frozen?_alloc_at, World.frozen?_alloc_past]; done) | (simp [World.cell?_alloc_at, World.cell?_alloc_past]; done) | (simp [World.cell?_alloc_at, World.cell?_alloc_past]; rfl) | (simp [*, World.cell?_setCell_same', World.cell?_setCell_other, World.cell?_alloc_some]; done) | (refine (hc _ _ (by first | (simp; done) | (simp; omega) | omega)).trans ?_; (first | (go_keep; done) | assumption | (simp [*, World.cell?_alloc_at, World.cell?_alloc_past, World.frozen?_alloc_at, World.frozen?_alloc_past]; done) | (simp [World.cell?_alloc_at, World.cell?_alloc_past]; rfl))) | (refine (hf _ _ (by first | (simp; done) | (simp; omega) | omega)).trans ?_; (first | (go_keep; done) | assumption | (simp [*, World.cell?_alloc_at, World.cell?_alloc_past, World.frozen?_alloc_at, World.frozen?_alloc_past]; done))) | (repeat' first | exact Below.refl _ _ | assumption | refine Below.drew ?_ | refine Below.alloc ?_ ?_ _ | refine Below.setCell ?_ ?_ _ | refine Below.trans ?_ (Below.mono (by assumption) ?_) | (simp; done) | (simp; omega) | omega) | (simp; omega) | omega))
  clear hK K hHeld0
  try simp only [Act.put, List.setIfInBounds_toArray, List.set_cons_zero, List.set_cons_succ]
  refine wpAnyH_ready (rs := [6]) (by kernel_rfl) (by simp) ?_
  refine consL 6 rfl (fun K hK => ?_) AllReadyH.nil
  (refine step_app rfl (.tmp 44) (.tmp 48) rfl w2.heap.size _ [] rfl (owns_empty (w := (w2.alloc (.cells #[] 32)).drew) (heap_alloc_new w2 _) (Nat.le_refl _)) ⟨b, o, none⟩ (k + 1) c (ps.take (k + 1)) rfl (by rw [List.length_take]; have := HN.out; omega) ((((HR2.out.take (k + 1)).below (Below.alloc (Below.refl _ _) (Nat.le_refl _) (.cells #[] 32))).drew).mono (by simp)) (k + 1) (by simp) (by simp) (by omega) (by simp) ?_; intro A' c' w3 hown hgrow; have hb3 : Below w2.heap.size w2 w3 := Below.trans ((Below.alloc (Below.refl _ _) (Nat.le_refl _) (.cells #[] 32)).drew) (grown_below hgrow (by simp) (fun g hg => Nat.le_of_eq (Option.some.inj hg))); obtain ⟨hc, hf⟩ := bcell hb3; have hz := hb3.size; have HOWN := hide (owns_RdP hown (by simp; have := HN.out; omega)); clear hown hgrow)
  refine hK.out _ _ ?_ (fun hHeld2 => ?_)
  · (try dsimp only); (first | (go_keep; done) | (go_split_ands; (repeat' apply And.intro) <;> first | (go_keep; done) | (simp [*, World.cell?_alloc_at, World.cell?_alloc_past, World.frozen?_alloc_at, World.frozen?_alloc_past]; done) | (simp [World.cell?_alloc_at, World.cell?_alloc_past]; done) | (simp [World.cell?_alloc_at, World.cell?_alloc_past]; rfl) | (simp [*, World.cell?_setCell_same', World.cell?_setCell_other, World.cell?_alloc_some]; done) | (refine (hc _ _ (by first | (simp; done) | (simp; omega) | omega)).trans ?_; (first | (go_keep; done) | assumption | (simp [*, World.cell?_alloc_at, World.cell?_alloc_past, World.frozen?_alloc_at, World.frozen?_alloc_past]; done) | (simp [World.cell?_alloc_at, World.cell?_alloc_past]; rfl))) | (refine (hf _ _ (by first | (simp; done) | (simp; omega) | omega)).trans ?_; (first | (go_keep; done) | assumption | (simp [*, World.cell?_alloc_at, World.cell?_alloc_past, World.frozen?_alloc_at, World.frozen?_alloc_past]; done))) | (repeat' first | exact Below.refl _ _ | assumption | refine Below.drew ?_ | refine Below.alloc ?_ ?_ _ | refine Below.setCell ?_ ?_ _ | refine Below.trans ?_ (Below.mono (by assumption) ?_) | (simp; done) | (simp; omega) | omega) | (simp; omega) | omega))
  clear hK K hHeld1
  try simp only [Act.put, List.setIfInBounds_toArray, List.set_cons_zero, List.set_cons_succ]
  refine wpAnyH_ready (rs := [7]) (by kernel_rfl) (by simp) ?_
  refine consL 7 rfl (fun K hK => ?_) AllReadyH.nil
  go_simp
  (go_at_call 31; refine (Ways_val f _ _ _ (ps.take (k + 1)) (s : Int) 0 _ HW1.out.1 HW1.out.2 (by rw [List.length_take]; have := HN.out; omega) HOWN.out (by omega)).mono ?_; rintro e w4 ⟨rfl, hb4⟩; obtain ⟨hc, hf⟩ := bcell hb4; have hz4 := hb4.size)
  refine hK.out _ _ ?_ (fun hHeld3 => ?_)
  · (try dsimp only); (first | (go_keep; done) | (go_split_ands; (repeat' apply And.intro) <;> first | (go_keep; done) | (simp [*, World.cell?_alloc_at, World.cell?_alloc_past, World.frozen?_alloc_at, World.frozen?_alloc_past]; done) | (simp [World.cell?_alloc_at, World.cell?_alloc_past]; done) | (simp [World.cell?_alloc_at, World.cell?_alloc_past]; rfl) | (simp [*, World.cell?_setCell_same', World.cell?_setCell_other, World.cell?_alloc_some]; done) | (refine (hc _ _ (by first | (simp; done) | (simp; omega) | omega)).trans ?_; (first | (go_keep; done) | assumption | (simp [*, World.cell?_alloc_at, World.cell?_alloc_past, World.frozen?_alloc_at, World.frozen?_alloc_past]; done) | (simp [World.cell?_alloc_at, World.cell?_alloc_past]; rfl))) | (refine (hf _ _ (by first | (simp; done) | (simp; omega) | omega)).trans ?_; (first | (go_keep; done) | assumption | (simp [*, World.cell?_alloc_at, World.cell?_alloc_past, World.frozen?_alloc_at, World.frozen?_alloc_past]; done))) | (repeat' first | exact Below.refl _ _ | assumption | refine Below.drew ?_ | refine Below.alloc ?_ ?_ _ | refine Below.setCell ?_ ?_ _ | refine Below.trans ?_ (Below.mono (by assumption) ?_) | (simp; done) | (simp; omega) | omega) | (simp; omega) | omega))
  clear hK K hHeld2
  try simp only [Act.put, List.setIfInBounds_toArray, List.set_cons_zero, List.set_cons_succ]
  refine takeL (v := ?_) 8 rfl (by kernel_rfl) (by kernel_rfl) (by kernel_rfl) (fun _ _ _ h => h) (Or.inl ⟨by rfl, ?_⟩) (by assumption) ?_
  rotate_left
  · (intro w hSw; (try dsimp only at hSw); go_simp; try with_reducible rfl)
  try simp only [Act.put, List.setIfInBounds_toArray, List.set_cons_zero, List.set_cons_succ]
  refine takeL (v := ?_) 9 rfl (by kernel_rfl) (by kernel_rfl) (by kernel_rfl) (fun _ _ _ h => h) (Or.inl ⟨by rfl, ?_⟩) (by assumption) ?_
  rotate_left
  · (intro w hSw; (try dsimp only at hSw); go_simp; try with_reducible rfl)
  try simp only [Act.put, List.setIfInBounds_toArray, List.set_cons_zero, List.set_cons_succ]
  refine takeL (v := ?_) 10 rfl (by kernel_rfl) (by kernel_rfl) (by kernel_rfl) (fun _ _ _ h => h) (Or.inl ⟨by rfl, ?_⟩) (by assumption) ?_
  rotate_left
  · (intro w hSw; (try dsimp only at hSw); go_simp; try with_reducible rfl)
  try simp only [Act.put, List.setIfInBounds_toArray, List.set_cons_zero, List.set_cons_succ]
  refine takeL (v := ?_) 11 rfl (by kernel_rfl) (by kernel_rfl) (by kernel_rfl) (fun _ _ _ h => h) (Or.inl ⟨by rfl, ?_⟩) (by assumption) ?_
  rotate_left
  · (intro w hSw; (try dsimp only at hSw); go_simp; try with_reducible rfl)
  try simp only [Act.put, List.setIfInBounds_toArray, List.set_cons_zero, List.set_cons_succ]
  refine takeL (v := ?_) 12 rfl (by kernel_rfl) (by kernel_rfl) (by kernel_rfl) (fun _ _ _ h => h) (Or.inl ⟨by rfl, ?_⟩) (by assumption) ?_
  rotate_left
  · (intro w hSw; (try dsimp only at hSw); go_simp; try with_reducible rfl)
  try simp only [Act.put, List.setIfInBounds_toArray, List.set_cons_zero, List.set_cons_succ]
  refine wpAnyH_done (by kernel_rfl) ?_ _
  have HB24 := hide (hb3.trans (hb4.mono hb3.size))
  have h23 := (HB24.out.block w.heap.size hq2).trans H23b.out
  have c23' : w4.cell? ⟨w.heap.size, 0, none⟩ = some (.int .i64 f.sets) ∧ w4.cell? ⟨w.heap.size, 1, none⟩ = some (.int .i64 f.games) ∧ w4.cell? ⟨w.heap.size, 2, none⟩ = some (.bool f.noAd) ∧ w4.cell? ⟨w.heap.size, 3, none⟩ = some (.int .i64 f.tie) ∧ w4.cell? ⟨w.heap.size, 4, none⟩ = some (.int .i64 f.to) ∧ w4.cell? ⟨w.heap.size, 5, none⟩ = some (.int .i64 f.lastTie) ∧ w4.cell? ⟨w.heap.size, 6, none⟩ = some (.int .i64 f.lastTo) ∧ w4.cell? ⟨w.heap.size, 7, none⟩ = some (.int .i64 f.first) ∧ w4.cell? ⟨w.heap.size, 8, none⟩ = some (.int .i64 f.next) ∧ w4.cell? ⟨w.heap.size, 9, none⟩ = some (.bool f.doubles) := by (repeat' apply And.intro) <;> exact (cell_of_row _ _ _ _ _ _ h23).trans rfl
  have hq2' := Nat.lt_of_lt_of_le hq2 HB24.out.size
  have HB02' := hide (HB02.out.trans (HB24.out.mono HB02.out.size))
  have HR2' := hide ((HR2.out.below HB24.out).mono HB24.out.size)
  have H23' := hide h23
  clear h23 c23 hb3 hb4 hc hf hz hz4 HOWN H23b hq2 HB02 HR2 HB24
  (try clear hHeld0)
  (try clear hHeld1)
  (try clear hHeld2)
  (try clear hHeld3)
  (try clear hHeld4)
  have c23 := c23'
  have hq2 := hq2'
  have HB02 := HB02'
  have HR2 := HR2'
  have H23b := H23'
  clear c23' hq2' HB02' HR2' H23'
  go_wp2_with fail
  refine wp_region_held_drew (S := (fun w' => w4.heap.size ≤ w'.heap.size ∧ w'.cell? ⟨w.heap.size, 0, none⟩ = some (.int .i64 f.sets) ∧ w'.cell? ⟨w.heap.size, 1, none⟩ = some (.int .i64 f.games) ∧ w'.cell? ⟨w.heap.size, 2, none⟩ = some (.bool f.noAd) ∧ w'.cell? ⟨w.heap.size, 3, none⟩ = some (.int .i64 f.tie) ∧ w'.cell? ⟨w.heap.size, 4, none⟩ = some (.int .i64 f.to) ∧ w'.cell? ⟨w.heap.size, 5, none⟩ = some (.int .i64 f.lastTie) ∧ w'.cell? ⟨w.heap.size, 6, none⟩ = some (.int .i64 f.lastTo) ∧ w'.cell? ⟨w.heap.size, 7, none⟩ = some (.int .i64 f.first) ∧ w'.cell? ⟨w.heap.size, 8, none⟩ = some (.int .i64 f.next) ∧ w'.cell? ⟨w.heap.size, 9, none⟩ = some (.bool f.doubles))) (by kernel_rfl) ?_ (fun hHeld0 => ?_)
  · (try dsimp only); (first | (go_keep; done) | (go_split_ands; (repeat' apply And.intro) <;> first | (go_keep; done) | (simp [*, World.cell?_alloc_at, World.cell?_alloc_past, World.frozen?_alloc_at, World.frozen?_alloc_past]; done) | (simp [World.cell?_alloc_at, World.cell?_alloc_past]; done) | (simp [World.cell?_alloc_at, World.cell?_alloc_past]; rfl) | (simp [*, World.cell?_setCell_same', World.cell?_setCell_other, World.cell?_alloc_some]; done) | (refine (hc _ _ (by first | (simp; done) | (simp; omega) | omega)).trans ?_; (first | (go_keep; done) | assumption | (simp [*, World.cell?_alloc_at, World.cell?_alloc_past, World.frozen?_alloc_at, World.frozen?_alloc_past]; done) | (simp [World.cell?_alloc_at, World.cell?_alloc_past]; rfl))) | (refine (hf _ _ (by first | (simp; done) | (simp; omega) | omega)).trans ?_; (first | (go_keep; done) | assumption | (simp [*, World.cell?_alloc_at, World.cell?_alloc_past, World.frozen?_alloc_at, World.frozen?_alloc_past]; done))) | (repeat' first | exact Below.refl _ _ | assumption | refine Below.drew ?_ | refine Below.alloc ?_ ?_ _ | refine Below.setCell ?_ ?_ _ | refine Below.trans ?_ (Below.mono (by assumption) ?_) | (simp; done) | (simp; omega) | omega) | (simp; omega) | omega))
  refine takeL (v := ?_) 0 rfl (by kernel_rfl) (by kernel_rfl) (by kernel_rfl) (fun _ _ _ h => h) (Or.inl ⟨by rfl, ?_⟩) (by assumption) ?_
  rotate_left
  · (intro w hSw; (try dsimp only at hSw); go_simp; try with_reducible rfl)
  try simp only [Act.put, List.setIfInBounds_toArray, List.set_cons_zero, List.set_cons_succ]
  refine takeL (v := ?_) 2 rfl (by kernel_rfl) (by kernel_rfl) (by kernel_rfl) (fun _ _ _ h => h) (Or.inl ⟨by rfl, ?_⟩) (by assumption) ?_
  rotate_left
  · (intro w hSw; (try dsimp only at hSw); go_simp; try with_reducible rfl)
  try simp only [Act.put, List.setIfInBounds_toArray, List.set_cons_zero, List.set_cons_succ]
  refine takeL (v := ?_) 3 rfl (by kernel_rfl) (by kernel_rfl) (by kernel_rfl) (fun _ _ _ h => h) (Or.inl ⟨by rfl, ?_⟩) (by assumption) ?_
  rotate_left
  · (intro w hSw; (try dsimp only at hSw); go_simp; try with_reducible rfl)
  try simp only [Act.put, List.setIfInBounds_toArray, List.set_cons_zero, List.set_cons_succ]
  refine takeL (v := ?_) 4 rfl (by kernel_rfl) (by kernel_rfl) (by kernel_rfl) (fun _ _ _ h => h) (Or.inl ⟨by rfl, ?_⟩) (by assumption) ?_
  rotate_left
  · (intro w hSw; (try dsimp only at hSw); go_simp; try with_reducible rfl)
  try simp only [Act.put, List.setIfInBounds_toArray, List.set_cons_zero, List.set_cons_succ]
  refine wpAnyH_ready (rs := [1]) (by kernel_rfl) (by simp) ?_
  refine consL 1 rfl (fun K hK => ?_) AllReadyH.nil
  go_simp
  refine hK.out _ _ ?_ (fun hHeld1 => ?_)
  · (try dsimp only); (first | (go_keep; done) | (go_split_ands; (repeat' apply And.intro) <;> first | (go_keep; done) | (simp [*, World.cell?_alloc_at, World.cell?_alloc_past, World.frozen?_alloc_at, World.frozen?_alloc_past]; done) | (simp [World.cell?_alloc_at, World.cell?_alloc_past]; done) | (simp [World.cell?_alloc_at, World.cell?_alloc_past]; rfl) | (simp [*, World.cell?_setCell_same', World.cell?_setCell_other, World.cell?_alloc_some]; done) | (refine (hc _ _ (by first | (simp; done) | (simp; omega) | omega)).trans ?_; (first | (go_keep; done) | assumption | (simp [*, World.cell?_alloc_at, World.cell?_alloc_past, World.frozen?_alloc_at, World.frozen?_alloc_past]; done) | (simp [World.cell?_alloc_at, World.cell?_alloc_past]; rfl))) | (refine (hf _ _ (by first | (simp; done) | (simp; omega) | omega)).trans ?_; (first | (go_keep; done) | assumption | (simp [*, World.cell?_alloc_at, World.cell?_alloc_past, World.frozen?_alloc_at, World.frozen?_alloc_past]; done))) | (repeat' first | exact Below.refl _ _ | assumption | refine Below.drew ?_ | refine Below.alloc ?_ ?_ _ | refine Below.setCell ?_ ?_ _ | refine Below.trans ?_ (Below.mono (by assumption) ?_) | (simp; done) | (simp; omega) | omega) | (simp; omega) | omega))
  clear hK K hHeld0
  try simp only [Act.put, List.setIfInBounds_toArray, List.set_cons_zero, List.set_cons_succ]
  refine wpAnyH_ready (rs := [5]) (by kernel_rfl) (by simp) ?_
  refine consL 5 rfl (fun K hK => ?_) AllReadyH.nil
  (refine step_app rfl (.tmp 55) (.tmp 58) rfl w4.heap.size _ [] rfl (owns_empty (w := (w4.alloc (.cells #[] 32)).drew) (heap_alloc_new w4 _) (Nat.le_refl _)) ⟨b, o, none⟩ k c (ps.take k) rfl (by rw [List.length_take]; have := HN.out; omega) ((((HR2.out.take k).below (Below.alloc (Below.refl _ _) (Nat.le_refl _) (.cells #[] 32))).drew).mono (by simp)) k (by simp) (by simp) (by omega) (by simp) ?_; intro A' c' w3 hown hgrow; have hb3 : Below w4.heap.size w4 w3 := Below.trans ((Below.alloc (Below.refl _ _) (Nat.le_refl _) (.cells #[] 32)).drew) (grown_below hgrow (by simp) (fun g hg => Nat.le_of_eq (Option.some.inj hg))); obtain ⟨hc, hf⟩ := bcell hb3; have hz := hb3.size; have HOWN := hide (owns_RdP hown (by simp; have := HN.out; omega)); clear hown hgrow)
  refine hK.out _ _ ?_ (fun hHeld2 => ?_)
  · (try dsimp only); (first | (go_keep; done) | (go_split_ands; (repeat' apply And.intro) <;> first | (go_keep; done) | (simp [*, World.cell?_alloc_at, World.cell?_alloc_past, World.frozen?_alloc_at, World.frozen?_alloc_past]; done) | (simp [World.cell?_alloc_at, World.cell?_alloc_past]; done) | (simp [World.cell?_alloc_at, World.cell?_alloc_past]; rfl) | (simp [*, World.cell?_setCell_same', World.cell?_setCell_other, World.cell?_alloc_some]; done) | (refine (hc _ _ (by first | (simp; done) | (simp; omega) | omega)).trans ?_; (first | (go_keep; done) | assumption | (simp [*, World.cell?_alloc_at, World.cell?_alloc_past, World.frozen?_alloc_at, World.frozen?_alloc_past]; done) | (simp [World.cell?_alloc_at, World.cell?_alloc_past]; rfl))) | (refine (hf _ _ (by first | (simp; done) | (simp; omega) | omega)).trans ?_; (first | (go_keep; done) | assumption | (simp [*, World.cell?_alloc_at, World.cell?_alloc_past, World.frozen?_alloc_at, World.frozen?_alloc_past]; done))) | (repeat' first | exact Below.refl _ _ | assumption | refine Below.drew ?_ | refine Below.alloc ?_ ?_ _ | refine Below.setCell ?_ ?_ _ | refine Below.trans ?_ (Below.mono (by assumption) ?_) | (simp; done) | (simp; omega) | omega) | (simp; omega) | omega))
  clear hK K hHeld1
  try simp only [Act.put, List.setIfInBounds_toArray, List.set_cons_zero, List.set_cons_succ]
  refine wpAnyH_ready (rs := [6]) (by kernel_rfl) (by simp) ?_
  refine consL 6 rfl (fun K hK => ?_) AllReadyH.nil
  go_simp
  (go_at_call 31; refine (Ways_val f _ _ _ (ps.take k) (l : Int) 0 _ HW2.out.1 HW2.out.2 (by rw [List.length_take]; have := HN.out; omega) HOWN.out (by omega)).mono ?_; rintro e w5 ⟨rfl, hb4⟩; obtain ⟨hc, hf⟩ := bcell hb4; have hz4 := hb4.size)
  refine hK.out _ _ ?_ (fun hHeld3 => ?_)
  · (try dsimp only); (first | (go_keep; done) | (go_split_ands; (repeat' apply And.intro) <;> first | (go_keep; done) | (simp [*, World.cell?_alloc_at, World.cell?_alloc_past, World.frozen?_alloc_at, World.frozen?_alloc_past]; done) | (simp [World.cell?_alloc_at, World.cell?_alloc_past]; done) | (simp [World.cell?_alloc_at, World.cell?_alloc_past]; rfl) | (simp [*, World.cell?_setCell_same', World.cell?_setCell_other, World.cell?_alloc_some]; done) | (refine (hc _ _ (by first | (simp; done) | (simp; omega) | omega)).trans ?_; (first | (go_keep; done) | assumption | (simp [*, World.cell?_alloc_at, World.cell?_alloc_past, World.frozen?_alloc_at, World.frozen?_alloc_past]; done) | (simp [World.cell?_alloc_at, World.cell?_alloc_past]; rfl))) | (refine (hf _ _ (by first | (simp; done) | (simp; omega) | omega)).trans ?_; (first | (go_keep; done) | assumption | (simp [*, World.cell?_alloc_at, World.cell?_alloc_past, World.frozen?_alloc_at, World.frozen?_alloc_past]; done))) | (repeat' first | exact Below.refl _ _ | assumption | refine Below.drew ?_ | refine Below.alloc ?_ ?_ _ | refine Below.setCell ?_ ?_ _ | refine Below.trans ?_ (Below.mono (by assumption) ?_) | (simp; done) | (simp; omega) | omega) | (simp; omega) | omega))
  clear hK K hHeld2
  try simp only [Act.put, List.setIfInBounds_toArray, List.set_cons_zero, List.set_cons_succ]
  refine takeL (v := ?_) 7 rfl (by kernel_rfl) (by kernel_rfl) (by kernel_rfl) (fun _ _ _ h => h) (Or.inl ⟨by rfl, ?_⟩) (by assumption) ?_
  rotate_left
  · (intro w hSw; (try dsimp only at hSw); go_simp; try with_reducible rfl)
  try simp only [Act.put, List.setIfInBounds_toArray, List.set_cons_zero, List.set_cons_succ]
  refine takeL (v := ?_) 8 rfl (by kernel_rfl) (by kernel_rfl) (by kernel_rfl) (fun _ _ _ h => h) (Or.inl ⟨by rfl, ?_⟩) (by assumption) ?_
  rotate_left
  · (intro w hSw; (try dsimp only at hSw); go_simp; try with_reducible rfl)
  try simp only [Act.put, List.setIfInBounds_toArray, List.set_cons_zero, List.set_cons_succ]
  refine takeL (v := ?_) 9 rfl (by kernel_rfl) (by kernel_rfl) (by kernel_rfl) (fun _ _ _ h => h) (Or.inl ⟨by rfl, ?_⟩) (by assumption) ?_
  rotate_left
  · (intro w hSw; (try dsimp only at hSw); go_simp; try with_reducible rfl)
  try simp only [Act.put, List.setIfInBounds_toArray, List.set_cons_zero, List.set_cons_succ]
  refine takeL (v := ?_) 10 rfl (by kernel_rfl) (by kernel_rfl) (by kernel_rfl) (fun _ _ _ h => h) (Or.inl ⟨by rfl, ?_⟩) (by assumption) ?_
  rotate_left
  · (intro w hSw; (try dsimp only at hSw); go_simp; try with_reducible rfl)
  try simp only [Act.put, List.setIfInBounds_toArray, List.set_cons_zero, List.set_cons_succ]
  refine takeL (v := ?_) 11 rfl (by kernel_rfl) (by kernel_rfl) (by kernel_rfl) (fun _ _ _ h => h) (Or.inl ⟨by rfl, ?_⟩) (by assumption) ?_
  rotate_left
  · (intro w hSw; (try dsimp only at hSw); go_simp; try with_reducible rfl)
  try simp only [Act.put, List.setIfInBounds_toArray, List.set_cons_zero, List.set_cons_succ]
  refine wpAnyH_done (by kernel_rfl) ?_ _
  have HB24 := hide (hb3.trans (hb4.mono hb3.size))
  have h23 := (HB24.out.block w.heap.size hq2).trans H23b.out
  have c23' : w5.cell? ⟨w.heap.size, 0, none⟩ = some (.int .i64 f.sets) ∧ w5.cell? ⟨w.heap.size, 1, none⟩ = some (.int .i64 f.games) ∧ w5.cell? ⟨w.heap.size, 2, none⟩ = some (.bool f.noAd) ∧ w5.cell? ⟨w.heap.size, 3, none⟩ = some (.int .i64 f.tie) ∧ w5.cell? ⟨w.heap.size, 4, none⟩ = some (.int .i64 f.to) ∧ w5.cell? ⟨w.heap.size, 5, none⟩ = some (.int .i64 f.lastTie) ∧ w5.cell? ⟨w.heap.size, 6, none⟩ = some (.int .i64 f.lastTo) ∧ w5.cell? ⟨w.heap.size, 7, none⟩ = some (.int .i64 f.first) ∧ w5.cell? ⟨w.heap.size, 8, none⟩ = some (.int .i64 f.next) ∧ w5.cell? ⟨w.heap.size, 9, none⟩ = some (.bool f.doubles) := by (repeat' apply And.intro) <;> exact (cell_of_row _ _ _ _ _ _ h23).trans rfl
  have hq2' := Nat.lt_of_lt_of_le hq2 HB24.out.size
  have HB02' := hide (HB02.out.trans (HB24.out.mono HB02.out.size))
  have HR2' := hide ((HR2.out.below HB24.out).mono HB24.out.size)
  have H23' := hide h23
  clear h23 c23 hb3 hb4 hc hf hz hz4 HOWN H23b hq2 HB02 HR2 HB24
  (try clear hHeld0)
  (try clear hHeld1)
  (try clear hHeld2)
  (try clear hHeld3)
  (try clear hHeld4)
  have c23 := c23'
  have hq2 := hq2'
  have HB02 := HB02'
  have HR2 := HR2'
  have H23b := H23'
  clear c23' hq2' HB02' HR2' H23'
  have hnl : ¬ (l : Int) < 1 := by omega
  have hnls : ¬ (s : Int) < (l : Int) := by omega
  have hnsa : ¬ (a : Int) < (s : Int) := by omega
  have hl0 : ((l : Int) == 0) = false := by simp; omega
  have hs0 : ((s : Int) == 0) = false := by simp; omega
  obtain ⟨⟨hm1, hm2⟩, hm3, hm4⟩ := HM.out
  go_upto_region 10 with fail
  clear hm1 hm2 hm3 hm4 hnl hnls hnsa hl0 hs0
  (try clear hc)
  (try clear hf)
  (try clear hc)
  (try clear hf)
  obtain ⟨b', o', eA, hbB', c0, c1⟩ := HR2.out k g HG.out
  have eA' : b = b' ∧ o = o' := by simp at eA; exact eA
  rw [← eA'.1, ← eA'.2] at c0 c1
  clear eA eA' hbB'
  go_upto_region 11 with fail
  have HT6 := hide (((HR2.out.take k).below (Below.alloc (Below.refl _ _) (Nat.le_refl _) (.cells #[.int .i64 g.A, .int .i64 g.B] 32 (0, 0)))).mono (B' := (w5.alloc (.cells #[.int .i64 g.A, .int .i64 g.B] 32 (0, 0))).heap.size) (by simp))
  have h23 := (heap_alloc_old w5 (.cells #[.int .i64 g.A, .int .i64 g.B] 32 (0, 0)) hq2).trans H23b.out
  have hcg : (w5.alloc (.cells #[.int .i64 g.A, .int .i64 g.B] 32 (0, 0))).cell? ⟨w5.heap.size, 0, none⟩ = some (.int .i64 g.A) ∧ (w5.alloc (.cells #[.int .i64 g.A, .int .i64 g.B] 32 (0, 0))).cell? ⟨w5.heap.size, 1, none⟩ = some (.int .i64 g.B) := ⟨(alloc_cell w5 _ rfl _ _ _).trans rfl, (alloc_cell w5 _ rfl _ _ _).trans rfl⟩
  have hq6 : w5.heap.size < (w5.alloc (.cells #[.int .i64 g.A, .int .i64 g.B] 32 (0, 0))).heap.size := by simp
  have HB6 := hide (Below.alloc HB02.out HB02.out.size (.cells #[.int .i64 g.A, .int .i64 g.B] 32 (0, 0)))
  clear c23 HR2 HB02 H23b
  generalize (w5.alloc (.cells #[.int .i64 g.A, .int .i64 g.B] 32 (0, 0))) = w6 at HT6 h23 hcg hq6 HB6 ⊢
  have H23b := hide h23
  clear h23
  generalize w5.heap.size = q at hcg hq6 hq2 ⊢
  refine wp_region_held_drew (S := (fun w' => w6.heap.size ≤ w'.heap.size ∧ w'.cell? ⟨q, 0, none⟩ = some (.int .i64 g.A) ∧ w'.cell? ⟨q, 1, none⟩ = some (.int .i64 g.B))) (by kernel_rfl) ?_ (fun hHeld0 => ?_)
  · (try dsimp only); (first | (go_keep; done) | (go_split_ands; (repeat' apply And.intro) <;> first | (go_keep; done) | (simp [*, World.cell?_alloc_at, World.cell?_alloc_past, World.frozen?_alloc_at, World.frozen?_alloc_past]; done) | (simp [World.cell?_alloc_at, World.cell?_alloc_past]; done) | (simp [World.cell?_alloc_at, World.cell?_alloc_past]; rfl) | (simp [*, World.cell?_setCell_same', World.cell?_setCell_other, World.cell?_alloc_some]; done) | (refine (hc _ _ (by first | (simp; done) | (simp; omega) | omega)).trans ?_; (first | (go_keep; done) | assumption | (simp [*, World.cell?_alloc_at, World.cell?_alloc_past, World.frozen?_alloc_at, World.frozen?_alloc_past]; done) | (simp [World.cell?_alloc_at, World.cell?_alloc_past]; rfl))) | (refine (hf _ _ (by first | (simp; done) | (simp; omega) | omega)).trans ?_; (first | (go_keep; done) | assumption | (simp [*, World.cell?_alloc_at, World.cell?_alloc_past, World.frozen?_alloc_at, World.frozen?_alloc_past]; done))) | (repeat' first | exact Below.refl _ _ | assumption | refine Below.drew ?_ | refine Below.alloc ?_ ?_ _ | refine Below.setCell ?_ ?_ _ | refine Below.trans ?_ (Below.mono (by assumption) ?_) | (simp; done) | (simp; omega) | omega) | (simp; omega) | omega))
  refine takeL (v := ?_) 1 rfl (by kernel_rfl) (by kernel_rfl) (by kernel_rfl) (fun _ _ _ h => h) (Or.inl ⟨by rfl, ?_⟩) (by assumption) ?_
  rotate_left
  · (intro w hSw; (try dsimp only at hSw); go_simp; try with_reducible rfl)
  try simp only [Act.put, List.setIfInBounds_toArray, List.set_cons_zero, List.set_cons_succ]
  refine takeL (v := ?_) 2 rfl (by kernel_rfl) (by kernel_rfl) (by kernel_rfl) (fun _ _ _ h => h) (Or.inl ⟨by rfl, ?_⟩) (by assumption) ?_
  rotate_left
  · (intro w hSw; (try dsimp only at hSw); go_simp; try with_reducible rfl)
  try simp only [Act.put, List.setIfInBounds_toArray, List.set_cons_zero, List.set_cons_succ]
  refine takeL (v := ?_) 3 rfl (by kernel_rfl) (by kernel_rfl) (by kernel_rfl) (fun _ _ _ h => h) (Or.inl ⟨by rfl, ?_⟩) (by assumption) ?_
  rotate_left
  · (intro w hSw; (try dsimp only at hSw); go_simp; try with_reducible rfl)
  try simp only [Act.put, List.setIfInBounds_toArray, List.set_cons_zero, List.set_cons_succ]
  refine takeL (v := ?_) 5 rfl (by kernel_rfl) (by kernel_rfl) (by kernel_rfl) (fun _ _ _ h => h) (Or.inl ⟨by rfl, ?_⟩) (by assumption) ?_
  rotate_left
  · (intro w hSw; (try dsimp only at hSw); go_simp; try with_reducible rfl)
  try simp only [Act.put, List.setIfInBounds_toArray, List.set_cons_zero, List.set_cons_succ]
  refine wpAnyH_ready (rs := [0]) (by kernel_rfl) (by simp) ?_
  refine consL 0 rfl (fun K hK => ?_) AllReadyH.nil
  go_simp
  refine hK.out _ _ ?_ (fun hHeld1 => ?_)
  · (try dsimp only); (first | (go_keep; done) | (go_split_ands; (repeat' apply And.intro) <;> first | (go_keep; done) | (simp [*, World.cell?_alloc_at, World.cell?_alloc_past, World.frozen?_alloc_at, World.frozen?_alloc_past]; done) | (simp [World.cell?_alloc_at, World.cell?_alloc_past]; done) | (simp [World.cell?_alloc_at, World.cell?_alloc_past]; rfl) | (simp [*, World.cell?_setCell_same', World.cell?_setCell_other, World.cell?_alloc_some]; done) | (refine (hc _ _ (by first | (simp; done) | (simp; omega) | omega)).trans ?_; (first | (go_keep; done) | assumption | (simp [*, World.cell?_alloc_at, World.cell?_alloc_past, World.frozen?_alloc_at, World.frozen?_alloc_past]; done) | (simp [World.cell?_alloc_at, World.cell?_alloc_past]; rfl))) | (refine (hf _ _ (by first | (simp; done) | (simp; omega) | omega)).trans ?_; (first | (go_keep; done) | assumption | (simp [*, World.cell?_alloc_at, World.cell?_alloc_past, World.frozen?_alloc_at, World.frozen?_alloc_past]; done))) | (repeat' first | exact Below.refl _ _ | assumption | refine Below.drew ?_ | refine Below.alloc ?_ ?_ _ | refine Below.setCell ?_ ?_ _ | refine Below.trans ?_ (Below.mono (by assumption) ?_) | (simp; done) | (simp; omega) | omega) | (simp; omega) | omega))
  clear hK K hHeld0
  try simp only [Act.put, List.setIfInBounds_toArray, List.set_cons_zero, List.set_cons_succ]
  refine wpAnyH_ready (rs := [4]) (by kernel_rfl) (by simp) ?_
  refine consL 4 rfl (fun K hK => ?_) AllReadyH.nil
  first | (refine step_app rfl (.tmp 114) (.tmp 117) rfl w6.heap.size _ ([] ++ ps.take k) rfl (by have e : ([] ++ ps.take k).length = k := (by simp; have := HN.out; omega); rw [e]; (first | exact hown | exact hown.alloc _ | exact (hown.kept (only_of_below' hbC) (own_or_none _)).alloc _)) _ 1 1 [M.swap g] rfl rfl (RdP_blk (p := M.swap g) (by first | exact heap_alloc_new _ _ | exact (hgrow.block _ (by simp; try omega) (by simp [Value.ownBlock]; try omega)).trans (heap_alloc_new _ _) | exact (hgrow.block _ (by simp; try omega) (by simp [Value.ownBlock]; try omega)).trans ((heap_alloc_old _ _ (by simp; try omega)).trans (heap_alloc_new _ _)))) (k + 1) (by simp; have := HN.out; omega) (by simp; have := HN.out; omega) (by omega) (by first | omega | (simp; try omega)) ?_; intro A8 c8 w8 hown8 hgrow8; have HX := hide (owns_RdP hown8 (by simp; have := HN.out; omega)); have HY := hide (show Below w6.heap.size w6 w8 from (((((Below.alloc (Below.refl _ w6) (Nat.le_refl _) (.cells #[] 32 (0, 0))).drew.trans hb3).trans (hbC.mono (by simp at hz3; omega))).alloc (by simp at hz3; omega) _)).trans (grown_below hgrow8 (by simp at hz3; simp; omega) (fun g hg => (hown.lt g hg).1))); have hc := fun b o (h : b < w6.heap.size) => (HY.out).cell (p := ⟨b, o, none⟩) h; have hz8 := HY.out.size) | (refine step_app rfl (.tmp 110) (.tmp 113) rfl w6.heap.size _ [] rfl (owns_empty (by first | exact heap_alloc_new _ _ | exact (heap_alloc_old _ _ (by simp; try omega)).trans (heap_alloc_new _ _) | exact (hbC.block _ (by simp; try omega)).trans (heap_alloc_new _ _) | exact (heap_alloc_old _ _ (by first | omega | (simp; try omega))).trans ((hbC.block _ (by simp; try omega)).trans (heap_alloc_new _ _))) (by first | omega | (simp; try omega))) ⟨b, o, none⟩ k c (ps.take k) rfl (by rw [List.length_take]; have := HN.out; omega) ((HT6.out.below (show Below w6.heap.size w6 _ from by (repeat' first | exact Below.refl _ _ | assumption | refine Below.drew ?_ | refine Below.alloc ?_ ?_ _ | refine Below.setCell ?_ ?_ _ | refine Below.trans ?_ (Below.mono (by assumption) ?_) | (simp; done) | (simp; omega) | omega))).mono (by first | (simp; done) | (simp; omega) | omega)) k (by simp) (by simp) (by omega) (by first | omega | (simp; try omega)) ?_; intro A' c' w3 hown hgrow; have hb3 := grown_below (B := w6.heap.size) hgrow (by first | omega | (simp; try omega)) (fun g hg => by have hg' := Option.some.inj hg; first | exact Nat.le_of_eq hg' | exact Nat.le_trans (show w6.heap.size ≤ wC.heap.size by omega) (Nat.le_of_eq hg') | exact Nat.le_trans (show w6.heap.size ≤ wC.heap.size + 1 by omega) (Nat.le_of_eq hg')); have hz3 := hb3.size; have hc := fun b o (h : b < w6.heap.size) => hb3.cell (p := ⟨b, o, none⟩) h)
  refine hK.out _ _ ?_ (fun hHeld2 => ?_)
  · (try dsimp only); (first | (go_keep; done) | (go_split_ands; (repeat' apply And.intro) <;> first | (go_keep; done) | (simp [*, World.cell?_alloc_at, World.cell?_alloc_past, World.frozen?_alloc_at, World.frozen?_alloc_past]; done) | (simp [World.cell?_alloc_at, World.cell?_alloc_past]; done) | (simp [World.cell?_alloc_at, World.cell?_alloc_past]; rfl) | (simp [*, World.cell?_setCell_same', World.cell?_setCell_other, World.cell?_alloc_some]; done) | (refine (hc _ _ (by first | (simp; done) | (simp; omega) | omega)).trans ?_; (first | (go_keep; done) | assumption | (simp [*, World.cell?_alloc_at, World.cell?_alloc_past, World.frozen?_alloc_at, World.frozen?_alloc_past]; done) | (simp [World.cell?_alloc_at, World.cell?_alloc_past]; rfl))) | (refine (hf _ _ (by first | (simp; done) | (simp; omega) | omega)).trans ?_; (first | (go_keep; done) | assumption | (simp [*, World.cell?_alloc_at, World.cell?_alloc_past, World.frozen?_alloc_at, World.frozen?_alloc_past]; done))) | (repeat' first | exact Below.refl _ _ | assumption | refine Below.drew ?_ | refine Below.alloc ?_ ?_ _ | refine Below.setCell ?_ ?_ _ | refine Below.trans ?_ (Below.mono (by assumption) ?_) | (simp; done) | (simp; omega) | omega) | (simp; omega) | omega))
  clear hK K hHeld1
  try simp only [Act.put, List.setIfInBounds_toArray, List.set_cons_zero, List.set_cons_succ]
  refine wpAnyH_ready (rs := [6]) (by kernel_rfl) (by simp) ?_
  refine consL 6 rfl (fun K hK => ?_) AllReadyH.nil
  go_simp
  (go_at_call 26; refine (lawSwapped_any g _).mono ?_; rintro e wC ⟨rfl, hbC⟩; obtain ⟨hc, hf⟩ := bcell hbC; have hzC := hbC.size; (try simp at hzC))
  refine hK.out _ _ ?_ (fun hHeld3 => ?_)
  · (try dsimp only); (first | (go_keep; done) | (go_split_ands; (repeat' apply And.intro) <;> first | (go_keep; done) | (simp [*, World.cell?_alloc_at, World.cell?_alloc_past, World.frozen?_alloc_at, World.frozen?_alloc_past]; done) | (simp [World.cell?_alloc_at, World.cell?_alloc_past]; done) | (simp [World.cell?_alloc_at, World.cell?_alloc_past]; rfl) | (simp [*, World.cell?_setCell_same', World.cell?_setCell_other, World.cell?_alloc_some]; done) | (refine (hc _ _ (by first | (simp; done) | (simp; omega) | omega)).trans ?_; (first | (go_keep; done) | assumption | (simp [*, World.cell?_alloc_at, World.cell?_alloc_past, World.frozen?_alloc_at, World.frozen?_alloc_past]; done) | (simp [World.cell?_alloc_at, World.cell?_alloc_past]; rfl))) | (refine (hf _ _ (by first | (simp; done) | (simp; omega) | omega)).trans ?_; (first | (go_keep; done) | assumption | (simp [*, World.cell?_alloc_at, World.cell?_alloc_past, World.frozen?_alloc_at, World.frozen?_alloc_past]; done))) | (repeat' first | exact Below.refl _ _ | assumption | refine Below.drew ?_ | refine Below.alloc ?_ ?_ _ | refine Below.setCell ?_ ?_ _ | refine Below.trans ?_ (Below.mono (by assumption) ?_) | (simp; done) | (simp; omega) | omega) | (simp; omega) | omega))
  clear hK K hHeld2
  try simp only [Act.put, List.setIfInBounds_toArray, List.set_cons_zero, List.set_cons_succ]
  refine wpAnyH_ready (rs := [7]) (by kernel_rfl) (by simp) ?_
  refine consL 7 rfl (fun K hK => ?_) AllReadyH.nil
  go_simp
  refine hK.out _ _ ?_ (fun hHeld4 => ?_)
  · (try dsimp only); (first | (go_keep; done) | (go_split_ands; (repeat' apply And.intro) <;> first | (go_keep; done) | (simp [*, World.cell?_alloc_at, World.cell?_alloc_past, World.frozen?_alloc_at, World.frozen?_alloc_past]; done) | (simp [World.cell?_alloc_at, World.cell?_alloc_past]; done) | (simp [World.cell?_alloc_at, World.cell?_alloc_past]; rfl) | (simp [*, World.cell?_setCell_same', World.cell?_setCell_other, World.cell?_alloc_some]; done) | (refine (hc _ _ (by first | (simp; done) | (simp; omega) | omega)).trans ?_; (first | (go_keep; done) | assumption | (simp [*, World.cell?_alloc_at, World.cell?_alloc_past, World.frozen?_alloc_at, World.frozen?_alloc_past]; done) | (simp [World.cell?_alloc_at, World.cell?_alloc_past]; rfl))) | (refine (hf _ _ (by first | (simp; done) | (simp; omega) | omega)).trans ?_; (first | (go_keep; done) | assumption | (simp [*, World.cell?_alloc_at, World.cell?_alloc_past, World.frozen?_alloc_at, World.frozen?_alloc_past]; done))) | (repeat' first | exact Below.refl _ _ | assumption | refine Below.drew ?_ | refine Below.alloc ?_ ?_ _ | refine Below.setCell ?_ ?_ _ | refine Below.trans ?_ (Below.mono (by assumption) ?_) | (simp; done) | (simp; omega) | omega) | (simp; omega) | omega))
  clear hK K hHeld3
  try simp only [Act.put, List.setIfInBounds_toArray, List.set_cons_zero, List.set_cons_succ]
  refine wpAnyH_ready (rs := [8]) (by kernel_rfl) (by simp) ?_
  refine consL 8 rfl (fun K hK => ?_) AllReadyH.nil
  first | (refine step_app rfl (.tmp 114) (.tmp 117) rfl w6.heap.size _ ([] ++ ps.take k) rfl (by have e : ([] ++ ps.take k).length = k := (by simp; have := HN.out; omega); rw [e]; (first | exact hown | exact hown.alloc _ | exact (hown.kept (only_of_below' hbC) (own_or_none _)).alloc _)) _ 1 1 [M.swap g] rfl rfl (RdP_blk (p := M.swap g) (by first | exact heap_alloc_new _ _ | exact (hgrow.block _ (by simp; try omega) (by simp [Value.ownBlock]; try omega)).trans (heap_alloc_new _ _) | exact (hgrow.block _ (by simp; try omega) (by simp [Value.ownBlock]; try omega)).trans ((heap_alloc_old _ _ (by simp; try omega)).trans (heap_alloc_new _ _)))) (k + 1) (by simp; have := HN.out; omega) (by simp; have := HN.out; omega) (by omega) (by first | omega | (simp; try omega)) ?_; intro A8 c8 w8 hown8 hgrow8; have HX := hide (owns_RdP hown8 (by simp; have := HN.out; omega)); have HY := hide (show Below w6.heap.size w6 w8 from (((((Below.alloc (Below.refl _ w6) (Nat.le_refl _) (.cells #[] 32 (0, 0))).drew.trans hb3).trans (hbC.mono (by simp at hz3; omega))).alloc (by simp at hz3; omega) _)).trans (grown_below hgrow8 (by simp at hz3; simp; omega) (fun g hg => (hown.lt g hg).1))); have hc := fun b o (h : b < w6.heap.size) => (HY.out).cell (p := ⟨b, o, none⟩) h; have hz8 := HY.out.size) | (refine step_app rfl (.tmp 110) (.tmp 113) rfl w6.heap.size _ [] rfl (owns_empty (by first | exact heap_alloc_new _ _ | exact (heap_alloc_old _ _ (by simp; try omega)).trans (heap_alloc_new _ _) | exact (hbC.block _ (by simp; try omega)).trans (heap_alloc_new _ _) | exact (heap_alloc_old _ _ (by first | omega | (simp; try omega))).trans ((hbC.block _ (by simp; try omega)).trans (heap_alloc_new _ _))) (by first | omega | (simp; try omega))) ⟨b, o, none⟩ k c (ps.take k) rfl (by rw [List.length_take]; have := HN.out; omega) ((HT6.out.below (show Below w6.heap.size w6 _ from by (repeat' first | exact Below.refl _ _ | assumption | refine Below.drew ?_ | refine Below.alloc ?_ ?_ _ | refine Below.setCell ?_ ?_ _ | refine Below.trans ?_ (Below.mono (by assumption) ?_) | (simp; done) | (simp; omega) | omega))).mono (by first | (simp; done) | (simp; omega) | omega)) k (by simp) (by simp) (by omega) (by first | omega | (simp; try omega)) ?_; intro A' c' w3 hown hgrow; have hb3 := grown_below (B := w6.heap.size) hgrow (by first | omega | (simp; try omega)) (fun g hg => by have hg' := Option.some.inj hg; first | exact Nat.le_of_eq hg' | exact Nat.le_trans (show w6.heap.size ≤ wC.heap.size by omega) (Nat.le_of_eq hg') | exact Nat.le_trans (show w6.heap.size ≤ wC.heap.size + 1 by omega) (Nat.le_of_eq hg')); have hz3 := hb3.size; have hc := fun b o (h : b < w6.heap.size) => hb3.cell (p := ⟨b, o, none⟩) h)
  refine hK.out _ _ ?_ (fun hHeld5 => ?_)
  · (try dsimp only); (first | (go_keep; done) | (go_split_ands; (repeat' apply And.intro) <;> first | (go_keep; done) | (simp [*, World.cell?_alloc_at, World.cell?_alloc_past, World.frozen?_alloc_at, World.frozen?_alloc_past]; done) | (simp [World.cell?_alloc_at, World.cell?_alloc_past]; done) | (simp [World.cell?_alloc_at, World.cell?_alloc_past]; rfl) | (simp [*, World.cell?_setCell_same', World.cell?_setCell_other, World.cell?_alloc_some]; done) | (refine (hc _ _ (by first | (simp; done) | (simp; omega) | omega)).trans ?_; (first | (go_keep; done) | assumption | (simp [*, World.cell?_alloc_at, World.cell?_alloc_past, World.frozen?_alloc_at, World.frozen?_alloc_past]; done) | (simp [World.cell?_alloc_at, World.cell?_alloc_past]; rfl))) | (refine (hf _ _ (by first | (simp; done) | (simp; omega) | omega)).trans ?_; (first | (go_keep; done) | assumption | (simp [*, World.cell?_alloc_at, World.cell?_alloc_past, World.frozen?_alloc_at, World.frozen?_alloc_past]; done))) | (repeat' first | exact Below.refl _ _ | assumption | refine Below.drew ?_ | refine Below.alloc ?_ ?_ _ | refine Below.setCell ?_ ?_ _ | refine Below.trans ?_ (Below.mono (by assumption) ?_) | (simp; done) | (simp; omega) | omega) | (simp; omega) | omega))
  clear hK K hHeld4
  try simp only [Act.put, List.setIfInBounds_toArray, List.set_cons_zero, List.set_cons_succ]
  refine takeL (v := ?_) 9 rfl (by kernel_rfl) (by kernel_rfl) (by kernel_rfl) (fun _ _ _ h => h) (Or.inl ⟨by rfl, ?_⟩) (by assumption) ?_
  rotate_left
  · (intro w hSw; (try dsimp only at hSw); go_simp; try with_reducible rfl)
  try simp only [Act.put, List.setIfInBounds_toArray, List.set_cons_zero, List.set_cons_succ]
  refine wpAnyH_done (by kernel_rfl) ?_ _
  have h23 := (HY.out.block w.heap.size (by omega)).trans H23b.out
  have hcf := fun i => cell_of_row w8 w.heap.size i _ _ _ h23
  have HBF := hide (HB6.out.trans (HY.out.mono (by omega)))
  clear hcg hc h23 hown hgrow hown8 hgrow8 hb3 hbC HY H23b HB6
  (try clear hHeld0)
  (try clear hHeld1)
  (try clear hHeld2)
  (try clear hHeld3)
  (try clear hHeld4)
  (try clear hHeld5)
  go_wp2_with (first | (go_at_call 31; refine (Ways_val f _ _ _ (ps.take k ++ [M.swap g]) (s : Int) 0 _ HW3.out.1 HW3.out.2 (by simp; have := HN.out; omega) HX.out (by omega)).mono ?_; rintro e w9 ⟨rfl, hb9⟩) | (go_at_call 9; refine (works_any _).mono ?_; rintro e w10 ⟨rfl, hb10⟩))
  go_ret
  exact ⟨rfl, HBF.out.trans ((hb9.mono HBF.out.size).trans (hb10.mono (Nat.le_trans HBF.out.size hb9.size)))⟩

end Go.Proofs.Ytlhbimifhclojaa
