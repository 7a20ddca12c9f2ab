/-
  Contracts: the law ScoreOrders.
-/
import Derived.Test.YtlhbimifhclojaaApp
import Derived.Test.YtlhbimifhclojaaRefCheck
import Derived.Test.YtlhbimifhclojaaModel9
import Derived.IntWalk
namespace Go.Proofs.Ytlhbimifhclojaa
open Go.RowKit
attribute [local go_sem ↓] Go.wp_at_zero Go.wp_at_succ

theorem RefCheck_bad (f : M.Fm) (w : World) (h : M.validB f = false) : Calls Try.prog 11 #[.agg #[.int .i64 f.sets, .int .i64 f.games, .bool f.noAd, .int .i64 f.tie, .int .i64 f.to, .int .i64 f.lastTie, .int .i64 f.lastTo, .int .i64 f.first, .int .i64 f.next, .bool f.doubles]] w fun e w' => e = .returned (.int .i64 10) ∧ Below w.heap.size w w' := by
  have := RefCheck_any f w
  rwa [if_neg (by simp [h])] at this
theorem RefCheck_good (f : M.Fm) (w : World) (h : M.validB f = true) : Calls Try.prog 11 #[.agg #[.int .i64 f.sets, .int .i64 f.games, .bool f.noAd, .int .i64 f.tie, .int .i64 f.to, .int .i64 f.lastTie, .int .i64 f.lastTo, .int .i64 f.first, .int .i64 f.next, .bool f.doubles]] w fun e w' => e = .returned (.int .i64 0) ∧ Below w.heap.size w w' := by
  have := RefCheck_any f w
  rwa [if_pos h] at this

theorem RdP.drew {w : World} {B : Nat} {A : Option Addr} {ps : List M.Pr} (h : RdP w B A ps) : RdP w.drew B A ps := h
set_option maxHeartbeats 2000000 in
theorem ordersLaw_out (f : M.Fm) (A : Option Addr) (n c : Nat) (cut : Int) (w : World) (h : M.validB f = false ∨ (M.validB f = true ∧ ((5 : Int) < n ∨ (¬ (5 : Int) < n ∧ (cut < 0 ∨ (¬ cut < 0 ∧ (n : Int) ≤ cut)))))) :
    Calls Try.prog 8 #[.agg #[.int .i64 f.sets, .int .i64 f.games, .bool f.noAd, .int .i64 f.tie, .int .i64 f.to, .int .i64 f.lastTie, .int .i64 f.lastTo, .int .i64 f.first, .int .i64 f.next, .bool f.doubles], .slice A n c, .int .i64 cut] w fun e w' => e = .returned (.bool true) ∧ Below w.heap.size w w' := by
  rcases h with hv | ⟨hv, h5 | ⟨h5, h0 | ⟨h0, hn⟩⟩⟩
  · go_enter Try.func8, Try.ntmps8
    go_wp2_with (first | (go_at_call 11; refine (RefCheck_bad f _ hv).mono ?_; rintro e w1 ⟨rfl, hb1⟩; have hz1 := hb1.size; (try simp at hz1)) | (go_at_call 9; refine (works_any _).mono ?_; rintro e w2 ⟨rfl, hb2⟩))
    go_ret
    exact ⟨rfl, by (repeat' first | exact Below.refl _ _ | assumption | refine Below.drew ?_ | refine Below.alloc ?_ ?_ _ | refine Below.setCell ?_ ?_ _ | refine Below.trans ?_ (Below.mono (by assumption) ?_) | (simp; done) | (simp; omega) | omega)⟩
  · go_enter Try.func8, Try.ntmps8
    go_wp2_with (first | (go_at_call 11; refine (RefCheck_good f _ hv).mono ?_; rintro e w1 ⟨rfl, hb1⟩; have hz1 := hb1.size; (try simp at hz1)) | (go_at_call 9; refine (works_any _).mono ?_; rintro e w2 ⟨rfl, hb2⟩))
    go_ret
    exact ⟨rfl, by (repeat' first | exact Below.refl _ _ | assumption | refine Below.drew ?_ | refine Below.alloc ?_ ?_ _ | refine Below.setCell ?_ ?_ _ | refine Below.trans ?_ (Below.mono (by assumption) ?_) | (simp; done) | (simp; omega) | omega)⟩
  · go_enter Try.func8, Try.ntmps8
    go_wp2_with (first | (go_at_call 11; refine (RefCheck_good f _ hv).mono ?_; rintro e w1 ⟨rfl, hb1⟩; have hz1 := hb1.size; (try simp at hz1)) | (go_at_call 9; refine (works_any _).mono ?_; rintro e w2 ⟨rfl, hb2⟩))
    go_ret
    exact ⟨rfl, by (repeat' first | exact Below.refl _ _ | assumption | refine Below.drew ?_ | refine Below.alloc ?_ ?_ _ | refine Below.setCell ?_ ?_ _ | refine Below.trans ?_ (Below.mono (by assumption) ?_) | (simp; done) | (simp; omega) | omega)⟩
  · go_enter Try.func8, Try.ntmps8
    go_wp2_with (first | (go_at_call 11; refine (RefCheck_good f _ hv).mono ?_; rintro e w1 ⟨rfl, hb1⟩; have hz1 := hb1.size; (try simp at hz1)) | (go_at_call 9; refine (works_any _).mono ?_; rintro e w2 ⟨rfl, hb2⟩))
    go_ret
    exact ⟨rfl, by (repeat' first | exact Below.refl _ _ | assumption | refine Below.drew ?_ | refine Below.alloc ?_ ?_ _ | refine Below.setCell ?_ ?_ _ | refine Below.trans ?_ (Below.mono (by assumption) ?_) | (simp; done) | (simp; omega) | omega)⟩

theorem Ways_val (f : M.Fm) (A : Option Addr) (n c : Nat) (ps : List M.Pr) (v e : Int) (w : World) (hv : M.waysV f ps = v) (he : M.waysE f ps = e) (hn : ps.length = n) (hr : RdP w w.heap.size A ps) (hm : n ≤ 1000000) :
    Calls Try.prog 31 #[.agg #[.int .i64 f.sets, .int .i64 f.games, .bool f.noAd, .int .i64 f.tie, .int .i64 f.to, .int .i64 f.lastTie, .int .i64 f.lastTo, .int .i64 f.first, .int .i64 f.next, .bool f.doubles], .slice A n c] w fun e' w' => e' = .returned (.tuple #[.int .i64 v, .int .i64 e]) ∧ Below w.heap.size w w' := by
  subst hv he
  exact Ways_any f A n c ps w hn hr hm

set_option maxHeartbeats 8000000 in
set_option maxRecDepth 100000 in
theorem ordersLaw_err (f : M.Fm) (A : Option Addr) (n c k : Nat) (ps : List M.Pr) (w : World) (hv : M.validB f = true) (hn : ps.length = n) (hr : RdP w w.heap.size A ps) (h5 : n ≤ 5) (hnc : n ≤ c) (hk : k < n) (hcm : c ≤ maxLen) (he : M.waysE f ps ≠ 0) :
    Calls Try.prog 8 #[.agg #[.int .i64 f.sets, .int .i64 f.games, .bool f.noAd, .int .i64 f.tie, .int .i64 f.to, .int .i64 f.lastTie, .int .i64 f.lastTo, .int .i64 f.first, .int .i64 f.next, .bool f.doubles], .slice A n c, .int .i64 (k : Int)] w fun e w' => e = .returned (.bool true) ∧ Below w.heap.size w w' := by
  obtain ⟨g, hg⟩ : ∃ g, ps[k]? = some g := ⟨_, List.getElem?_eq_getElem (by omega)⟩
  obtain ⟨b, o, hA, hbB, _, _⟩ := hr k g hg
  subst hA
  obtain ⟨v0, e0, HW0⟩ : ∃ v e : Int, Hid (M.waysV f ps = v ∧ M.waysE f ps = e) := ⟨_, _, hide ⟨rfl, rfl⟩⟩
  obtain ⟨v1, e1, HW1⟩ : ∃ v e : Int, Hid (M.waysV f (ps.take (k + 1)) = v ∧ M.waysE f (ps.take (k + 1)) = e) := ⟨_, _, hide ⟨rfl, rfl⟩⟩
  obtain ⟨v2, e2, HW2⟩ : ∃ v e : Int, Hid (M.waysV f (ps.take k) = v ∧ M.waysE f (ps.take k) = e) := ⟨_, _, hide ⟨rfl, rfl⟩⟩
  have he0 : e0 = 12 ∨ e0 = 2 := by rcases M.waysE_cases hv ps with h | h | h <;> rw [HW0.out.2] at h he <;> omega
  clear he
  have HN := hide hn
  have HR := hide hr
  have HG := hide hg
  have hv5 : ¬ (5 : Int) < (n : Int) := by omega
  have hk0 : ¬ (k : Int) < 0 := by omega
  have hkn : ¬ (n : Int) ≤ (k : Int) := by omega
  have hk1 : IntKind.i64.wrap ((k : Int) + 1) = (k : Int) + 1 := IntWalk.i64_in _ (by omega)
  have hk2 : (0 : Int) ≤ (k : Int) + 1 := by omega
  have hk3 : ((k : Int) + 1).toNat = k + 1 := by omega
  have hk4 : (k : Int) + 1 ≤ (c : Int) := by omega
  have hk5 : (k : Int) ≤ (c : Int) := by omega
  have hcm' : (c : Int) ≤ 9223372036854775807 := by unfold maxLen at hcm; omega
  clear hn hr hg hcm
  go_enter Try.func8, Try.ntmps8
  go_upto_region 4 with (first | (go_at_call 11; refine (RefCheck_good f _ hv).mono ?_; rintro e w1 ⟨rfl, hb1⟩; have h23 := (hb1.block w.heap.size (by simp)).trans (heap_alloc_new w _); have hcf := fun i => cell_of_row w1 w.heap.size i _ _ _ h23; have H23 := hide h23; have hq1 : w.heap.size < w1.heap.size := (by have := hb1.size; simp at this; omega); have HB1 := hide (show Below w.heap.size w w1 from Below.trans (by (repeat' first | exact Below.refl _ _ | assumption | refine Below.drew ?_ | refine Below.alloc ?_ ?_ _ | refine Below.setCell ?_ ?_ _ | refine Below.trans ?_ (Below.mono (by assumption) ?_) | (simp; done) | (simp; omega) | omega)) (hb1.mono (by simp))); clear hb1 h23) | (go_at_call 31; refine (Ways_val f _ n c ps v0 e0 _ HW0.out.1 HW0.out.2 HN.out ((HR.out.below HB1.out).mono HB1.out.size) (by omega)).mono ?_; rintro e w2 ⟨rfl, hb2⟩; have HB2 := hide hb2; clear hb2))
  have h23 := (HB2.out.block w.heap.size hq1).trans H23.out
  have c23 : w2.cell? ⟨w.heap.size, 0, none⟩ = some (.int .i64 f.sets) ∧ w2.cell? ⟨w.heap.size, 1, none⟩ = some (.int .i64 f.games) ∧ w2.cell? ⟨w.heap.size, 2, none⟩ = some (.bool f.noAd) ∧ w2.cell? ⟨w.heap.size, 3, none⟩ = some (.int .i64 f.tie) ∧ w2.cell? ⟨w.heap.size, 4, none⟩ = some (.int .i64 f.to) ∧ w2.cell? ⟨w.heap.size, 5, none⟩ = some (.int .i64 f.lastTie) ∧ w2.cell? ⟨w.heap.size, 6, none⟩ = some (.int .i64 f.lastTo) ∧ w2.cell? ⟨w.heap.size, 7, none⟩ = some (.int .i64 f.first) ∧ w2.cell? ⟨w.heap.size, 8, none⟩ = some (.int .i64 f.next) ∧ w2.cell? ⟨w.heap.size, 9, none⟩ = some (.bool f.doubles) := by (repeat' apply And.intro) <;> exact (cell_of_row _ _ _ _ _ _ h23).trans rfl
  have hq2 : w.heap.size < w2.heap.size := Nat.lt_of_lt_of_le hq1 HB2.out.size
  have HB02 := hide (HB1.out.trans (HB2.out.mono HB1.out.size))
  have HR2 := hide ((HR.out.below HB02.out).mono HB02.out.size)
  have H23b := hide h23
  clear h23 H23 HB1 HB2 hq1 hcf HR w1
  refine wp_region_held_drew (S := (fun w' => w2.heap.size ≤ w'.heap.size ∧ w'.cell? ⟨w.heap.size, 0, none⟩ = some (.int .i64 f.sets) ∧ w'.cell? ⟨w.heap.size, 1, none⟩ = some (.int .i64 f.games) ∧ w'.cell? ⟨w.heap.size, 2, none⟩ = some (.bool f.noAd) ∧ w'.cell? ⟨w.heap.size, 3, none⟩ = some (.int .i64 f.tie) ∧ w'.cell? ⟨w.heap.size, 4, none⟩ = some (.int .i64 f.to) ∧ w'.cell? ⟨w.heap.size, 5, none⟩ = some (.int .i64 f.lastTie) ∧ w'.cell? ⟨w.heap.size, 6, none⟩ = some (.int .i64 f.lastTo) ∧ w'.cell? ⟨w.heap.size, 7, none⟩ = some (.int .i64 f.first) ∧ w'.cell? ⟨w.heap.size, 8, none⟩ = some (.int .i64 f.next) ∧ w'.cell? ⟨w.heap.size, 9, none⟩ = some (.bool f.doubles))) (by kernel_rfl) ?_ (fun hHeld0 => ?_)
  · (try dsimp only); (first | (go_keep; done) | (go_split_ands; (repeat' apply And.intro) <;> first | (go_keep; done) | (simp [*, World.cell?_alloc_at, World.cell?_alloc_past, World.frozen?_alloc_at, World.frozen?_alloc_past]; done) | (simp [World.cell?_alloc_at, World.cell?_alloc_past]; done) | (simp [World.cell?_alloc_at, World.cell?_alloc_past]; rfl) | (simp [*, World.cell?_setCell_same', World.cell?_setCell_other, World.cell?_alloc_some]; done) | (refine (hc _ _ (by first | (simp; done) | (simp; omega) | omega)).trans ?_; (first | (go_keep; done) | assumption | (simp [*, World.cell?_alloc_at, World.cell?_alloc_past, World.frozen?_alloc_at, World.frozen?_alloc_past]; done) | (simp [World.cell?_alloc_at, World.cell?_alloc_past]; rfl))) | (refine (hf _ _ (by first | (simp; done) | (simp; omega) | omega)).trans ?_; (first | (go_keep; done) | assumption | (simp [*, World.cell?_alloc_at, World.cell?_alloc_past, World.frozen?_alloc_at, World.frozen?_alloc_past]; done))) | (repeat' first | exact Below.refl _ _ | assumption | refine Below.drew ?_ | refine Below.alloc ?_ ?_ _ | refine Below.setCell ?_ ?_ _ | refine Below.trans ?_ (Below.mono (by assumption) ?_) | (simp; done) | (simp; omega) | omega) | (simp; omega) | omega))
  refine takeL (v := ?_) 0 rfl (by kernel_rfl) (by kernel_rfl) (by kernel_rfl) (fun _ _ _ h => h) (Or.inl ⟨by rfl, ?_⟩) (by assumption) ?_
  rotate_left
  · (intro w hSw; (try dsimp only at hSw); go_simp; try with_reducible rfl)
  try simp only [Act.put, List.setIfInBounds_toArray, List.set_cons_zero, List.set_cons_succ]
  refine takeL (v := ?_) 2 rfl (by kernel_rfl) (by kernel_rfl) (by kernel_rfl) (fun _ _ _ h => h) (Or.inl ⟨by rfl, ?_⟩) (by assumption) ?_
  rotate_left
  · (intro w hSw; (try dsimp only at hSw); go_simp; try with_reducible rfl)
  try simp only [Act.put, List.setIfInBounds_toArray, List.set_cons_zero, List.set_cons_succ]
  refine takeL (v := ?_) 3 rfl (by kernel_rfl) (by kernel_rfl) (by kernel_rfl) (fun _ _ _ h => h) (Or.inl ⟨by rfl, ?_⟩) (by assumption) ?_
  rotate_left
  · (intro w hSw; (try dsimp only at hSw); go_simp; try with_reducible rfl)
  try simp only [Act.put, List.setIfInBounds_toArray, List.set_cons_zero, List.set_cons_succ]
  refine takeL (v := ?_) 4 rfl (by kernel_rfl) (by kernel_rfl) (by kernel_rfl) (fun _ _ _ h => h) (Or.inl ⟨by rfl, ?_⟩) (by assumption) ?_
  rotate_left
  · (intro w hSw; (try dsimp only at hSw); go_simp; try with_reducible rfl)
  try simp only [Act.put, List.setIfInBounds_toArray, List.set_cons_zero, List.set_cons_succ]
  refine takeL (v := ?_) 5 rfl (by kernel_rfl) (by kernel_rfl) (by kernel_rfl) (fun _ _ _ h => h) (Or.inl ⟨by rfl, ?_⟩) (by assumption) ?_
  rotate_left
  · (intro w hSw; (try dsimp only at hSw); go_simp; try with_reducible rfl)
  try simp only [Act.put, List.setIfInBounds_toArray, List.set_cons_zero, List.set_cons_succ]
  refine wpAnyH_ready (rs := [1]) (by kernel_rfl) (by simp) ?_
  refine consL 1 rfl (fun K hK => ?_) AllReadyH.nil
  go_simp
  refine hK.out _ _ ?_ (fun hHeld1 => ?_)
  · (try dsimp only); (first | (go_keep; done) | (go_split_ands; (repeat' apply And.intro) <;> first | (go_keep; done) | (simp [*, World.cell?_alloc_at, World.cell?_alloc_past, World.frozen?_alloc_at, World.frozen?_alloc_past]; done) | (simp [World.cell?_alloc_at, World.cell?_alloc_past]; done) | (simp [World.cell?_alloc_at, World.cell?_alloc_past]; rfl) | (simp [*, World.cell?_setCell_same', World.cell?_setCell_other, World.cell?_alloc_some]; done) | (refine (hc _ _ (by first | (simp; done) | (simp; omega) | omega)).trans ?_; (first | (go_keep; done) | assumption | (simp [*, World.cell?_alloc_at, World.cell?_alloc_past, World.frozen?_alloc_at, World.frozen?_alloc_past]; done) | (simp [World.cell?_alloc_at, World.cell?_alloc_past]; rfl))) | (refine (hf _ _ (by first | (simp; done) | (simp; omega) | omega)).trans ?_; (first | (go_keep; done) | assumption | (simp [*, World.cell?_alloc_at, World.cell?_alloc_past, World.frozen?_alloc_at, World.frozen?_alloc_past]; done))) | (repeat' first | exact Below.refl _ _ | assumption | refine Below.drew ?_ | refine Below.alloc ?_ ?_ _ | refine Below.setCell ?_ ?_ _ | refine Below.trans ?_ (Below.mono (by assumption) ?_) | (simp; done) | (simp; omega) | omega) | (simp; omega) | omega))
  clear hK K hHeld0
  try simp only [Act.put, List.setIfInBounds_toArray, List.set_cons_zero, List.set_cons_succ]
  refine wpAnyH_ready (rs := [6]) (by kernel_rfl) (by simp) ?_
  refine consL 6 rfl (fun K hK => ?_) AllReadyH.nil
  (refine step_app rfl (.tmp 44) (.tmp 48) rfl w2.heap.size _ [] rfl (owns_empty (w := (w2.alloc (.cells #[] 32)).drew) (heap_alloc_new w2 _) (Nat.le_refl _)) ⟨b, o, none⟩ (k + 1) c (ps.take (k + 1)) rfl (by rw [List.length_take]; have := HN.out; omega) ((((HR2.out.take (k + 1)).below (Below.alloc (Below.refl _ _) (Nat.le_refl _) (.cells #[] 32))).drew).mono (by simp)) (k + 1) (by simp) (by simp) (by omega) (by simp) ?_; intro A' c' w3 hown hgrow; have hb3 : Below w2.heap.size w2 w3 := Below.trans ((Below.alloc (Below.refl _ _) (Nat.le_refl _) (.cells #[] 32)).drew) (grown_below hgrow (by simp) (fun g hg => Nat.le_of_eq (Option.some.inj hg))); obtain ⟨hc, hf⟩ := bcell hb3; have hz := hb3.size; have HOWN := hide (owns_RdP hown (by simp; have := HN.out; omega)); clear hown hgrow)
  refine hK.out _ _ ?_ (fun hHeld2 => ?_)
  · (try dsimp only); (first | (go_keep; done) | (go_split_ands; (repeat' apply And.intro) <;> first | (go_keep; done) | (simp [*, World.cell?_alloc_at, World.cell?_alloc_past, World.frozen?_alloc_at, World.frozen?_alloc_past]; done) | (simp [World.cell?_alloc_at, World.cell?_alloc_past]; done) | (simp [World.cell?_alloc_at, World.cell?_alloc_past]; rfl) | (simp [*, World.cell?_setCell_same', World.cell?_setCell_other, World.cell?_alloc_some]; done) | (refine (hc _ _ (by first | (simp; done) | (simp; omega) | omega)).trans ?_; (first | (go_keep; done) | assumption | (simp [*, World.cell?_alloc_at, World.cell?_alloc_past, World.frozen?_alloc_at, World.frozen?_alloc_past]; done) | (simp [World.cell?_alloc_at, World.cell?_alloc_past]; rfl))) | (refine (hf _ _ (by first | (simp; done) | (simp; omega) | omega)).trans ?_; (first | (go_keep; done) | assumption | (simp [*, World.cell?_alloc_at, World.cell?_alloc_past, World.frozen?_alloc_at, World.frozen?_alloc_past]; done))) | (repeat' first | exact Below.refl _ _ | assumption | refine Below.drew ?_ | refine Below.alloc ?_ ?_ _ | refine Below.setCell ?_ ?_ _ | refine Below.trans ?_ (Below.mono (by assumption) ?_) | (simp; done) | (simp; omega) | omega) | (simp; omega) | omega))
  clear hK K hHeld1
  try simp only [Act.put, List.setIfInBounds_toArray, List.set_cons_zero, List.set_cons_succ]
  refine wpAnyH_ready (rs := [7]) (by kernel_rfl) (by simp) ?_
  refine consL 7 rfl (fun K hK => ?_) AllReadyH.nil
  go_simp
  (go_at_call 31; refine (Ways_val f _ _ _ (ps.take (k + 1)) v1 e1 _ HW1.out.1 HW1.out.2 (by rw [List.length_take]; have := HN.out; omega) HOWN.out (by omega)).mono ?_; rintro e w4 ⟨rfl, hb4⟩; obtain ⟨hc, hf⟩ := bcell hb4; have hz4 := hb4.size)
  refine hK.out _ _ ?_ (fun hHeld3 => ?_)
  · (try dsimp only); (first | (go_keep; done) | (go_split_ands; (repeat' apply And.intro) <;> first | (go_keep; done) | (simp [*, World.cell?_alloc_at, World.cell?_alloc_past, World.frozen?_alloc_at, World.frozen?_alloc_past]; done) | (simp [World.cell?_alloc_at, World.cell?_alloc_past]; done) | (simp [World.cell?_alloc_at, World.cell?_alloc_past]; rfl) | (simp [*, World.cell?_setCell_same', World.cell?_setCell_other, World.cell?_alloc_some]; done) | (refine (hc _ _ (by first | (simp; done) | (simp; omega) | omega)).trans ?_; (first | (go_keep; done) | assumption | (simp [*, World.cell?_alloc_at, World.cell?_alloc_past, World.frozen?_alloc_at, World.frozen?_alloc_past]; done) | (simp [World.cell?_alloc_at, World.cell?_alloc_past]; rfl))) | (refine (hf _ _ (by first | (simp; done) | (simp; omega) | omega)).trans ?_; (first | (go_keep; done) | assumption | (simp [*, World.cell?_alloc_at, World.cell?_alloc_past, World.frozen?_alloc_at, World.frozen?_alloc_past]; done))) | (repeat' first | exact Below.refl _ _ | assumption | refine Below.drew ?_ | refine Below.alloc ?_ ?_ _ | refine Below.setCell ?_ ?_ _ | refine Below.trans ?_ (Below.mono (by assumption) ?_) | (simp; done) | (simp; omega) | omega) | (simp; omega) | omega))
  clear hK K hHeld2
  try simp only [Act.put, List.setIfInBounds_toArray, List.set_cons_zero, List.set_cons_succ]
  refine takeL (v := ?_) 8 rfl (by kernel_rfl) (by kernel_rfl) (by kernel_rfl) (fun _ _ _ h => h) (Or.inl ⟨by rfl, ?_⟩) (by assumption) ?_
  rotate_left
  · (intro w hSw; (try dsimp only at hSw); go_simp; try with_reducible rfl)
  try simp only [Act.put, List.setIfInBounds_toArray, List.set_cons_zero, List.set_cons_succ]
  refine takeL (v := ?_) 9 rfl (by kernel_rfl) (by kernel_rfl) (by kernel_rfl) (fun _ _ _ h => h) (Or.inl ⟨by rfl, ?_⟩) (by assumption) ?_
  rotate_left
  · (intro w hSw; (try dsimp only at hSw); go_simp; try with_reducible rfl)
  try simp only [Act.put, List.setIfInBounds_toArray, List.set_cons_zero, List.set_cons_succ]
  refine takeL (v := ?_) 10 rfl (by kernel_rfl) (by kernel_rfl) (by kernel_rfl) (fun _ _ _ h => h) (Or.inl ⟨by rfl, ?_⟩) (by assumption) ?_
  rotate_left
  · (intro w hSw; (try dsimp only at hSw); go_simp; try with_reducible rfl)
  try simp only [Act.put, List.setIfInBounds_toArray, List.set_cons_zero, List.set_cons_succ]
  refine takeL (v := ?_) 11 rfl (by kernel_rfl) (by kernel_rfl) (by kernel_rfl) (fun _ _ _ h => h) (Or.inl ⟨by rfl, ?_⟩) (by assumption) ?_
  rotate_left
  · (intro w hSw; (try dsimp only at hSw); go_simp; try with_reducible rfl)
  try simp only [Act.put, List.setIfInBounds_toArray, List.set_cons_zero, List.set_cons_succ]
  refine takeL (v := ?_) 12 rfl (by kernel_rfl) (by kernel_rfl) (by kernel_rfl) (fun _ _ _ h => h) (Or.inl ⟨by rfl, ?_⟩) (by assumption) ?_
  rotate_left
  · (intro w hSw; (try dsimp only at hSw); go_simp; try with_reducible rfl)
  try simp only [Act.put, List.setIfInBounds_toArray, List.set_cons_zero, List.set_cons_succ]
  refine wpAnyH_done (by kernel_rfl) ?_ _
  have HB24 := hide (hb3.trans (hb4.mono hb3.size))
  have h23 := (HB24.out.block w.heap.size hq2).trans H23b.out
  have c23' : w4.cell? ⟨w.heap.size, 0, none⟩ = some (.int .i64 f.sets) ∧ w4.cell? ⟨w.heap.size, 1, none⟩ = some (.int .i64 f.games) ∧ w4.cell? ⟨w.heap.size, 2, none⟩ = some (.bool f.noAd) ∧ w4.cell? ⟨w.heap.size, 3, none⟩ = some (.int .i64 f.tie) ∧ w4.cell? ⟨w.heap.size, 4, none⟩ = some (.int .i64 f.to) ∧ w4.cell? ⟨w.heap.size, 5, none⟩ = some (.int .i64 f.lastTie) ∧ w4.cell? ⟨w.heap.size, 6, none⟩ = some (.int .i64 f.lastTo) ∧ w4.cell? ⟨w.heap.size, 7, none⟩ = some (.int .i64 f.first) ∧ w4.cell? ⟨w.heap.size, 8, none⟩ = some (.int .i64 f.next) ∧ w4.cell? ⟨w.heap.size, 9, none⟩ = some (.bool f.doubles) := by (repeat' apply And.intro) <;> exact (cell_of_row _ _ _ _ _ _ h23).trans rfl
  have hq2' := Nat.lt_of_lt_of_le hq2 HB24.out.size
  have HB02' := hide (HB02.out.trans (HB24.out.mono HB02.out.size))
  have HR2' := hide ((HR2.out.below HB24.out).mono HB24.out.size)
  have H23' := hide h23
  clear h23 c23 hb3 hb4 hc hf hz hz4 HOWN H23b hq2 HB02 HR2 HB24
  (try clear hHeld0)
  (try clear hHeld1)
  (try clear hHeld2)
  (try clear hHeld3)
  (try clear hHeld4)
  have c23 := c23'
  have hq2 := hq2'
  have HB02 := HB02'
  have HR2 := HR2'
  have H23b := H23'
  clear c23' hq2' HB02' HR2' H23'
  go_wp2_with fail
  refine wp_region_held_drew (S := (fun w' => w4.heap.size ≤ w'.heap.size ∧ w'.cell? ⟨w.heap.size, 0, none⟩ = some (.int .i64 f.sets) ∧ w'.cell? ⟨w.heap.size, 1, none⟩ = some (.int .i64 f.games) ∧ w'.cell? ⟨w.heap.size, 2, none⟩ = some (.bool f.noAd) ∧ w'.cell? ⟨w.heap.size, 3, none⟩ = some (.int .i64 f.tie) ∧ w'.cell? ⟨w.heap.size, 4, none⟩ = some (.int .i64 f.to) ∧ w'.cell? ⟨w.heap.size, 5, none⟩ = some (.int .i64 f.lastTie) ∧ w'.cell? ⟨w.heap.size, 6, none⟩ = some (.int .i64 f.lastTo) ∧ w'.cell? ⟨w.heap.size, 7, none⟩ = some (.int .i64 f.first) ∧ w'.cell? ⟨w.heap.size, 8, none⟩ = some (.int .i64 f.next) ∧ w'.cell? ⟨w.heap.size, 9, none⟩ = some (.bool f.doubles))) (by kernel_rfl) ?_ (fun hHeld0 => ?_)
  · (try dsimp only); (first | (go_keep; done) | (go_split_ands; (repeat' apply And.intro) <;> first | (go_keep; done) | (simp [*, World.cell?_alloc_at, World.cell?_alloc_past, World.frozen?_alloc_at, World.frozen?_alloc_past]; done) | (simp [World.cell?_alloc_at, World.cell?_alloc_past]; done) | (simp [World.cell?_alloc_at, World.cell?_alloc_past]; rfl) | (simp [*, World.cell?_setCell_same', World.cell?_setCell_other, World.cell?_alloc_some]; done) | (refine (hc _ _ (by first | (simp; done) | (simp; omega) | omega)).trans ?_; (first | (go_keep; done) | assumption | (simp [*, World.cell?_alloc_at, World.cell?_alloc_past, World.frozen?_alloc_at, World.frozen?_alloc_past]; done) | (simp [World.cell?_alloc_at, World.cell?_alloc_past]; rfl))) | (refine (hf _ _ (by first | (simp; done) | (simp; omega) | omega)).trans ?_; (first | (go_keep; done) | assumption | (simp [*, World.cell?_alloc_at, World.cell?_alloc_past, World.frozen?_alloc_at, World.frozen?_alloc_past]; done))) | (repeat' first | exact Below.refl _ _ | assumption | refine Below.drew ?_ | refine Below.alloc ?_ ?_ _ | refine Below.setCell ?_ ?_ _ | refine Below.trans ?_ (Below.mono (by assumption) ?_) | (simp; done) | (simp; omega) | omega) | (simp; omega) | omega))
  refine takeL (v := ?_) 0 rfl (by kernel_rfl) (by kernel_rfl) (by kernel_rfl) (fun _ _ _ h => h) (Or.inl ⟨by rfl, ?_⟩) (by assumption) ?_
  rotate_left
  · (intro w hSw; (try dsimp only at hSw); go_simp; try with_reducible rfl)
  try simp only [Act.put, List.setIfInBounds_toArray, List.set_cons_zero, List.set_cons_succ]
  refine takeL (v := ?_) 2 rfl (by kernel_rfl) (by kernel_rfl) (by kernel_rfl) (fun _ _ _ h => h) (Or.inl ⟨by rfl, ?_⟩) (by assumption) ?_
  rotate_left
  · (intro w hSw; (try dsimp only at hSw); go_simp; try with_reducible rfl)
  try simp only [Act.put, List.setIfInBounds_toArray, List.set_cons_zero, List.set_cons_succ]
  refine takeL (v := ?_) 3 rfl (by kernel_rfl) (by kernel_rfl) (by kernel_rfl) (fun _ _ _ h => h) (Or.inl ⟨by rfl, ?_⟩) (by assumption) ?_
  rotate_left
  · (intro w hSw; (try dsimp only at hSw); go_simp; try with_reducible rfl)
  try simp only [Act.put, List.setIfInBounds_toArray, List.set_cons_zero, List.set_cons_succ]
  refine takeL (v := ?_) 4 rfl (by kernel_rfl) (by kernel_rfl) (by kernel_rfl) (fun _ _ _ h => h) (Or.inl ⟨by rfl, ?_⟩) (by assumption) ?_
  rotate_left
  · (intro w hSw; (try dsimp only at hSw); go_simp; try with_reducible rfl)
  try simp only [Act.put, List.setIfInBounds_toArray, List.set_cons_zero, List.set_cons_succ]
  refine wpAnyH_ready (rs := [1]) (by kernel_rfl) (by simp) ?_
  refine consL 1 rfl (fun K hK => ?_) AllReadyH.nil
  go_simp
  refine hK.out _ _ ?_ (fun hHeld1 => ?_)
  · (try dsimp only); (first | (go_keep; done) | (go_split_ands; (repeat' apply And.intro) <;> first | (go_keep; done) | (simp [*, World.cell?_alloc_at, World.cell?_alloc_past, World.frozen?_alloc_at, World.frozen?_alloc_past]; done) | (simp [World.cell?_alloc_at, World.cell?_alloc_past]; done) | (simp [World.cell?_alloc_at, World.cell?_alloc_past]; rfl) | (simp [*, World.cell?_setCell_same', World.cell?_setCell_other, World.cell?_alloc_some]; done) | (refine (hc _ _ (by first | (simp; done) | (simp; omega) | omega)).trans ?_; (first | (go_keep; done) | assumption | (simp [*, World.cell?_alloc_at, World.cell?_alloc_past, World.frozen?_alloc_at, World.frozen?_alloc_past]; done) | (simp [World.cell?_alloc_at, World.cell?_alloc_past]; rfl))) | (refine (hf _ _ (by first | (simp; done) | (simp; omega) | omega)).trans ?_; (first | (go_keep; done) | assumption | (simp [*, World.cell?_alloc_at, World.cell?_alloc_past, World.frozen?_alloc_at, World.frozen?_alloc_past]; done))) | (repeat' first | exact Below.refl _ _ | assumption | refine Below.drew ?_ | refine Below.alloc ?_ ?_ _ | refine Below.setCell ?_ ?_ _ | refine Below.trans ?_ (Below.mono (by assumption) ?_) | (simp; done) | (simp; omega) | omega) | (simp; omega) | omega))
  clear hK K hHeld0
  try simp only [Act.put, List.setIfInBounds_toArray, List.set_cons_zero, List.set_cons_succ]
  refine wpAnyH_ready (rs := [5]) (by kernel_rfl) (by simp) ?_
  refine consL 5 rfl (fun K hK => ?_) AllReadyH.nil
  (refine step_app rfl (.tmp 55) (.tmp 58) rfl w4.heap.size _ [] rfl (owns_empty (w := (w4.alloc (.cells #[] 32)).drew) (heap_alloc_new w4 _) (Nat.le_refl _)) ⟨b, o, none⟩ k c (ps.take k) rfl (by rw [List.length_take]; have := HN.out; omega) ((((HR2.out.take k).below (Below.alloc (Below.refl _ _) (Nat.le_refl _) (.cells #[] 32))).drew).mono (by simp)) k (by simp) (by simp) (by omega) (by simp) ?_; intro A' c' w3 hown hgrow; have hb3 : Below w4.heap.size w4 w3 := Below.trans ((Below.alloc (Below.refl _ _) (Nat.le_refl _) (.cells #[] 32)).drew) (grown_below hgrow (by simp) (fun g hg => Nat.le_of_eq (Option.some.inj hg))); obtain ⟨hc, hf⟩ := bcell hb3; have hz := hb3.size; have HOWN := hide (owns_RdP hown (by simp; have := HN.out; omega)); clear hown hgrow)
  refine hK.out _ _ ?_ (fun hHeld2 => ?_)
  · (try dsimp only); (first | (go_keep; done) | (go_split_ands; (repeat' apply And.intro) <;> first | (go_keep; done) | (simp [*, World.cell?_alloc_at, World.cell?_alloc_past, World.frozen?_alloc_at, World.frozen?_alloc_past]; done) | (simp [World.cell?_alloc_at, World.cell?_alloc_past]; done) | (simp [World.cell?_alloc_at, World.cell?_alloc_past]; rfl) | (simp [*, World.cell?_setCell_same', World.cell?_setCell_other, World.cell?_alloc_some]; done) | (refine (hc _ _ (by first | (simp; done) | (simp; omega) | omega)).trans ?_; (first | (go_keep; done) | assumption | (simp [*, World.cell?_alloc_at, World.cell?_alloc_past, World.frozen?_alloc_at, World.frozen?_alloc_past]; done) | (simp [World.cell?_alloc_at, World.cell?_alloc_past]; rfl))) | (refine (hf _ _ (by first | (simp; done) | (simp; omega) | omega)).trans ?_; (first | (go_keep; done) | assumption | (simp [*, World.cell?_alloc_at, World.cell?_alloc_past, World.frozen?_alloc_at, World.frozen?_alloc_past]; done))) | (repeat' first | exact Below.refl _ _ | assumption | refine Below.drew ?_ | refine Below.alloc ?_ ?_ _ | refine Below.setCell ?_ ?_ _ | refine Below.trans ?_ (Below.mono (by assumption) ?_) | (simp; done) | (simp; omega) | omega) | (simp; omega) | omega))
  clear hK K hHeld1
  try simp only [Act.put, List.setIfInBounds_toArray, List.set_cons_zero, List.set_cons_succ]
  refine wpAnyH_ready (rs := [6]) (by kernel_rfl) (by simp) ?_
  refine consL 6 rfl (fun K hK => ?_) AllReadyH.nil
  go_simp
  (go_at_call 31; refine (Ways_val f _ _ _ (ps.take k) v2 e2 _ HW2.out.1 HW2.out.2 (by rw [List.length_take]; have := HN.out; omega) HOWN.out (by omega)).mono ?_; rintro e w5 ⟨rfl, hb4⟩; obtain ⟨hc, hf⟩ := bcell hb4; have hz4 := hb4.size)
  refine hK.out _ _ ?_ (fun hHeld3 => ?_)
  · (try dsimp only); (first | (go_keep; done) | (go_split_ands; (repeat' apply And.intro) <;> first | (go_keep; done) | (simp [*, World.cell?_alloc_at, World.cell?_alloc_past, World.frozen?_alloc_at, World.frozen?_alloc_past]; done) | (simp [World.cell?_alloc_at, World.cell?_alloc_past]; done) | (simp [World.cell?_alloc_at, World.cell?_alloc_past]; rfl) | (simp [*, World.cell?_setCell_same', World.cell?_setCell_other, World.cell?_alloc_some]; done) | (refine (hc _ _ (by first | (simp; done) | (simp; omega) | omega)).trans ?_; (first | (go_keep; done) | assumption | (simp [*, World.cell?_alloc_at, World.cell?_alloc_past, World.frozen?_alloc_at, World.frozen?_alloc_past]; done) | (simp [World.cell?_alloc_at, World.cell?_alloc_past]; rfl))) | (refine (hf _ _ (by first | (simp; done) | (simp; omega) | omega)).trans ?_; (first | (go_keep; done) | assumption | (simp [*, World.cell?_alloc_at, World.cell?_alloc_past, World.frozen?_alloc_at, World.frozen?_alloc_past]; done))) | (repeat' first | exact Below.refl _ _ | assumption | refine Below.drew ?_ | refine Below.alloc ?_ ?_ _ | refine Below.setCell ?_ ?_ _ | refine Below.trans ?_ (Below.mono (by assumption) ?_) | (simp; done) | (simp; omega) | omega) | (simp; omega) | omega))
  clear hK K hHeld2
  try simp only [Act.put, List.setIfInBounds_toArray, List.set_cons_zero, List.set_cons_succ]
  refine takeL (v := ?_) 7 rfl (by kernel_rfl) (by kernel_rfl) (by kernel_rfl) (fun _ _ _ h => h) (Or.inl ⟨by rfl, ?_⟩) (by assumption) ?_
  rotate_left
  · (intro w hSw; (try dsimp only at hSw); go_simp; try with_reducible rfl)
  try simp only [Act.put, List.setIfInBounds_toArray, List.set_cons_zero, List.set_cons_succ]
  refine takeL (v := ?_) 8 rfl (by kernel_rfl) (by kernel_rfl) (by kernel_rfl) (fun _ _ _ h => h) (Or.inl ⟨by rfl, ?_⟩) (by assumption) ?_
  rotate_left
  · (intro w hSw; (try dsimp only at hSw); go_simp; try with_reducible rfl)
  try simp only [Act.put, List.setIfInBounds_toArray, List.set_cons_zero, List.set_cons_succ]
  refine takeL (v := ?_) 9 rfl (by kernel_rfl) (by kernel_rfl) (by kernel_rfl) (fun _ _ _ h => h) (Or.inl ⟨by rfl, ?_⟩) (by assumption) ?_
  rotate_left
  · (intro w hSw; (try dsimp only at hSw); go_simp; try with_reducible rfl)
  try simp only [Act.put, List.setIfInBounds_toArray, List.set_cons_zero, List.set_cons_succ]
  refine takeL (v := ?_) 10 rfl (by kernel_rfl) (by kernel_rfl) (by kernel_rfl) (fun _ _ _ h => h) (Or.inl ⟨by rfl, ?_⟩) (by assumption) ?_
  rotate_left
  · (intro w hSw; (try dsimp only at hSw); go_simp; try with_reducible rfl)
  try simp only [Act.put, List.setIfInBounds_toArray, List.set_cons_zero, List.set_cons_succ]
  refine takeL (v := ?_) 11 rfl (by kernel_rfl) (by kernel_rfl) (by kernel_rfl) (fun _ _ _ h => h) (Or.inl ⟨by rfl, ?_⟩) (by assumption) ?_
  rotate_left
  · (intro w hSw; (try dsimp only at hSw); go_simp; try with_reducible rfl)
  try simp only [Act.put, List.setIfInBounds_toArray, List.set_cons_zero, List.set_cons_succ]
  refine wpAnyH_done (by kernel_rfl) ?_ _
  have HB24 := hide (hb3.trans (hb4.mono hb3.size))
  have h23 := (HB24.out.block w.heap.size hq2).trans H23b.out
  have c23' : w5.cell? ⟨w.heap.size, 0, none⟩ = some (.int .i64 f.sets) ∧ w5.cell? ⟨w.heap.size, 1, none⟩ = some (.int .i64 f.games) ∧ w5.cell? ⟨w.heap.size, 2, none⟩ = some (.bool f.noAd) ∧ w5.cell? ⟨w.heap.size, 3, none⟩ = some (.int .i64 f.tie) ∧ w5.cell? ⟨w.heap.size, 4, none⟩ = some (.int .i64 f.to) ∧ w5.cell? ⟨w.heap.size, 5, none⟩ = some (.int .i64 f.lastTie) ∧ w5.cell? ⟨w.heap.size, 6, none⟩ = some (.int .i64 f.lastTo) ∧ w5.cell? ⟨w.heap.size, 7, none⟩ = some (.int .i64 f.first) ∧ w5.cell? ⟨w.heap.size, 8, none⟩ = some (.int .i64 f.next) ∧ w5.cell? ⟨w.heap.size, 9, none⟩ = some (.bool f.doubles) := by (repeat' apply And.intro) <;> exact (cell_of_row _ _ _ _ _ _ h23).trans rfl
  have hq2' := Nat.lt_of_lt_of_le hq2 HB24.out.size
  have HB02' := hide (HB02.out.trans (HB24.out.mono HB02.out.size))
  have HR2' := hide ((HR2.out.below HB24.out).mono HB24.out.size)
  have H23' := hide h23
  clear h23 c23 hb3 hb4 hc hf hz hz4 HOWN H23b hq2 HB02 HR2 HB24
  (try clear hHeld0)
  (try clear hHeld1)
  (try clear hHeld2)
  (try clear hHeld3)
  (try clear hHeld4)
  have c23 := c23'
  have hq2 := hq2'
  have HB02 := HB02'
  have HR2 := HR2'
  have H23b := H23'
  clear c23' hq2' HB02' HR2' H23'
  rcases he0 with e | e
  all_goals
    subst e
    go_wp2_with (first | (go_at_call 9; refine (works_any _).mono ?_; rintro e w9 ⟨rfl, hb9⟩))
    go_ret
    exact ⟨rfl, HB02.out.trans (hb9.mono HB02.out.size)⟩

end Go.Proofs.Ytlhbimifhclojaa
