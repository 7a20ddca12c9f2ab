/-
  Part of a claim's texts: contracts of the program's functions and the plain functions that they compute, in build order.
-/
import Derived.Test.YtlpjkolocgkcpaaZB01
import Derived.Test.YtlpjkolocgkcpaaZB02
import Derived.Test.YtlpjkolocgkcpaaZB03
namespace Go.Proofs.Ytlpjkolocgkcpaa
open Go.RowKit Go.Sort
attribute [local go_sem ↓] Go.wp_at_zero Go.wp_at_succ

theorem lnRow : (Try.prog.info? 67).map (·.size) = some 8 := by kernel_rfl
def OpenPost (q : G.Qu) (A : Option Addr) (n c m : Nat) (w : World) (e : Ending) (w' : World) : Prop :=
  Below w.heap.size w w' ∧ (G.valid q = false → e = .returned (.tuple #[.agg #[.int .i64 0, .int .i64 0, .int .i64 0, .int .i64 0, .slice none 0 0, .slice none 0 0, .map none, .slice none 0 0], .int .i64 110])) ∧
  (G.valid q = true → ∃ (F2 : Option Addr) (d2 : Nat) (fs2 : List G.Fr) (g : Nat) (O : Option Addr) (co : Nat) (ord : List Nat) (Fn : Int → Int) (kn : Int → Bool),
    e = .returned (.tuple #[.agg #[.int .i64 q.opn, .int .i64 q.lo, .int .i64 q.hi, .int .i64 q.seats, .slice A n c, .slice F2 m d2, .map (some g), .slice O n co], .int .i64 0]) ∧ fs2.Perm q.fs ∧ LineAt w' { q with fs := fs2 } A n c F2 m d2 O co ord ∧ MapK elI w' g Fn kn n ∧ TgN q.gs n Fn kn ∧ w.heap.size ≤ g ∧ (∀ b i, F2 = some ⟨b, i, none⟩ → w.heap.size ≤ b) ∧ (∀ b i, O = some ⟨b, i, none⟩ → w.heap.size ≤ b))

set_option maxHeartbeats 6400000 in
set_option maxRecDepth 100000 in
theorem open_any (q : G.Qu) (A : Option Addr) (n c : Nat) (F : Option Addr) (m d : Nat) (w : World) (hgn : q.gs.length = n) (hfn : q.fs.length = m) (hn : n ≤ 1000000) (hm : m ≤ 1000000) (hrg : RdG w w.heap.size A q.gs) (hrf : RdF w w.heap.size F q.fs) (hA : ∀ b o, A = some ⟨b, o, none⟩ → b < w.heap.size) (hF : F = none → d = 0) (hid : ∀ p ∈ q.gs, (Lit.int .i64 p.id).wf = true) :
    Calls Try.prog 36 #[.agg #[.int .i64 q.opn, .int .i64 q.lo, .int .i64 q.hi, .int .i64 q.seats, .slice A n c, .slice F m d]] w (OpenPost q A n c m w) := by
  have HGN := hide hgn
  have HFN := hide hfn
  have HRG := hide hrg
  have HRF := hide hrf
  have HA := hide hA
  have HF := hide hF
  have HID := hide hid
  clear hgn hfn hrg hrf hA hF hid
  go_enter Try.func36, Try.ntmps36
  go_upto_region 2 with fail
  refine cap_w (M := Code.wp _ _ _ _) _ (fun w1 hw1 => ?_)
  have HB1 := hide (show Below w.heap.size w w1 by rw [hw1]; (repeat' first | exact zbR _ _ | assumption | refine zbD ?_ | refine zbA ?_ ?_ _ | refine zbS ?_ ?_ _ | refine zbT ?_ (by assumption) ?_ | (simp; done) | (simp; omega) | omega))
  have HQ := hide (show w1.heap[w.heap.size]? = some (.cells #[.int .i64 q.opn, .int .i64 q.lo, .int .i64 q.hi, .int .i64 q.seats, .slice A n c, .slice F m d] 27 (0, 0)) by
    rw [hw1]; exact (Below.heap_alloc _ _ _ (by simp; omega)).trans ((Below.heap_alloc _ _ _ (by simp)).trans (World.alloc_heap_new _ _)))
  have HZ := hide (show w1.heap[w.heap.size + 1]? = some (.cells #[.int .i64 0, .int .i64 0, .int .i64 0, .int .i64 0, .slice none 0 0, .slice none 0 0, .map none, .slice none 0 0] 67 (0, 0)) by
    rw [hw1]; exact (Below.heap_alloc _ _ _ (by simp)).trans (alloc_new_at (by simp)))
  have HL := hide (show w1.heap[w.heap.size + 1 + 1]? = some (.cells #[.int .i64 q.opn, .int .i64 q.lo, .int .i64 q.hi, .int .i64 q.seats, .slice A n c, .slice F m d, .map none, .slice none 0 0] 67 (0, 0)) by
    rw [hw1]; exact alloc_new_at (by simp))
  clear hw1
  obtain ⟨b1, hb1⟩ : ∃ x, w.heap.size + 1 = x := ⟨_, rfl⟩
  rw [hb1] at HZ HL ⊢
  obtain ⟨L, hLe⟩ : ∃ x, b1 + 1 = x := ⟨_, rfl⟩
  rw [hLe] at HL ⊢
  obtain ⟨b0, hb0⟩ : ∃ x, w.heap.size = x := ⟨_, rfl⟩
  have HE := hide (show w.heap.size = b0 ∧ b0 < b1 ∧ b1 < L by omega)
  rw [hb0] at HQ ⊢
  clear hb1 hLe hb0
  have HAL := hide (show ∀ b o, A = some ⟨b, o, none⟩ → b ≠ L from fun b o e => by have := HA.out b o e; have := HE.out; omega)
  have q0 : w1.cell? ⟨b0, 0, none⟩ = some (.int .i64 q.opn) := (blk_cell HQ.out 0).trans rfl
  have q1 : w1.cell? ⟨b0, 1, none⟩ = some (.int .i64 q.lo) := (blk_cell HQ.out 1).trans rfl
  have q2 : w1.cell? ⟨b0, 2, none⟩ = some (.int .i64 q.hi) := (blk_cell HQ.out 2).trans rfl
  have q3 : w1.cell? ⟨b0, 3, none⟩ = some (.int .i64 q.seats) := (blk_cell HQ.out 3).trans rfl
  have q4 : w1.cell? ⟨b0, 4, none⟩ = some (.slice A n c) := (blk_cell HQ.out 4).trans rfl
  have q5 : w1.cell? ⟨b0, 5, none⟩ = some (.slice F m d) := (blk_cell HQ.out 5).trans rfl
  have lq := blk_lt HQ.out
  obtain ⟨v, hv⟩ : ∃ v, G.valid q = v := ⟨_, rfl⟩
  have HV := hide hv
  unfold G.valid at hv
  cases h1 : G.vGates q
  · rw [h1] at hv
    have hv' : v = false := hv.symm
    subst hv'
    have H1 := hide h1
    clear h1 hv
    go_wp2_with (first | (go_at_call 52; (with_reducible refine (validGates_any q A n c F m d _).mono ?_); rintro e w2 ⟨rfl, hb2⟩; rw [H1.out]; have HL2 := bkT hb2 HL; have HZ2 := bkT hb2 HZ; have HB2 := hide (zbT HB1.out hb2 HB1.out.size); clear hb2 q0 q1 q2 q3 q4 q5 lq) | (refine wpList_store_row rfl 67 _ _ rfl b1 _ rfl rfl 67 _ HZ2.out lnRow rfl (by simp [Value.oneCell']) ?_))
    refine cap_w (M := bodyPost _ _ _ _ _) _ (fun W9 hW9 => ?_)
    have HR9 := hide (show W9.heap[b1]? = some (.cells #[.int .i64 0, .int .i64 0, .int .i64 0, .int .i64 0, .slice none 0 0, .slice none 0 0, .map none, .slice none 0 0] 67 (0, 0)) by rw [hW9]; exact setRow_heap _ _ _ _ _ _ HZ2.out)
    have HB9 := hide (show Below w.heap.size w W9 by rw [hW9]; exact below_row HB2.out (by have := HE.out; omega) _)
    have r0 : W9.cell? ⟨b1, 0, none⟩ = some (.int .i64 0) := (blk_cell HR9.out 0).trans rfl
    have r1 : W9.cell? ⟨b1, 1, none⟩ = some (.int .i64 0) := (blk_cell HR9.out 1).trans rfl
    have r2 : W9.cell? ⟨b1, 2, none⟩ = some (.int .i64 0) := (blk_cell HR9.out 2).trans rfl
    have r3 : W9.cell? ⟨b1, 3, none⟩ = some (.int .i64 0) := (blk_cell HR9.out 3).trans rfl
    have r4 : W9.cell? ⟨b1, 4, none⟩ = some (.slice none 0 0) := (blk_cell HR9.out 4).trans rfl
    have r5 : W9.cell? ⟨b1, 5, none⟩ = some (.slice none 0 0) := (blk_cell HR9.out 5).trans rfl
    have r6 : W9.cell? ⟨b1, 6, none⟩ = some (.map none) := (blk_cell HR9.out 6).trans rfl
    have r7 : W9.cell? ⟨b1, 7, none⟩ = some (.slice none 0 0) := (blk_cell HR9.out 7).trans rfl
    exact bodyPost_ret (v := .tuple #[.agg #[.int .i64 0, .int .i64 0, .int .i64 0, .int .i64 0, .slice none 0 0, .slice none 0 0, .map none, .slice none 0 0], .int .i64 110]) (by simp [results, Try.results36, go_sem, r0, r1, r2, r3, r4, r5, r6, r7]) rfl ⟨HB9.out, fun _ => rfl, fun h => by rw [HV.out] at h; cases h⟩
  · rw [h1] at hv
    have H1 := hide h1
    clear h1
    cases h2 : G.vGroups q.gs
    · rw [h2] at hv
      have hv' : v = false := hv.symm
      subst hv'
      have H2 := hide h2
      clear h2 hv
      go_wp2_with (first | (go_at_call 52; (with_reducible refine (validGates_any q A n c F m d _).mono ?_); rintro e w2 ⟨rfl, hb2⟩; rw [H1.out]; have HL2 := bkT hb2 HL; have HZ2 := bkT hb2 HZ; have HB2 := hide (zbT HB1.out hb2 HB1.out.size); clear hb2 q0 q1 q2 q3 q4 q5 lq) | (go_at_call 53; (with_reducible refine (takeGroups_any q L A n c F m d _ HGN.out hn HL2.out ((HRG.out.below HB2.out).mono HB2.out.size) HAL.out HID.out).mono ?_); rintro e w3 ⟨rfl, hg3, ⟨mp3, ov3, hl3⟩, hok3⟩; rw [H2.out]; have HL3 := hide hl3; have HOK := hide hok3; have HZ3 := bkG hg3 (by have := HE.out; simp; omega) HZ2; have HB3 := hide (HB2.out.trans (grown_below hg3 HB2.out.size (fun y hy => by have h5 := Option.some.inj hy; have := HE.out; omega))); clear hl3 hok3 hg3) | (refine wpList_store_row rfl 67 _ _ rfl b1 _ rfl rfl 67 _ HZ3.out lnRow rfl (by simp [Value.oneCell']) ?_))
      refine cap_w (M := bodyPost _ _ _ _ _) _ (fun W9 hW9 => ?_)
      have HR9 := hide (show W9.heap[b1]? = some (.cells #[.int .i64 0, .int .i64 0, .int .i64 0, .int .i64 0, .slice none 0 0, .slice none 0 0, .map none, .slice none 0 0] 67 (0, 0)) by rw [hW9]; exact setRow_heap _ _ _ _ _ _ HZ3.out)
      have HB9 := hide (show Below w.heap.size w W9 by rw [hW9]; exact below_row HB3.out (by have := HE.out; omega) _)
      have r0 : W9.cell? ⟨b1, 0, none⟩ = some (.int .i64 0) := (blk_cell HR9.out 0).trans rfl
      have r1 : W9.cell? ⟨b1, 1, none⟩ = some (.int .i64 0) := (blk_cell HR9.out 1).trans rfl
      have r2 : W9.cell? ⟨b1, 2, none⟩ = some (.int .i64 0) := (blk_cell HR9.out 2).trans rfl
      have r3 : W9.cell? ⟨b1, 3, none⟩ = some (.int .i64 0) := (blk_cell HR9.out 3).trans rfl
      have r4 : W9.cell? ⟨b1, 4, none⟩ = some (.slice none 0 0) := (blk_cell HR9.out 4).trans rfl
      have r5 : W9.cell? ⟨b1, 5, none⟩ = some (.slice none 0 0) := (blk_cell HR9.out 5).trans rfl
      have r6 : W9.cell? ⟨b1, 6, none⟩ = some (.map none) := (blk_cell HR9.out 6).trans rfl
      have r7 : W9.cell? ⟨b1, 7, none⟩ = some (.slice none 0 0) := (blk_cell HR9.out 7).trans rfl
      exact bodyPost_ret (v := .tuple #[.agg #[.int .i64 0, .int .i64 0, .int .i64 0, .int .i64 0, .slice none 0 0, .slice none 0 0, .map none, .slice none 0 0], .int .i64 110]) (by simp [results, Try.results36, go_sem, r0, r1, r2, r3, r4, r5, r6, r7]) rfl ⟨HB9.out, fun _ => rfl, fun h => by rw [HV.out] at h; cases h⟩
    · rw [h2] at hv
      have H2 := hide h2
      clear h2
      cases h3 : G.vFrees q.fs
      · rw [h3] at hv
        have hv' : v = false := hv.symm
        subst hv'
        have H3 := hide h3
        clear h3 hv
        go_wp2_with (first | (go_at_call 52; (with_reducible refine (validGates_any q A n c F m d _).mono ?_); rintro e w2 ⟨rfl, hb2⟩; rw [H1.out]; have HL2 := bkT hb2 HL; have HZ2 := bkT hb2 HZ; have HB2 := hide (zbT HB1.out hb2 HB1.out.size); clear hb2 q0 q1 q2 q3 q4 q5 lq) | (go_at_call 53; (with_reducible refine (takeGroups_any q L A n c F m d _ HGN.out hn HL2.out ((HRG.out.below HB2.out).mono HB2.out.size) HAL.out HID.out).mono ?_); rintro e w3 ⟨rfl, hg3, ⟨mp3, ov3, hl3⟩, hok3⟩; rw [H2.out]; have HL3 := hide hl3; have HOK := hide hok3; have HZ3 := bkG hg3 (by have := HE.out; simp; omega) HZ2; have HB3 := hide (HB2.out.trans (grown_below hg3 HB2.out.size (fun y hy => by have h5 := Option.some.inj hy; have := HE.out; omega))); clear hl3 hok3 hg3) | (go_at_call 54; (with_reducible refine (takeFrees_any q L A n c F m d mp3 ov3 _ HFN.out hm HL3.out ((HRF.out.below HB3.out).mono HB3.out.size) HF.out).mono ?_); rintro e w4 ⟨rfl, hg4, ⟨fv4, hl4⟩, hok4⟩; rw [H3.out]; have HL4 := hide hl4; have HOK4 := hide hok4; have HZ4 := bkG hg4 (by have := HE.out; simp; omega) HZ3; have HG4 := hide hg4; have HB4 := hide (HB3.out.trans (grown_below hg4 HB3.out.size (fun y hy => by have h5 := Option.some.inj hy; have := HE.out; omega))); clear hl4 hok4 hg4) | (refine wpList_store_row rfl 67 _ _ rfl b1 _ rfl rfl 67 _ HZ4.out lnRow rfl (by simp [Value.oneCell']) ?_))
        refine cap_w (M := bodyPost _ _ _ _ _) _ (fun W9 hW9 => ?_)
        have HR9 := hide (show W9.heap[b1]? = some (.cells #[.int .i64 0, .int .i64 0, .int .i64 0, .int .i64 0, .slice none 0 0, .slice none 0 0, .map none, .slice none 0 0] 67 (0, 0)) by rw [hW9]; exact setRow_heap _ _ _ _ _ _ HZ4.out)
        have HB9 := hide (show Below w.heap.size w W9 by rw [hW9]; exact below_row HB4.out (by have := HE.out; omega) _)
        have r0 : W9.cell? ⟨b1, 0, none⟩ = some (.int .i64 0) := (blk_cell HR9.out 0).trans rfl
        have r1 : W9.cell? ⟨b1, 1, none⟩ = some (.int .i64 0) := (blk_cell HR9.out 1).trans rfl
        have r2 : W9.cell? ⟨b1, 2, none⟩ = some (.int .i64 0) := (blk_cell HR9.out 2).trans rfl
        have r3 : W9.cell? ⟨b1, 3, none⟩ = some (.int .i64 0) := (blk_cell HR9.out 3).trans rfl
        have r4 : W9.cell? ⟨b1, 4, none⟩ = some (.slice none 0 0) := (blk_cell HR9.out 4).trans rfl
        have r5 : W9.cell? ⟨b1, 5, none⟩ = some (.slice none 0 0) := (blk_cell HR9.out 5).trans rfl
        have r6 : W9.cell? ⟨b1, 6, none⟩ = some (.map none) := (blk_cell HR9.out 6).trans rfl
        have r7 : W9.cell? ⟨b1, 7, none⟩ = some (.slice none 0 0) := (blk_cell HR9.out 7).trans rfl
        exact bodyPost_ret (v := .tuple #[.agg #[.int .i64 0, .int .i64 0, .int .i64 0, .int .i64 0, .slice none 0 0, .slice none 0 0, .map none, .slice none 0 0], .int .i64 110]) (by simp [results, Try.results36, go_sem, r0, r1, r2, r3, r4, r5, r6, r7]) rfl ⟨HB9.out, fun _ => rfl, fun h => by rw [HV.out] at h; cases h⟩
      · rw [h3] at hv
        have hv' : v = true := hv.symm
        subst hv'
        have H3 := hide h3
        clear h3 hv
        go_wp2_with (first | (go_at_call 52; (with_reducible refine (validGates_any q A n c F m d _).mono ?_); rintro e w2 ⟨rfl, hb2⟩; rw [H1.out]; have HL2 := bkT hb2 HL; have HZ2 := bkT hb2 HZ; have HB2 := hide (zbT HB1.out hb2 HB1.out.size); clear hb2 q0 q1 q2 q3 q4 q5 lq) | (go_at_call 53; (with_reducible refine (takeGroups_any q L A n c F m d _ HGN.out hn HL2.out ((HRG.out.below HB2.out).mono HB2.out.size) HAL.out HID.out).mono ?_); rintro e w3 ⟨rfl, hg3, _, hok3⟩; rw [H2.out]; obtain ⟨g, O, co, ord, Fn, kn, hl3, hge3, hM3, hT3, hO3, hp3, hs3⟩ := hok3 H2.out; have HL3 := hide hl3; have HGE3 := hide (show L < g from Nat.lt_of_lt_of_le (blk_lt HL2.out) hge3); have HOB3 := hide (show ∀ x, (Value.slice O n co).ownBlock = some x → L < x from fun x e => Nat.lt_of_lt_of_le (blk_lt HL2.out) (hO3.lt x e).1); have HM3 := hide hM3; have HT3 := hide hT3; have HO3 := hide hO3; have HP3 := hide hp3; have HS3 := hide hs3; have HZ3 := bkG hg3 (by have := HE.out; simp; omega) HZ2; have HB3 := hide (HB2.out.trans (grown_below hg3 HB2.out.size (fun y hy => by have h5 := Option.some.inj hy; have := HE.out; omega))); clear hl3 hok3 hg3 hge3 hM3 hT3 hO3 hp3 hs3) | (go_at_call 54; (with_reducible refine (takeFrees_any q L A n c F m d (.map (some g)) (.slice O n co) _ HFN.out hm HL3.out ((HRF.out.below HB3.out).mono HB3.out.size) HF.out).mono ?_); rintro e w4 ⟨rfl, hg4, _, hok4⟩; rw [H3.out]; obtain ⟨F2, d2, fs2, hl4, hp4, hs4, ho4⟩ := hok4 H3.out; have HL4 := hide hl4; have HP4 := hide hp4; have HS4 := hide hs4; have HOB4 := hide (show ∀ x, (Value.slice F2 m d2).ownBlock = some x → L < x from fun x e => Nat.lt_of_lt_of_le (blk_lt HL3.out) (ho4.lt x e).1); have HF4 := hide ho4; have HM4 := hide (HM3.out.kept hg4 (fun e => by have h5 := Option.some.inj e; have := HGE3.out; omega)); have HO4 := hide (HO3.out.kept hg4 (.inr fun e => by have := HOB3.out _ e; omega)); have HZ4 := bkG hg4 (by have := HE.out; simp; omega) HZ3; have HB4 := hide (HB3.out.trans (grown_below hg4 HB3.out.size (fun y hy => by have h5 := Option.some.inj hy; have := HE.out; omega))); clear hl4 hok4 hg4 hp4 hs4 ho4; have l0 : w4.cell? ⟨L, 0, none⟩ = some (.int .i64 q.opn) := (blk_cell HL4.out 0).trans rfl; have l1 : w4.cell? ⟨L, 1, none⟩ = some (.int .i64 q.lo) := (blk_cell HL4.out 1).trans rfl; have l2 : w4.cell? ⟨L, 2, none⟩ = some (.int .i64 q.hi) := (blk_cell HL4.out 2).trans rfl; have l3 : w4.cell? ⟨L, 3, none⟩ = some (.int .i64 q.seats) := (blk_cell HL4.out 3).trans rfl; have l4 : w4.cell? ⟨L, 4, none⟩ = some (.slice A n c) := (blk_cell HL4.out 4).trans rfl; have l5 : w4.cell? ⟨L, 5, none⟩ = some (.slice F2 m d2) := (blk_cell HL4.out 5).trans rfl; have l6 : w4.cell? ⟨L, 6, none⟩ = some (.map (some g)) := (blk_cell HL4.out 6).trans rfl; have l7 : w4.cell? ⟨L, 7, none⟩ = some (.slice O n co) := (blk_cell HL4.out 7).trans rfl; have lL := blk_lt HL4.out) | (refine wpList_store_row rfl 67 _ _ rfl b1 _ rfl rfl 67 _ HZ4.out lnRow rfl (by simp [Value.oneCell']) ?_))
        refine cap_w (M := bodyPost _ _ _ _ _) _ (fun W9 hW9 => ?_)
        have HR9 := hide (show W9.heap[b1]? = some (.cells #[.int .i64 q.opn, .int .i64 q.lo, .int .i64 q.hi, .int .i64 q.seats, .slice A n c, .slice F2 m d2, .map (some g), .slice O n co] 67 (0, 0)) by rw [hW9]; exact setRow_heap _ _ _ _ _ _ HZ4.out)
        have HB9 := hide (show Below w.heap.size w W9 by rw [hW9]; exact below_row HB4.out (by have := HE.out; omega) _)
        have hg9 : w4.grownBy W9 (some b1) := by rw [hW9]; exact setRow_grown _ _ _
        have r0 : W9.cell? ⟨b1, 0, none⟩ = some (.int .i64 q.opn) := (blk_cell HR9.out 0).trans rfl
        have r1 : W9.cell? ⟨b1, 1, none⟩ = some (.int .i64 q.lo) := (blk_cell HR9.out 1).trans rfl
        have r2 : W9.cell? ⟨b1, 2, none⟩ = some (.int .i64 q.hi) := (blk_cell HR9.out 2).trans rfl
        have r3 : W9.cell? ⟨b1, 3, none⟩ = some (.int .i64 q.seats) := (blk_cell HR9.out 3).trans rfl
        have r4 : W9.cell? ⟨b1, 4, none⟩ = some (.slice A n c) := (blk_cell HR9.out 4).trans rfl
        have r5 : W9.cell? ⟨b1, 5, none⟩ = some (.slice F2 m d2) := (blk_cell HR9.out 5).trans rfl
        have r6 : W9.cell? ⟨b1, 6, none⟩ = some (.map (some g)) := (blk_cell HR9.out 6).trans rfl
        have r7 : W9.cell? ⟨b1, 7, none⟩ = some (.slice O n co) := (blk_cell HR9.out 7).trans rfl
        have hval := G.valid_iff.1 HV.out
        have HO9 := HO4.out.kept hg9 (.inr fun e => by have := HOB3.out _ e; have := HE.out; omega)
        have HF9 := HF4.out.kept hg9 (.inr fun e => by have := HOB4.out _ e; have := HE.out; omega)
        have hol : ord.length = n := by rw [HP3.out.length_eq, List.length_range]
        refine bodyPost_ret (v := .tuple #[.agg #[.int .i64 q.opn, .int .i64 q.lo, .int .i64 q.hi, .int .i64 q.seats, .slice A n c, .slice F2 m d2, .map (some g), .slice O n co], .int .i64 0]) (by simp [results, Try.results36, go_sem, r0, r1, r2, r3, r4, r5, r6, r7]) rfl ⟨HB9.out, fun h => (by rw [HV.out] at h; cases h), fun _ => ⟨F2, d2, fs2, g, O, co, ord, Fn, kn, rfl, HP4.out, ?_, HM4.out.kept hg9 (fun e => by have h5 := Option.some.inj e; have := HGE3.out; have := HE.out; omega), HT3.out, by have := HGE3.out; have := HE.out; omega, fun b i e => (by have := HOB4.out b (by rw [e]; rfl); have := HE.out; omega), fun b i e => (by have := HOB3.out b (by rw [e]; rfl); have := HE.out; omega)⟩⟩
        exact ⟨G.valid_fs hval HP4.out, HGN.out, HP4.out.length_eq.trans HFN.out, hol, (HRG.out.below HB9.out).mono HB9.out.size, owns_RdF HF9 (HP4.out.length_eq.trans HFN.out), owns_RdI HO9 (by rw [List.length_map]; exact hol), HS4.out, G.ord_srt HGN.out hval.gn HP3.out HS3.out, HP3.out⟩
end Go.Proofs.Ytlpjkolocgkcpaa

namespace Go.Proofs.Ytlpjkolocgkcpaa
open Go.RowKit
attribute [local go_sem ↓] Go.wp_at_zero Go.wp_at_succ

theorem open_in (q : G.Qu) (A : Option Addr) (n c : Nat) (F : Option Addr) (m d : Nat) (w : World) (h : QIn w q A n c F m d) : Calls Try.prog 36 #[.agg #[.int .i64 q.opn, .int .i64 q.lo, .int .i64 q.hi, .int .i64 q.seats, .slice A n c, .slice F m d]] w (OpenPost q A n c m w) :=
  open_any q A n c F m d w h.gl h.fl h.n1 h.m1 h.rg h.rf h.a h.f h.id

set_option maxHeartbeats 6400000 in
set_option maxRecDepth 100000 in
theorem Enter_any (q : G.Qu) (A : Option Addr) (n c : Nat) (F : Option Addr) (m d : Nat) (rate : Int) (w : World) (h : QIn w q A n c F m d) :
    Calls Try.prog 17 #[.agg #[.int .i64 q.opn, .int .i64 q.lo, .int .i64 q.hi, .int .i64 q.seats, .slice A n c, .slice F m d], .int .i64 rate] w fun e w' => IntsPost (G.enterV q rate) (G.enterE q rate) w e w' := by
  have HI := hide h
  clear h
  cases hv : G.valid q
  · have HV := hide hv
    have hE : G.enterE q rate = 110 := by unfold G.enterE; rw [hv]; rfl
    have hV : G.enterV q rate = [] := by unfold G.enterV; rw [if_neg (by rw [hE]; decide)]
    rw [hE, hV]
    clear hv hE hV
    go_enter Try.func17, Try.ntmps17
    go_wp2_with (go_at_call 36; (with_reducible refine (open_in q A n c F m d _ (HI.out.below (show Below w.heap.size w (w.alloc (.cells #[.int .i64 q.opn, .int .i64 q.lo, .int .i64 q.hi, .int .i64 q.seats, .slice A n c, .slice F m d] 27)) from zbA (zbR _ _) (Nat.le_refl _) _))).mono ?_); rintro e w2 ⟨hb2, hno, _⟩; obtain rfl := hno HV.out; have HB2 := hide (zbT (show Below w.heap.size w (w.alloc (.cells #[.int .i64 q.opn, .int .i64 q.lo, .int .i64 q.hi, .int .i64 q.seats, .slice A n c, .slice F m d] 27)) from zbA (zbR _ _) (Nat.le_refl _) _) hb2 (by simp)); clear hno hb2)
    go_ret2
    exact ⟨none, 0, rfl, ⟨rfl, .inl ⟨rfl, rfl⟩⟩, zbA HB2.out HB2.out.size _⟩
  · have HV := hide hv
    cases hw : G.within rate q.lo q.hi
    · have HW := hide hw
      have hE : G.enterE q rate = 1 := by unfold G.enterE; rw [hv, if_pos rfl, hw]; rfl
      have hV : G.enterV q rate = [] := by unfold G.enterV; rw [if_neg (by rw [hE]; decide)]
      rw [hE, hV]
      clear hv hE hV hw
      go_enter Try.func17, Try.ntmps17
      go_wp2_with (first | (go_at_call 36; (with_reducible refine (open_in q A n c F m d _ (HI.out.below (show Below w.heap.size w (w.alloc (.cells #[.int .i64 q.opn, .int .i64 q.lo, .int .i64 q.hi, .int .i64 q.seats, .slice A n c, .slice F m d] 27)) from zbA (zbR _ _) (Nat.le_refl _) _))).mono ?_); rintro e w2 ⟨hb2, _, hyes⟩; obtain ⟨F2, d2, fs2, g, O, co, ord, Fn, kn, rfl, hpf, hL, hM, hT⟩ := hyes HV.out; have HB2 := hide (zbT (show Below w.heap.size w (w.alloc (.cells #[.int .i64 q.opn, .int .i64 q.lo, .int .i64 q.hi, .int .i64 q.seats, .slice A n c, .slice F m d] 27)) from zbA (zbR _ _) (Nat.le_refl _) _) hb2 (by simp)); have HPF := hide hpf; have HL := hide hL; clear hyes hb2 hpf hL hM hT) | (go_at_call 38; (with_reducible refine (within_any rate q.lo q.hi _).mono ?_); rintro e w' ⟨rfl, rfl⟩; rw [HW.out]))
      go_ret2
      exact ⟨none, 0, rfl, ⟨rfl, .inl ⟨rfl, rfl⟩⟩, zbA HB2.out HB2.out.size _⟩
    · have HW := hide hw
      have hE : G.enterE q rate = 0 := by unfold G.enterE; rw [hv, if_pos rfl, hw]; rfl
      have hV : G.enterV q rate = G.enter q rate := by unfold G.enterV; rw [if_pos hE]
      have hr := hw
      unfold G.within at hr
      simp only [Bool.and_eq_true, decide_eq_true_eq] at hr
      have HR := hide hr
      have HLN := hide (show (G.enter q rate).length = n by rw [G.enter_len]; exact HI.out.gl)
      rw [hE, hV]
      clear hv hE hV hw hr
      go_enter Try.func17, Try.ntmps17
      go_wp2_with (first | (go_at_call 36; (with_reducible refine (open_in q A n c F m d _ (HI.out.below (show Below w.heap.size w (w.alloc (.cells #[.int .i64 q.opn, .int .i64 q.lo, .int .i64 q.hi, .int .i64 q.seats, .slice A n c, .slice F m d] 27)) from zbA (zbR _ _) (Nat.le_refl _) _))).mono ?_); rintro e w2 ⟨hb2, _, hyes⟩; obtain ⟨F2, d2, fs2, g, O, co, ord, Fn, kn, rfl, hpf, hL, hM, hT⟩ := hyes HV.out; have HB2 := hide (zbT (show Below w.heap.size w (w.alloc (.cells #[.int .i64 q.opn, .int .i64 q.lo, .int .i64 q.hi, .int .i64 q.seats, .slice A n c, .slice F m d] 27)) from zbA (zbR _ _) (Nat.le_refl _) _) hb2 (by simp)); have HPF := hide hpf; have HL := hide hL; clear hyes hb2 hpf hL hM hT) | (go_at_call 38; (with_reducible refine (within_any rate q.lo q.hi _).mono ?_); rintro e w' ⟨rfl, rfl⟩; rw [HW.out]) | (go_at_call 39; (with_reducible refine (enter_any { q with fs := fs2 } A n c F2 m d2 g O co ord rate _ (HL.out.below (zbA (zbR _ _) (Nat.le_refl _) _)) HR.out.1 HR.out.2).mono ?_); rintro e w5 ⟨A5, c5, rfl, ho5, hb5⟩; rw [G.enter_fs HPF.out, HLN.out] at ho5 ⊢))
      go_ret2
      unfold IntsPost
      rw [HLN.out]
      exact ⟨A5, c5, rfl, owns_mono ho5 (Nat.le_trans HB2.out.size (by simp)), zbT (zbA HB2.out HB2.out.size _) hb5 (Nat.le_trans HB2.out.size (by simp))⟩
end Go.Proofs.Ytlpjkolocgkcpaa

namespace Go.Proofs.Ytlpjkolocgkcpaa
open Go.RowKit
attribute [local go_sem ↓] Go.wp_at_zero Go.wp_at_succ

theorem TgN.idx {q : G.Qu} {n : Nat} {Fn : Int → Int} {kn : Int → Bool} (h : TgN q.gs n Fn kn) (hn : q.gs.length = n) {id z : Int} {b : Bool} (h1 : b = true → 0 ≤ id ∧ id ≤ 999 ∧ z = Fn id ∧ kn id = true) (h2 : b = false → 0 ≤ id → id ≤ 999 → kn id = false) :
    (b = false → G.idxOf q id = none) ∧ (b = true → ∃ gi : Nat, G.idxOf q id = some gi ∧ z = (gi : Int) ∧ gi < n) := by
  have ht : q.gs.take n = q.gs := List.take_of_length_le (by omega)
  constructor
  · intro hb
    unfold G.idxOf
    rw [List.findIdx?_eq_none_iff]
    intro p hp
    cases he : (p.id == id) with
    | false => rfl
    | true =>
      have e : p.id = id := by simpa using he
      have hm : id ∈ (q.gs.take n).map (·.id) := by rw [ht]; exact List.mem_map.2 ⟨p, hp, e⟩
      have hr := h.2.1 id hm
      have hk := h2 hb hr.1 hr.2
      rw [h.1 id hr.1 hr.2] at hk
      have : ((q.gs.take n).map (·.id)).contains id = true := by simpa using hm
      rw [this] at hk
      cases hk
  · intro hb
    obtain ⟨r0, r1, hz, hk⟩ := h1 hb
    rw [h.1 id r0 r1, ht] at hk
    obtain ⟨p, hp, e⟩ := List.mem_map.1 (by simpa using hk : id ∈ q.gs.map (·.id))
    have hs : (q.gs.findIdx? (fun p => p.id == id)).isSome = true := by
      rw [List.findIdx?_isSome, List.any_eq_true]
      exact ⟨p, hp, by simpa using e⟩
    obtain ⟨gi, hgi⟩ := Option.isSome_iff_exists.1 hs
    have hgi2 := hgi
    rw [List.findIdx?_eq_some_iff_getElem] at hgi2
    obtain ⟨hl, hpg, _⟩ := hgi2
    refine ⟨gi, hgi, ?_, by omega⟩
    have := h.2.2 gi _ (by omega) (List.getElem?_eq_getElem hl)
    rw [show q.gs[gi].id = id by simpa using hpg] at this
    rw [hz, this]
theorem LineAt.keepR {w w' : World} {q : G.Qu} {A : Option Addr} {n c : Nat} {F : Option Addr} {m d : Nat} {O : Option Addr} {co : Nat} {ord : List Nat} {b1 : Nat} (h : LineAt w q A n c F m d O co ord) (hg : w.grownBy w' (some b1)) (hne : ∀ b i, (A = some ⟨b, i, none⟩ ∨ F = some ⟨b, i, none⟩ ∨ O = some ⟨b, i, none⟩) → b ≠ b1) : LineAt w' q A n c F m d O co ord := by
  have hc : ∀ (b i j : Nat), b < w.heap.size → b ≠ b1 → w'.cell? ⟨b, j, none⟩ = w.cell? ⟨b, j, none⟩ := fun b _ j hb hn => gr_cellS hg hb (fun e => hn (Option.some.inj e)) j
  refine ⟨h.v, h.gl, h.fl, h.ol, fun k p hk => ?_, fun k p hk => ?_, fun k p hk => ?_, h.fs, h.os, h.op⟩
  · obtain ⟨b, i, e, hb, c0, c1, c2, c3⟩ := h.rg k p hk
    have hn := hne b i (.inl e)
    exact ⟨b, i, e, Nat.lt_of_lt_of_le hb hg.size, (hc b i _ hb hn).trans c0, (hc b i _ hb hn).trans c1, (hc b i _ hb hn).trans c2, (hc b i _ hb hn).trans c3⟩
  · obtain ⟨b, i, e, hb, c0, c1⟩ := h.rf k p hk
    have hn := hne b i (.inr (.inl e))
    exact ⟨b, i, e, Nat.lt_of_lt_of_le hb hg.size, (hc b i _ hb hn).trans c0, (hc b i _ hb hn).trans c1⟩
  · obtain ⟨b, i, e, hb, c0⟩ := h.ro k p hk
    have hn := hne b i (.inr (.inr e))
    exact ⟨b, i, e, Nat.lt_of_lt_of_le hb hg.size, (hc b i _ hb hn).trans c0⟩
def ForPost (q : G.Qu) (id : Int) (A : Option Addr) (n c m : Nat) (w : World) (e : Ending) (w' : World) : Prop :=
  Below w.heap.size w w' ∧ (G.valid q = false → e = .returned (.tuple #[.agg #[.int .i64 0, .int .i64 0, .int .i64 0, .int .i64 0, .slice none 0 0, .slice none 0 0, .map none, .slice none 0 0], .int .i64 0, .int .i64 110])) ∧
  (G.valid q = true → (G.idxOf q id = none → e = .returned (.tuple #[.agg #[.int .i64 0, .int .i64 0, .int .i64 0, .int .i64 0, .slice none 0 0, .slice none 0 0, .map none, .slice none 0 0], .int .i64 0, .int .i64 1])) ∧
    ∀ gi, G.idxOf q id = some gi → ∃ (F2 : Option Addr) (d2 : Nat) (fs2 : List G.Fr) (g : Nat) (O : Option Addr) (co : Nat) (ord : List Nat),
      e = .returned (.tuple #[.agg #[.int .i64 q.opn, .int .i64 q.lo, .int .i64 q.hi, .int .i64 q.seats, .slice A n c, .slice F2 m d2, .map (some g), .slice O n co], .int .i64 (gi : Int), .int .i64 0]) ∧ fs2.Perm q.fs ∧ LineAt w' { q with fs := fs2 } A n c F2 m d2 O co ord)

set_option maxHeartbeats 6400000 in
set_option maxRecDepth 100000 in
theorem openFor_any (q : G.Qu) (id : Int) (A : Option Addr) (n c : Nat) (F : Option Addr) (m d : Nat) (w : World) (h : QIn w q A n c F m d) (hid : (Lit.int .i64 id).wf = true) :
    Calls Try.prog 43 #[.agg #[.int .i64 q.opn, .int .i64 q.lo, .int .i64 q.hi, .int .i64 q.seats, .slice A n c, .slice F m d], .int .i64 id] w (ForPost q id A n c m w) := by
  have HI := hide h
  have HID := hide hid
  clear h hid
  go_enter Try.func43, Try.ntmps43
  go_upto_region 1 with fail
  refine cap_w (M := Code.wp _ _ _ _) _ (fun w1 hw1 => ?_)
  have HB1 := hide (show Below w.heap.size w w1 by rw [hw1]; (repeat' first | exact zbR _ _ | assumption | refine zbD ?_ | refine zbA ?_ ?_ _ | refine zbS ?_ ?_ _ | refine zbT ?_ (by assumption) ?_ | (simp; done) | (simp; omega) | omega))
  have HQ := hide (show w1.heap[w.heap.size]? = some (.cells #[.int .i64 q.opn, .int .i64 q.lo, .int .i64 q.hi, .int .i64 q.seats, .slice A n c, .slice F m d] 27 (0, 0)) by
    rw [hw1]; exact (Below.heap_alloc _ _ _ (by simp)).trans (World.alloc_heap_new _ _))
  have HZ := hide (show w1.heap[w.heap.size + 1]? = some (.cells #[.int .i64 0, .int .i64 0, .int .i64 0, .int .i64 0, .slice none 0 0, .slice none 0 0, .map none, .slice none 0 0] 67 (0, 0)) by
    rw [hw1]; exact alloc_new_at (by simp))
  clear hw1
  obtain ⟨b1, hb1⟩ : ∃ x, w.heap.size + 1 = x := ⟨_, rfl⟩
  rw [hb1] at HZ ⊢
  obtain ⟨b0, hb0⟩ : ∃ x, w.heap.size = x := ⟨_, rfl⟩
  have HBB := hide (show w.heap.size ≤ b1 by omega)
  have HE := hide (show w.heap.size = b0 ∧ b0 < b1 by omega)
  rw [hb0] at HQ ⊢
  clear hb1 hb0
  have HI1 := hide (HI.out.below HB1.out)
  have q0 : w1.cell? ⟨b0, 0, none⟩ = some (.int .i64 q.opn) := (blk_cell HQ.out 0).trans rfl
  have q1 : w1.cell? ⟨b0, 1, none⟩ = some (.int .i64 q.lo) := (blk_cell HQ.out 1).trans rfl
  have q2 : w1.cell? ⟨b0, 2, none⟩ = some (.int .i64 q.hi) := (blk_cell HQ.out 2).trans rfl
  have q3 : w1.cell? ⟨b0, 3, none⟩ = some (.int .i64 q.seats) := (blk_cell HQ.out 3).trans rfl
  have q4 : w1.cell? ⟨b0, 4, none⟩ = some (.slice A n c) := (blk_cell HQ.out 4).trans rfl
  have q5 : w1.cell? ⟨b0, 5, none⟩ = some (.slice F m d) := (blk_cell HQ.out 5).trans rfl
  have lq := blk_lt HQ.out
  cases hv : G.valid q
  · have HV := hide hv
    clear hv
    go_wp2_with (first | (go_at_call 36; (with_reducible refine (open_in q A n c F m d _ HI1.out).mono ?_); rintro e w2 ⟨hb2, hno, _⟩; obtain rfl := hno HV.out; have HB2 := hide (zbT HB1.out hb2 HB1.out.size); have HZ2 := bkT hb2 HZ; clear hno hb2 q0 q1 q2 q3 q4 q5 lq) | (refine wpList_store_row rfl 67 _ _ rfl b1 _ rfl rfl 67 _ HZ2.out lnRow rfl (by simp [Value.oneCell']) ?_; refine cap_w (M := wpList _ _ _ _ _) _ (fun w3 hw3 => ?_); have HR3 := hide (show w3.heap[b1]? = some (.cells #[.int .i64 0, .int .i64 0, .int .i64 0, .int .i64 0, .slice none 0 0, .slice none 0 0, .map none, .slice none 0 0] 67 (0, 0)) by rw [hw3]; exact setRow_heap _ _ _ _ _ _ HZ2.out); have HG3 := hide (show w2.grownBy w3 (some b1) by rw [hw3]; exact setRow_grown _ _ _); have HB3 := hide (show Below w.heap.size w w3 by rw [hw3]; exact below_row HB2.out HBB.out _); clear hw3 HZ2) | (refine wpList_store_row rfl 67 _ _ rfl b1 _ rfl rfl 67 _ HR3.out lnRow rfl (by simp [Value.oneCell']) ?_))
    refine cap_w (M := bodyPost _ _ _ _ _) _ (fun W9 hW9 => ?_)
    have HR9 := hide (show W9.heap[b1]? = some (.cells #[.int .i64 0, .int .i64 0, .int .i64 0, .int .i64 0, .slice none 0 0, .slice none 0 0, .map none, .slice none 0 0] 67 (0, 0)) by rw [hW9]; exact setRow_heap _ _ _ _ _ _ HR3.out)
    have HG9 := hide (show w3.grownBy W9 (some b1) by rw [hW9]; exact setRow_grown _ _ _)
    have HB9 := hide (show Below w.heap.size w W9 by rw [hW9]; exact below_row HB3.out HBB.out _)
    clear hW9
    have s0 : W9.cell? ⟨b1, 0, none⟩ = some (.int .i64 0) := (blk_cell HR9.out 0).trans rfl
    have s1 : W9.cell? ⟨b1, 1, none⟩ = some (.int .i64 0) := (blk_cell HR9.out 1).trans rfl
    have s2 : W9.cell? ⟨b1, 2, none⟩ = some (.int .i64 0) := (blk_cell HR9.out 2).trans rfl
    have s3 : W9.cell? ⟨b1, 3, none⟩ = some (.int .i64 0) := (blk_cell HR9.out 3).trans rfl
    have s4 : W9.cell? ⟨b1, 4, none⟩ = some (.slice none 0 0) := (blk_cell HR9.out 4).trans rfl
    have s5 : W9.cell? ⟨b1, 5, none⟩ = some (.slice none 0 0) := (blk_cell HR9.out 5).trans rfl
    have s6 : W9.cell? ⟨b1, 6, none⟩ = some (.map none) := (blk_cell HR9.out 6).trans rfl
    have s7 : W9.cell? ⟨b1, 7, none⟩ = some (.slice none 0 0) := (blk_cell HR9.out 7).trans rfl
    refine bodyPost_ret (v := .tuple #[.agg #[.int .i64 0, .int .i64 0, .int .i64 0, .int .i64 0, .slice none 0 0, .slice none 0 0, .map none, .slice none 0 0], .int .i64 0, .int .i64 110]) (by simp [results, Try.results43, go_sem, s0, s1, s2, s3, s4, s5, s6, s7]) rfl ?_
    exact ⟨HB9.out, fun _ => rfl, fun h => by rw [HV.out] at h; cases h⟩
  · have HV := hide hv
    clear hv
    go_upto_region 2 with (first | (go_at_call 36; (with_reducible refine (open_in q A n c F m d _ HI1.out).mono ?_); rintro e w2 ⟨hb2, _, hyes⟩; obtain ⟨F2, d2, fs2, g, O, co, ord, Fn, kn, rfl, hpf, hL, hM, hT, hgs, hfb, hob⟩ := hyes HV.out; have HGS := hide hgs; have HFB := hide hfb; have HOB := hide hob; have HB2 := hide (zbT HB1.out hb2 HB1.out.size); have HZ2 := bkT hb2 HZ; have HPF := hide hpf; have HL := hide hL; have HM := hide hM; have HT := hide hT; clear hyes hb2 hpf hL hM hT hgs hfb hob q0 q1 q2 q3 q4 q5 lq) | (refine wpList_store_row rfl 67 _ _ rfl b1 _ rfl rfl 67 _ HZ2.out lnRow rfl (by simp [Value.oneCell']) ?_; refine cap_w (M := wpList _ _ _ _ _) _ (fun w3 hw3 => ?_); have HR3 := hide (show w3.heap[b1]? = some (.cells #[.int .i64 q.opn, .int .i64 q.lo, .int .i64 q.hi, .int .i64 q.seats, .slice A n c, .slice F2 m d2, .map (some g), .slice O n co] 67 (0, 0)) by rw [hw3]; exact setRow_heap _ _ _ _ _ _ HZ2.out); have HG3 := hide (show w2.grownBy w3 (some b1) by rw [hw3]; exact setRow_grown _ _ _); have HB3 := hide (show Below w.heap.size w w3 by rw [hw3]; exact below_row HB2.out HBB.out _); clear hw3 HZ2))
    have HLT := hide (blk_lt HZ.out)
    have HM3 := hide (HM.out.kept HG3.out (fun e => by have h5 := Option.some.inj e; have := HGS.out; have := HLT.out; omega))
    have HNE := hide (show ∀ b i, (A = some ⟨b, i, none⟩ ∨ F2 = some ⟨b, i, none⟩ ∨ O = some ⟨b, i, none⟩) → b ≠ b1 from fun b i h => by
      rcases h with h | h | h
      · have := HI.out.a b i h; have := HBB.out; have := HE.out; omega
      · have := HFB.out b i h; have := HLT.out; omega
      · have := HOB.out b i h; have := HLT.out; omega)
    obtain ⟨z, bo, hlk0, h1, h2⟩ := MapK.lookOk_wf Try.underlying65 zeroI HM3.out HID.out
    have hlk : (Instr.lookup 65 (.map (some g)) (.int .i64 id) true).run Try.prog w3 = .ok (.tuple #[.int .i64 z, .bool bo]) w3 := hlk0
    obtain ⟨hx1, hx2⟩ := TgN.idx HT.out HI.out.gl h1 h2
    have r0 : w3.cell? ⟨b1, 0, none⟩ = some (.int .i64 q.opn) := (blk_cell HR3.out 0).trans rfl
    have r1 : w3.cell? ⟨b1, 1, none⟩ = some (.int .i64 q.lo) := (blk_cell HR3.out 1).trans rfl
    have r2 : w3.cell? ⟨b1, 2, none⟩ = some (.int .i64 q.hi) := (blk_cell HR3.out 2).trans rfl
    have r3 : w3.cell? ⟨b1, 3, none⟩ = some (.int .i64 q.seats) := (blk_cell HR3.out 3).trans rfl
    have r4 : w3.cell? ⟨b1, 4, none⟩ = some (.slice A n c) := (blk_cell HR3.out 4).trans rfl
    have r5 : w3.cell? ⟨b1, 5, none⟩ = some (.slice F2 m d2) := (blk_cell HR3.out 5).trans rfl
    have r6 : w3.cell? ⟨b1, 6, none⟩ = some (.map (some g)) := (blk_cell HR3.out 6).trans rfl
    have r7 : w3.cell? ⟨b1, 7, none⟩ = some (.slice O n co) := (blk_cell HR3.out 7).trans rfl
    have lr := blk_lt HR3.out
    clear hlk0 h1 h2
    cases bo
    · have HX := hide (hx1 rfl)
      clear hx1 hx2
      go_wp2_with (refine wpList_store_row rfl 67 _ _ rfl b1 _ rfl rfl 67 _ HR3.out lnRow rfl (by simp [Value.oneCell']) ?_)
      refine cap_w (M := bodyPost _ _ _ _ _) _ (fun W9 hW9 => ?_)
      have HR9 := hide (show W9.heap[b1]? = some (.cells #[.int .i64 0, .int .i64 0, .int .i64 0, .int .i64 0, .slice none 0 0, .slice none 0 0, .map none, .slice none 0 0] 67 (0, 0)) by rw [hW9]; exact setRow_heap _ _ _ _ _ _ HR3.out)
      have HG9 := hide (show w3.grownBy W9 (some b1) by rw [hW9]; exact setRow_grown _ _ _)
      have HB9 := hide (show Below w.heap.size w W9 by rw [hW9]; exact below_row HB3.out HBB.out _)
      clear hW9
      have s0 : W9.cell? ⟨b1, 0, none⟩ = some (.int .i64 0) := (blk_cell HR9.out 0).trans rfl
      have s1 : W9.cell? ⟨b1, 1, none⟩ = some (.int .i64 0) := (blk_cell HR9.out 1).trans rfl
      have s2 : W9.cell? ⟨b1, 2, none⟩ = some (.int .i64 0) := (blk_cell HR9.out 2).trans rfl
      have s3 : W9.cell? ⟨b1, 3, none⟩ = some (.int .i64 0) := (blk_cell HR9.out 3).trans rfl
      have s4 : W9.cell? ⟨b1, 4, none⟩ = some (.slice none 0 0) := (blk_cell HR9.out 4).trans rfl
      have s5 : W9.cell? ⟨b1, 5, none⟩ = some (.slice none 0 0) := (blk_cell HR9.out 5).trans rfl
      have s6 : W9.cell? ⟨b1, 6, none⟩ = some (.map none) := (blk_cell HR9.out 6).trans rfl
      have s7 : W9.cell? ⟨b1, 7, none⟩ = some (.slice none 0 0) := (blk_cell HR9.out 7).trans rfl
      refine bodyPost_ret (v := .tuple #[.agg #[.int .i64 0, .int .i64 0, .int .i64 0, .int .i64 0, .slice none 0 0, .slice none 0 0, .map none, .slice none 0 0], .int .i64 0, .int .i64 1]) (by simp [results, Try.results43, go_sem, s0, s1, s2, s3, s4, s5, s6, s7]) rfl ?_
      exact ⟨HB9.out, fun h => (by rw [HV.out] at h; cases h), fun _ => ⟨fun _ => rfl, fun i hi => (by rw [HX.out] at hi; cases hi)⟩⟩
    · obtain ⟨gi, hgi, hz, _⟩ := hx2 rfl
      have HX := hide hgi
      subst hz
      clear hx1 hx2 hgi
      go_wp2_with (refine wpList_store_row rfl 67 _ _ rfl b1 _ rfl rfl 67 _ HR3.out lnRow rfl (by simp [Value.oneCell']) ?_)
      refine cap_w (M := bodyPost _ _ _ _ _) _ (fun W9 hW9 => ?_)
      have HR9 := hide (show W9.heap[b1]? = some (.cells #[.int .i64 q.opn, .int .i64 q.lo, .int .i64 q.hi, .int .i64 q.seats, .slice A n c, .slice F2 m d2, .map (some g), .slice O n co] 67 (0, 0)) by rw [hW9]; exact setRow_heap _ _ _ _ _ _ HR3.out)
      have HG9 := hide (show w3.grownBy W9 (some b1) by rw [hW9]; exact setRow_grown _ _ _)
      have HB9 := hide (show Below w.heap.size w W9 by rw [hW9]; exact below_row HB3.out HBB.out _)
      clear hW9
      have s0 : W9.cell? ⟨b1, 0, none⟩ = some (.int .i64 q.opn) := (blk_cell HR9.out 0).trans rfl
      have s1 : W9.cell? ⟨b1, 1, none⟩ = some (.int .i64 q.lo) := (blk_cell HR9.out 1).trans rfl
      have s2 : W9.cell? ⟨b1, 2, none⟩ = some (.int .i64 q.hi) := (blk_cell HR9.out 2).trans rfl
      have s3 : W9.cell? ⟨b1, 3, none⟩ = some (.int .i64 q.seats) := (blk_cell HR9.out 3).trans rfl
      have s4 : W9.cell? ⟨b1, 4, none⟩ = some (.slice A n c) := (blk_cell HR9.out 4).trans rfl
      have s5 : W9.cell? ⟨b1, 5, none⟩ = some (.slice F2 m d2) := (blk_cell HR9.out 5).trans rfl
      have s6 : W9.cell? ⟨b1, 6, none⟩ = some (.map (some g)) := (blk_cell HR9.out 6).trans rfl
      have s7 : W9.cell? ⟨b1, 7, none⟩ = some (.slice O n co) := (blk_cell HR9.out 7).trans rfl
      refine bodyPost_ret (v := .tuple #[.agg #[.int .i64 q.opn, .int .i64 q.lo, .int .i64 q.hi, .int .i64 q.seats, .slice A n c, .slice F2 m d2, .map (some g), .slice O n co], .int .i64 (gi : Int), .int .i64 0]) (by simp [results, Try.results43, go_sem, s0, s1, s2, s3, s4, s5, s6, s7]) rfl ?_
      refine ⟨HB9.out, fun h => (by rw [HV.out] at h; cases h), fun _ => ⟨fun h => (by rw [HX.out] at h; cases h), fun i hi => ?_⟩⟩
      rw [HX.out] at hi
      cases hi
      refine ⟨F2, d2, fs2, g, O, co, ord, rfl, HPF.out, ?_⟩
      exact HL.out.keepR (HG3.out.andThen HG9.out (fun y hy => .inr hy)) HNE.out
end Go.Proofs.Ytlpjkolocgkcpaa

namespace Go.Proofs.Ytlpjkolocgkcpaa
open Go.RowKit Go.Shelf
attribute [local go_sem ↓] Go.wp_at_zero Go.wp_at_succ
attribute [local go_sem] Oper.semAt_some

namespace G
end G

end Go.Proofs.Ytlpjkolocgkcpaa

namespace Go.Proofs.Ytlpjkolocgkcpaa
open Go.RowKit Go.Shelf
attribute [local go_sem ↓] Go.wp_at_zero Go.wp_at_succ

namespace G
theorem minL_snoc {xs : List Int} {k : Nat} {y : Int} (hk : 1 ≤ k) (h : xs[k]? = some y) : minL (xs.take (k + 1)) = if y < minL (xs.take k) then y else minL (xs.take k) := by
  rw [List.take_add_one, h]
  match xs, k, hk, h with
  | [], k, _, h => simp at h
  | a :: r, k + 1, _, _ => (simp [minL, List.foldl_append]; try congr)
theorem maxL_snoc {xs : List Int} {k : Nat} {y : Int} (hk : 1 ≤ k) (h : xs[k]? = some y) : maxL (xs.take (k + 1)) = if maxL (xs.take k) < y then y else maxL (xs.take k) := by
  rw [List.take_add_one, h]
  match xs, k, hk, h with
  | [], k, _, h => simp at h
  | a :: r, k + 1, _, _ => (simp [maxL, List.foldl_append]; try congr)
end G

set_option maxHeartbeats 3200000 in
set_option maxRecDepth 100000 in
theorem min_any (A : Option Addr) (n c : Nat) (xs : List Int) (w : World) (hn : xs.length = n) (hr : RdI w w.heap.size A xs) (hm : n ≤ 1000000) (h1 : 1 ≤ n) :
    Calls Try.prog 57 #[.slice A n c] w fun e w' => e = .returned (.int .i64 (G.minL xs)) ∧ w = w' := by
  have HR := hide hr
  have HN := hide hn
  obtain ⟨x0, hx0⟩ : ∃ x, xs[0]? = some x := ⟨_, List.getElem?_eq_getElem (by omega)⟩
  obtain ⟨b, o, rfl, hb, c0'⟩ := hr 0 x0 hx0
  have c0 : w.cell? ⟨b, o, none⟩ = some (.int .i64 x0) := c0'
  clear c0'
  have E1 := hide (show G.minL (xs.take 1) = x0 by
    match xs, hx0 with
    | a :: r, h => simp at h; subst h; rfl)
  clear hr hn hx0
  go_enter Try.func57, Try.ntmps57
  have hn1 : ¬ ((n : Int) < 1) := by omega
  have hn0 : 0 < n := by omega
  go_wp2
  go_loopw [3, 4] (fun v i wr => ∃ k : Nat, 1 ≤ k ∧ k ≤ n ∧ i = .int .i64 (k : Int) ∧ v = .int .i64 (G.minL (xs.take k)) ∧ wr = w) (fun _ i _ => n - (intOf i).toNat)
  case atStart => exact ⟨1, by omega, by omega, rfl, by rw [E1.out], rfl⟩
  case round =>
    obtain ⟨k, hk1, hk, rfl, rfl, rfl⟩ := hrel
    by_cases hlt : k < n
    · obtain ⟨y, hy⟩ : ∃ y, xs[k]? = some y := ⟨_, List.getElem?_eq_getElem (by rw [HN.out]; exact hlt)⟩
      obtain ⟨_, _, e, _, ck⟩ := HR.out k y hy
      obtain ⟨rfl, rfl⟩ : _ = _ ∧ _ = _ := by simpa using e
      have HS := hide (G.minL_snoc hk1 hy)
      obtain ⟨mm, hmm⟩ : ∃ mm, G.minL (xs.take k) = mm := ⟨_, rfl⟩
      rw [hmm] at HS ⊢
      have hltI : (k : Int) < (n : Int) := by omega
      clear hy e hmm
      go_wp2
      go_roundw
      case rel => exact ⟨k + 1, by omega, by omega, by go_num, by first | (rw [HS.out]; done) | (rw [HS.out]; congr 1; split <;> omega), trivial⟩
      case measure => simp [intOf]; omega
    · have hkn : k = n := by omega
      subst hkn
      have EF := hide (show xs.take k = xs by rw [List.take_of_length_le (by rw [HN.out]; exact Nat.le_refl _)])
      rw [EF.out]
      go_wp2
      go_ret
      exact ⟨rfl, rfl⟩

set_option maxHeartbeats 3200000 in
set_option maxRecDepth 100000 in
theorem max_any (A : Option Addr) (n c : Nat) (xs : List Int) (w : World) (hn : xs.length = n) (hr : RdI w w.heap.size A xs) (hm : n ≤ 1000000) (h1 : 1 ≤ n) :
    Calls Try.prog 58 #[.slice A n c] w fun e w' => e = .returned (.int .i64 (G.maxL xs)) ∧ w = w' := by
  have HR := hide hr
  have HN := hide hn
  obtain ⟨x0, hx0⟩ : ∃ x, xs[0]? = some x := ⟨_, List.getElem?_eq_getElem (by omega)⟩
  obtain ⟨b, o, rfl, hb, c0'⟩ := hr 0 x0 hx0
  have c0 : w.cell? ⟨b, o, none⟩ = some (.int .i64 x0) := c0'
  clear c0'
  have E1 := hide (show G.maxL (xs.take 1) = x0 by
    match xs, hx0 with
    | a :: r, h => simp at h; subst h; rfl)
  clear hr hn hx0
  go_enter Try.func58, Try.ntmps58
  have hn1 : ¬ ((n : Int) < 1) := by omega
  have hn0 : 0 < n := by omega
  go_wp2
  go_loopw [3, 4] (fun v i wr => ∃ k : Nat, 1 ≤ k ∧ k ≤ n ∧ i = .int .i64 (k : Int) ∧ v = .int .i64 (G.maxL (xs.take k)) ∧ wr = w) (fun _ i _ => n - (intOf i).toNat)
  case atStart => exact ⟨1, by omega, by omega, rfl, by rw [E1.out], rfl⟩
  case round =>
    obtain ⟨k, hk1, hk, rfl, rfl, rfl⟩ := hrel
    by_cases hlt : k < n
    · obtain ⟨y, hy⟩ : ∃ y, xs[k]? = some y := ⟨_, List.getElem?_eq_getElem (by rw [HN.out]; exact hlt)⟩
      obtain ⟨_, _, e, _, ck⟩ := HR.out k y hy
      obtain ⟨rfl, rfl⟩ : _ = _ ∧ _ = _ := by simpa using e
      have HS := hide (G.maxL_snoc hk1 hy)
      obtain ⟨mm, hmm⟩ : ∃ mm, G.maxL (xs.take k) = mm := ⟨_, rfl⟩
      rw [hmm] at HS ⊢
      have hltI : (k : Int) < (n : Int) := by omega
      clear hy e hmm
      go_wp2
      go_roundw
      case rel => exact ⟨k + 1, by omega, by omega, by go_num, by first | (rw [HS.out]; done) | (rw [HS.out]; congr 1; split <;> omega), trivial⟩
      case measure => simp [intOf]; omega
    · have hkn : k = n := by omega
      subst hkn
      have EF := hide (show xs.take k = xs by rw [List.take_of_length_le (by rw [HN.out]; exact Nat.le_refl _)])
      rw [EF.out]
      go_wp2
      go_ret
      exact ⟨rfl, rfl⟩

set_option maxHeartbeats 3200000 in
set_option maxRecDepth 100000 in
theorem spanOf_any (A : Option Addr) (n c : Nat) (xs : List Int) (w : World) (hn : xs.length = n) (hr : RdI w w.heap.size A xs) (hm : n ≤ 1000000) (h1 : 1 ≤ n) :
    Calls Try.prog 41 #[.slice A n c] w fun e w' => e = .returned (.agg #[.int .i64 (G.minL xs), .int .i64 (G.maxL xs)]) ∧ Below w.heap.size w w' := by
  have HR := hide hr
  have HN := hide hn
  have HM := hide hm
  have H1 := hide h1
  clear hr hn hm h1
  go_enter Try.func41, Try.ntmps41
  have HB := hide (show Below w.heap.size w (w.alloc (.cells #[.int .i64 0, .int .i64 0] 23)) by (repeat' first | exact zbR _ _ | assumption | refine zbD ?_ | refine zbA ?_ ?_ _ | refine zbS ?_ ?_ _ | refine zbT ?_ (by assumption) ?_ | (simp; done) | (simp; omega) | omega))
  go_wp2_with (first | (go_at_call 57; refine (min_any A n c xs _ HN.out ((HR.out.below HB.out).mono HB.out.size) HM.out H1.out).mono ?_; rintro e w2 ⟨rfl, rfl⟩) | (go_at_call 58; refine (max_any A n c xs _ HN.out ((HR.out.below HB.out).mono HB.out.size) HM.out H1.out).mono ?_; rintro e w2 ⟨rfl, rfl⟩))
  exact bodyPost_ret (v := .agg #[.int .i64 (G.minL xs), .int .i64 (G.maxL xs)]) (by simp [results, Try.results41, go_sem]) rfl ⟨rfl, by (repeat' first | exact zbR _ _ | assumption | refine zbD ?_ | refine zbA ?_ ?_ _ | refine zbS ?_ ?_ _ | refine zbT ?_ (by assumption) ?_ | (simp; done) | (simp; omega) | omega)⟩
end Go.Proofs.Ytlpjkolocgkcpaa

namespace Go.Proofs.Ytlpjkolocgkcpaa
open Go.RowKit
attribute [local go_sem ↓] Go.wp_at_zero Go.wp_at_succ

theorem spRow : (Try.prog.info? 23).map (·.size) = some 2 := by kernel_rfl

end Go.Proofs.Ytlpjkolocgkcpaa

namespace Go.Proofs.Ytlpjkolocgkcpaa
open Go.RowKit Go.Shelf
attribute [local go_sem ↓] Go.wp_at_zero Go.wp_at_succ

namespace G
theorem people_bd {q : Qu} (hv : Valid q) (k : Nat) : 0 ≤ ((q.gs.map (·.size)).take k).sum ∧ ((q.gs.map (·.size)).take k).sum ≤ 800 := by
  have h : ∀ (l : List Int), (∀ x ∈ l, 0 ≤ x ∧ x ≤ 20) → 0 ≤ l.sum ∧ l.sum ≤ 20 * l.length := by
    intro l
    induction l with
    | nil => intro _; simp
    | cons a r ih =>
      intro h
      have h1 := h a (List.mem_cons_self ..)
      have h2 := ih (fun x hx => h x (List.mem_cons_of_mem _ hx))
      rw [List.sum_cons, List.length_cons]
      omega
  have h1 := h ((q.gs.map (·.size)).take k) (fun x hx => by
    obtain ⟨p, hp, rfl⟩ := List.mem_map.1 (List.mem_of_mem_take hx)
    have hV := vParty_iff.1 (hv.gv _ hp)
    have := hV.z0
    have := hV.z1
    omega)
  have h2 : ((q.gs.map (·.size)).take k).length ≤ 40 := by
    rw [List.length_take, List.length_map]
    have := hv.gl
    omega
  omega
theorem people_all (q : Qu) {n : Nat} (h : q.gs.length = n) : ((q.gs.map (·.size)).take n).sum = people q.gs := by
  rw [List.take_of_length_le (by rw [List.length_map]; omega)]
  rfl
end G
theorem LineAt.more {w : World} {q : G.Qu} {A : Option Addr} {n c : Nat} {F : Option Addr} {m d : Nat} {O : Option Addr} {co : Nat} {ord : List Nat} (h : LineAt w q A n c F m d O co ord) {k : Nat} (hk : q.seats + (k : Int) ≤ 9999) : LineAt w { q with seats := q.seats + (k : Int) } A n c F m d O co ord :=
  ⟨⟨h.v.o0, h.v.o1, h.v.l0, h.v.lh, h.v.h1, by have := h.v.s0; show 0 ≤ q.seats + (k : Int); omega, hk, h.v.gl, h.v.gv, h.v.gn, h.v.fl, h.v.fv⟩, h.gl, h.fl, h.ol, h.rg, h.rf, h.ro, h.fs, h.os, h.op⟩

set_option maxHeartbeats 6400000 in
set_option maxRecDepth 100000 in
theorem enough_any (q : G.Qu) (A : Option Addr) (n c : Nat) (F : Option Addr) (m d : Nat) (B : Nat) (O : Option Addr) (co : Nat) (ord : List Nat) (g : Nat) (w : World) (hL : LineAt w q A n c F m d O co ord) (hg : g < n) :
    Calls Try.prog 48 #[.agg #[.int .i64 q.opn, .int .i64 q.lo, .int .i64 q.hi, .int .i64 q.seats, .slice A n c, .slice F m d, .map (some B), .slice O n co], .int .i64 (g : Int)] w fun e w' => e = .returned (.tuple #[.int .i64 ((G.enough q g).getD 0), .bool (G.enough q g).isSome]) ∧ Below w.heap.size w w' := by
  have HL := hide hL
  have HGN := hide hL.gl
  have hn40 : n ≤ 40 := by have := hL.v.gl; have := hL.gl; omega
  have hs0 := hL.v.s0
  have hs1 := hL.v.s1
  clear hL
  go_enter Try.func48, Try.ntmps48
  obtain ⟨p, hp⟩ : ∃ p, w.heap.size = p := ⟨_, rfl⟩
  obtain ⟨V, hV⟩ : ∃ V, w.alloc (.cells #[.int .i64 q.opn, .int .i64 q.lo, .int .i64 q.hi, .int .i64 q.seats, .slice A n c, .slice F m d, .map (some B), .slice O n co] 67) = V := ⟨_, rfl⟩
  have V0 := hide (show V.heap[p]? = some (.cells #[.int .i64 q.opn, .int .i64 q.lo, .int .i64 q.hi, .int .i64 q.seats, .slice A n c, .slice F m d, .map (some B), .slice O n co] 67 (0, 0)) by rw [← hV, ← hp]; exact World.alloc_heap_new _ _)
  have VB := hide (show Below w.heap.size w V by rw [← hV]; (repeat' first | exact zbR _ _ | assumption | refine zbD ?_ | refine zbA ?_ ?_ _ | refine zbS ?_ ?_ _ | refine zbT ?_ (by assumption) ?_ | (simp; done) | (simp; omega) | omega))
  go_upto_region 1 with fail
  (try rw [hV])
  clear hV
  have c4 : V.cell? ⟨p, 4, none⟩ = some (.slice A n c) := (blk_cell V0.out 4).trans rfl
  have lp := blk_lt V0.out
  go_wp2
  go_loopw [6, 15] (fun v i wr => ∃ k : Nat, k ≤ n ∧ i = .int .i64 (k : Int) ∧ v = .int .i64 ((q.gs.map (·.size)).take k).sum ∧ Hid (wr.heap[p]? = some (.cells #[.int .i64 q.opn, .int .i64 q.lo, .int .i64 q.hi, .int .i64 q.seats, .slice A n c, .slice F m d, .map (some B), .slice O n co] 67 (0, 0))) ∧ Hid (Below w.heap.size w wr)) (fun _ i _ => n - (intOf i).toNat)
  case atStart => exact ⟨0, by omega, rfl, rfl, V0, VB⟩
  case round =>
    clear c4 lp V0 VB
    obtain ⟨k, hk, rfl, rfl, V0, VB⟩ := hrel
    have lp := blk_lt V0.out
    by_cases hlt : k < n
    · obtain ⟨pt, hpt⟩ : ∃ pt, q.gs[k]? = some pt := ⟨_, List.getElem?_eq_getElem (by rw [HGN.out]; exact hlt)⟩
      obtain ⟨bg, og, rfl, hbg, d0, d1, d2, d3⟩ := (HL.out.rg.below VB.out) k pt hpt
      have lbg : bg < wr.heap.size := Nat.lt_of_lt_of_le hbg VB.out.size
      have hsum := sum_take (show (q.gs.map (·.size))[k]? = some pt.size by rw [List.getElem?_map, hpt]; rfl)
      obtain ⟨b0, b1⟩ := G.people_bd HL.out.v k
      have hV := G.vParty_iff.1 (HL.out.v.gv _ (List.mem_of_getElem? hpt))
      have hz0 := hV.z0
      have hz1 := hV.z1
      obtain ⟨ss, hss⟩ : ∃ ss, ((q.gs.map (·.size)).take k).sum = ss := ⟨_, rfl⟩
      rw [hss] at hsum b0 b1 ⊢
      have HSUM := hide hsum
      have hltI : (k : Int) < (n : Int) := by omega
      clear hV hpt hss hsum
      go_upto_region 5 with fail
      refine cap_w (M := Code.wp _ _ _ _) _ (fun w2 hw2 => ?_)
      have HB2 := hide (show Below wr.heap.size wr w2 by rw [hw2]; exact zbA (zbR _ _) (Nat.le_refl _) _)
      have HT2 := hide (show w2.heap[wr.heap.size]? = some (.cells #[.int .i64 pt.id, .int .i64 pt.at_, .int .i64 pt.size, .int .i64 pt.quits] 42 (0, 0)) by rw [hw2]; exact World.alloc_heap_new _ _)
      clear hw2 d0 d1 d2 d3
      have c2 : w2.cell? ⟨wr.heap.size, 2, none⟩ = some (.int .i64 pt.size) := (blk_cell HT2.out 2).trans rfl
      have l2 := blk_lt HT2.out
      go_wp2
      go_roundw
      case rel => exact ⟨k + 1, by omega, by go_num, by rw [HSUM.out], bkT HB2.out V0, hide (VB.out.trans (HB2.out.mono VB.out.size))⟩
      case measure => simp [intOf]; omega
    · have hkn : k = n := by omega
      subst hkn
      rw [G.people_all q HGN.out]
      have hpb := G.people_bd HL.out.v k
      rw [G.people_all q HGN.out] at hpb
      obtain ⟨P, hP⟩ : ∃ P, G.people q.gs = P := ⟨_, rfl⟩
      rw [hP] at hpb ⊢
      have HP := hide hP
      obtain ⟨b0, b1⟩ := hpb
      have c3 : wr.cell? ⟨p, 3, none⟩ = some (.int .i64 q.seats) := (blk_cell V0.out 3).trans rfl
      have lp := blk_lt V0.out
      clear hP
      obtain ⟨N, hN⟩ : ∃ N : Nat, (max (P - q.seats) 0) + 1 = (N : Int) := ⟨((max (P - q.seats) 0) + 1).toNat, by omega⟩
      have HE0 := hide (show G.enoughF q g N 0 = G.enough q g by
        unfold G.enough
        rw [HP.out, hN]
        rfl)
      have hN8 : q.seats + (N : Int) ≤ 10000 := by omega
      clear lp
      by_cases hps : 0 < P - q.seats
      · have hx1 : max (P - q.seats) 0 = P - q.seats := by omega
        have hx2 : (if P - q.seats < 0 then 0 else P - q.seats) = P - q.seats := if_neg (by omega)
        go_wp2
        have HNv := hide (show P - q.seats + 1 = (N : Int) by omega)
        have HN8 := hide hN8
        clear c3 hN hN8 hx1 hx2
        go_loopw [4, 5, 31] (fun v4 v5 i wr => ∃ j : Nat, j ≤ N ∧ i = .int .i64 (j : Int) ∧ v4 = .int .i64 0 ∧ v5 = .bool false ∧ Hid (G.enoughF q g (N - j) (j : Int) = G.enough q g) ∧ Hid (wr.heap[p]? = some (.cells #[.int .i64 q.opn, .int .i64 q.lo, .int .i64 q.hi, .int .i64 q.seats, .slice A k c, .slice F m d, .map (some B), .slice O k co] 67 (0, 0))) ∧ Hid (Below w.heap.size w wr)) (fun _ _ i _ => N - (intOf i).toNat)
        case atStart => exact ⟨0, by omega, rfl, rfl, rfl, HE0, V0, VB⟩
        case round =>
          clear V0 VB HE0
          obtain ⟨j, hj, rfl, rfl, rfl, HE, V0, VB⟩ := hrel
          have lp := blk_lt V0.out
          by_cases hlt : j < N
          · have hltI : (j : Int) < P - q.seats + 1 := by have := HNv.out; omega
            have h98 : q.seats + (j : Int) ≤ 9999 := by have := HN8.out; omega
            have hv0 := V0.out
            have cp0 := (blk_cell hv0 0).trans rfl; have cp1 := (blk_cell hv0 1).trans rfl; have cp2 := (blk_cell hv0 2).trans rfl; have cp3 := (blk_cell hv0 3).trans rfl; have cp4 := (blk_cell hv0 4).trans rfl; have cp5 := (blk_cell hv0 5).trans rfl; have cp6 := (blk_cell hv0 6).trans rfl; have cp7 := (blk_cell hv0 7).trans rfl
            have HSTEP := hide (show (if G.always { q with seats := q.seats + (j : Int) } g then some (j : Int) else G.enoughF q g (N - (j + 1)) ((j : Int) + 1)) = G.enough q g by
              have h := HE.out
              rw [show N - j = (N - (j + 1)) + 1 by omega] at h
              exact h)
            clear HE hv0
            go_upto_region 11 with fail
            refine cap_w (M := Code.wp _ _ _ _) _ (fun w2 hw2 => ?_)
            have HB2 := hide (show Below wr.heap.size wr w2 by rw [hw2]; exact zbA (zbR _ _) (Nat.le_refl _) _)
            have HT2 := hide (show w2.heap[wr.heap.size]? = some (.cells #[.int .i64 q.opn, .int .i64 q.lo, .int .i64 q.hi, .int .i64 q.seats, .slice A k c, .slice F m d, .map (some B), .slice O k co] 67 (0, 0)) by rw [hw2]; exact World.alloc_heap_new _ _)
            have V2 := bkT HB2.out V0
            have VB2 := hide (VB.out.trans (HB2.out.mono VB.out.size))
            have HQ0 := hide (show w.heap.size ≤ wr.heap.size from VB.out.size)
            have HQP := hide (show p ≠ wr.heap.size by omega)
            obtain ⟨x, hx⟩ : ∃ x, wr.heap.size = x := ⟨_, rfl⟩
            rw [hx] at HT2 HQ0 HQP ⊢
            clear hw2 hx cp0 cp1 cp2 cp3 cp4 cp5 cp6 cp7 lp
            have d3 : w2.cell? ⟨x, 3, none⟩ = some (.int .i64 q.seats) := (blk_cell HT2.out 3).trans rfl
            have f3 := blk_frozen HT2.out 3
            have l3 := blk_lt HT2.out
            go_upto_region 12 with fail
            refine cap_w (M := Code.wp _ _ _ _) _ (fun w3 hw3 => ?_)
            have HT3 := hide (show w3.heap[x]? = some (.cells #[.int .i64 q.opn, .int .i64 q.lo, .int .i64 q.hi, .int .i64 (q.seats + (j : Int)), .slice A k c, .slice F m d, .map (some B), .slice O k co] 67 (0, 0)) by rw [hw3]; exact blk_set HT2.out 3 _)
            have V3 := hide (show w3.heap[p]? = some (.cells #[.int .i64 q.opn, .int .i64 q.lo, .int .i64 q.hi, .int .i64 q.seats, .slice A k c, .slice F m d, .map (some B), .slice O k co] 67 (0, 0)) by rw [hw3]; exact blk_other V2.out HQP.out 3 _)
            have VB3 := hide (show Below w.heap.size w w3 by rw [hw3]; exact zbS VB2.out HQ0.out _)
            clear hw3 d3 f3 l3 HT2 V2 VB2 HB2
            have ht3 := HT3.out
            have cp0 := (blk_cell ht3 0).trans rfl; have cp1 := (blk_cell ht3 1).trans rfl; have cp2 := (blk_cell ht3 2).trans rfl; have cp3 := (blk_cell ht3 3).trans rfl; have cp4 := (blk_cell ht3 4).trans rfl; have cp5 := (blk_cell ht3 5).trans rfl; have cp6 := (blk_cell ht3 6).trans rfl; have cp7 := (blk_cell ht3 7).trans rfl
            have lx := blk_lt ht3
            have HAL := hide (always_any { q with seats := q.seats + (j : Int) } A k c F m d B O co ord g w3 ((HL.out.below VB3.out).more (by omega)) hg)
            obtain ⟨al, hal⟩ : ∃ al, G.always { q with seats := q.seats + (j : Int) } g = al := ⟨_, rfl⟩
            rw [hal] at HSTEP HAL
            clear ht3 hal
            cases al
            · go_wp2_with (go_at_call 61; (refine HAL.out.mono ?_); rintro e w4 ⟨rfl, hb4⟩; have HB4 := hide hb4; clear hb4)
              go_roundw
              case rel => exact ⟨j + 1, by omega, by go_num, rfl, rfl, hide (by have h := HSTEP.out; rw [if_neg (by decide)] at h; exact h), bkT HB4.out V3, hide (VB3.out.trans (HB4.out.mono VB3.out.size))⟩
              case measure => simp [intOf]; omega
            · go_wp2_with (go_at_call 61; (refine HAL.out.mono ?_); rintro e w4 ⟨rfl, hb4⟩; have HB4 := hide hb4; clear hb4)
              go_ret2
              have h : G.enough q g = some (j : Int) := by rw [← HSTEP.out]; rfl
              exact ⟨by first | rfl | (rw [h]; rfl), by first | exact VB3.out.trans (HB4.out.mono VB3.out.size) | exact hp ▸ VB3.out.trans (HB4.out.mono VB3.out.size)⟩
          · have hjn : j = N := by omega
            have h : G.enough q g = none := by
              rw [← HE.out, hjn, Nat.sub_self]
              rfl
            have hge : ¬ ((j : Int) < P - q.seats + 1) := by have := HNv.out; omega
            go_wp2
            go_ret2
            exact ⟨by first | rfl | (rw [h]; rfl), by first | exact VB.out | exact hp ▸ VB.out⟩
      · have hps' : P - q.seats ≤ 0 := by omega
        have hx1 : max (P - q.seats) 0 = 0 := by omega
        have hx2 : (if P - q.seats < 0 then 0 else P - q.seats) = 0 := by split <;> omega
        clear hps
        go_wp2
        have HNv := hide (show 1 = (N : Int) by omega)
        have HN8 := hide hN8
        clear c3 hN hN8 hx1 hx2
        go_loopw [4, 5, 31] (fun v4 v5 i wr => ∃ j : Nat, j ≤ N ∧ i = .int .i64 (j : Int) ∧ v4 = .int .i64 0 ∧ v5 = .bool false ∧ Hid (G.enoughF q g (N - j) (j : Int) = G.enough q g) ∧ Hid (wr.heap[p]? = some (.cells #[.int .i64 q.opn, .int .i64 q.lo, .int .i64 q.hi, .int .i64 q.seats, .slice A k c, .slice F m d, .map (some B), .slice O k co] 67 (0, 0))) ∧ Hid (Below w.heap.size w wr)) (fun _ _ i _ => N - (intOf i).toNat)
        case atStart => exact ⟨0, by omega, rfl, rfl, rfl, HE0, V0, VB⟩
        case round =>
          clear V0 VB HE0
          obtain ⟨j, hj, rfl, rfl, rfl, HE, V0, VB⟩ := hrel
          have lp := blk_lt V0.out
          by_cases hlt : j < N
          · have hltI : (j : Int) < 1 := by have := HNv.out; omega
            have h98 : q.seats + (j : Int) ≤ 9999 := by have := HN8.out; omega
            have hv0 := V0.out
            have cp0 := (blk_cell hv0 0).trans rfl; have cp1 := (blk_cell hv0 1).trans rfl; have cp2 := (blk_cell hv0 2).trans rfl; have cp3 := (blk_cell hv0 3).trans rfl; have cp4 := (blk_cell hv0 4).trans rfl; have cp5 := (blk_cell hv0 5).trans rfl; have cp6 := (blk_cell hv0 6).trans rfl; have cp7 := (blk_cell hv0 7).trans rfl
            have HSTEP := hide (show (if G.always { q with seats := q.seats + (j : Int) } g then some (j : Int) else G.enoughF q g (N - (j + 1)) ((j : Int) + 1)) = G.enough q g by
              have h := HE.out
              rw [show N - j = (N - (j + 1)) + 1 by omega] at h
              exact h)
            clear HE hv0
            go_upto_region 11 with fail
            refine cap_w (M := Code.wp _ _ _ _) _ (fun w2 hw2 => ?_)
            have HB2 := hide (show Below wr.heap.size wr w2 by rw [hw2]; exact zbA (zbR _ _) (Nat.le_refl _) _)
            have HT2 := hide (show w2.heap[wr.heap.size]? = some (.cells #[.int .i64 q.opn, .int .i64 q.lo, .int .i64 q.hi, .int .i64 q.seats, .slice A k c, .slice F m d, .map (some B), .slice O k co] 67 (0, 0)) by rw [hw2]; exact World.alloc_heap_new _ _)
            have V2 := bkT HB2.out V0
            have VB2 := hide (VB.out.trans (HB2.out.mono VB.out.size))
            have HQ0 := hide (show w.heap.size ≤ wr.heap.size from VB.out.size)
            have HQP := hide (show p ≠ wr.heap.size by omega)
            obtain ⟨x, hx⟩ : ∃ x, wr.heap.size = x := ⟨_, rfl⟩
            rw [hx] at HT2 HQ0 HQP ⊢
            clear hw2 hx cp0 cp1 cp2 cp3 cp4 cp5 cp6 cp7 lp
            have d3 : w2.cell? ⟨x, 3, none⟩ = some (.int .i64 q.seats) := (blk_cell HT2.out 3).trans rfl
            have f3 := blk_frozen HT2.out 3
            have l3 := blk_lt HT2.out
            go_upto_region 12 with fail
            refine cap_w (M := Code.wp _ _ _ _) _ (fun w3 hw3 => ?_)
            have HT3 := hide (show w3.heap[x]? = some (.cells #[.int .i64 q.opn, .int .i64 q.lo, .int .i64 q.hi, .int .i64 (q.seats + (j : Int)), .slice A k c, .slice F m d, .map (some B), .slice O k co] 67 (0, 0)) by rw [hw3]; exact blk_set HT2.out 3 _)
            have V3 := hide (show w3.heap[p]? = some (.cells #[.int .i64 q.opn, .int .i64 q.lo, .int .i64 q.hi, .int .i64 q.seats, .slice A k c, .slice F m d, .map (some B), .slice O k co] 67 (0, 0)) by rw [hw3]; exact blk_other V2.out HQP.out 3 _)
            have VB3 := hide (show Below w.heap.size w w3 by rw [hw3]; exact zbS VB2.out HQ0.out _)
            clear hw3 d3 f3 l3 HT2 V2 VB2 HB2
            have ht3 := HT3.out
            have cp0 := (blk_cell ht3 0).trans rfl; have cp1 := (blk_cell ht3 1).trans rfl; have cp2 := (blk_cell ht3 2).trans rfl; have cp3 := (blk_cell ht3 3).trans rfl; have cp4 := (blk_cell ht3 4).trans rfl; have cp5 := (blk_cell ht3 5).trans rfl; have cp6 := (blk_cell ht3 6).trans rfl; have cp7 := (blk_cell ht3 7).trans rfl
            have lx := blk_lt ht3
            have HAL := hide (always_any { q with seats := q.seats + (j : Int) } A k c F m d B O co ord g w3 ((HL.out.below VB3.out).more (by omega)) hg)
            obtain ⟨al, hal⟩ : ∃ al, G.always { q with seats := q.seats + (j : Int) } g = al := ⟨_, rfl⟩
            rw [hal] at HSTEP HAL
            clear ht3 hal
            cases al
            · go_wp2_with (go_at_call 61; (refine HAL.out.mono ?_); rintro e w4 ⟨rfl, hb4⟩; have HB4 := hide hb4; clear hb4)
              go_roundw
              case rel => exact ⟨j + 1, by omega, by go_num, rfl, rfl, hide (by have h := HSTEP.out; rw [if_neg (by decide)] at h; exact h), bkT HB4.out V3, hide (VB3.out.trans (HB4.out.mono VB3.out.size))⟩
              case measure => simp [intOf]; omega
            · go_wp2_with (go_at_call 61; (refine HAL.out.mono ?_); rintro e w4 ⟨rfl, hb4⟩; have HB4 := hide hb4; clear hb4)
              go_ret2
              have h : G.enough q g = some (j : Int) := by rw [← HSTEP.out]; rfl
              exact ⟨by first | rfl | (rw [h]; rfl), by first | exact VB3.out.trans (HB4.out.mono VB3.out.size) | exact hp ▸ VB3.out.trans (HB4.out.mono VB3.out.size)⟩
          · have hjn : j = N := by omega
            have h : G.enough q g = none := by
              rw [← HE.out, hjn, Nat.sub_self]
              rfl
            have hge : ¬ ((j : Int) < 1) := by have := HNv.out; omega
            go_wp2
            go_ret2
            exact ⟨by first | rfl | (rw [h]; rfl), by first | exact VB.out | exact hp ▸ VB.out⟩
end Go.Proofs.Ytlpjkolocgkcpaa

namespace Go.Proofs.Ytlpjkolocgkcpaa
open Go.RowKit
attribute [local go_sem ↓] Go.wp_at_zero Go.wp_at_succ

theorem G.idxOf_lt {q : G.Qu} {id : Int} {gi : Nat} (h : G.idxOf q id = some gi) : gi < q.gs.length := by
  unfold G.idxOf at h
  rw [List.findIdx?_eq_some_iff_getElem] at h
  exact h.1
set_option maxHeartbeats 6400000 in
set_option maxRecDepth 100000 in
theorem Enough_any (q : G.Qu) (id : Int) (A : Option Addr) (n c : Nat) (F : Option Addr) (m d : Nat) (w : World) (h : QIn w q A n c F m d) (hid : (Lit.int .i64 id).wf = true) :
    Calls Try.prog 24 #[.agg #[.int .i64 q.opn, .int .i64 q.lo, .int .i64 q.hi, .int .i64 q.seats, .slice A n c, .slice F m d], .int .i64 id] w fun e w' => e = .returned (.tuple #[.int .i64 (G.enoughV q id), .int .i64 (G.enoughE q id)]) ∧ Below w.heap.size w w' := by
  have HI := hide h
  have HID := hide hid
  clear h hid
  cases hv : G.valid q
  · have HV := hide hv
    have hE : G.enoughE q id = 110 := by unfold G.enoughE; rw [hv]; rfl
    have hVV : G.enoughV q id = 0 := by unfold G.enoughV; rw [hv]; rfl
    rw [hE, hVV]
    clear hv hE hVV
    go_enter Try.func24, Try.ntmps24
    go_wp2_with (go_at_call 43; (with_reducible refine (openFor_any q id A n c F m d _ (HI.out.below (show Below w.heap.size w (w.alloc (.cells #[.int .i64 q.opn, .int .i64 q.lo, .int .i64 q.hi, .int .i64 q.seats, .slice A n c, .slice F m d] 27)) from zbA (zbR _ _) (Nat.le_refl _) _)) HID.out).mono ?_); rintro e w2 ⟨hb2, hno, _⟩; obtain rfl := hno HV.out; clear hno; have HB2 := hide (zbT (show Below w.heap.size w (w.alloc (.cells #[.int .i64 q.opn, .int .i64 q.lo, .int .i64 q.hi, .int .i64 q.seats, .slice A n c, .slice F m d] 27)) from zbA (zbR _ _) (Nat.le_refl _) _) hb2 (by simp)); clear hb2)
    go_ret2
    exact ⟨rfl, zbA HB2.out HB2.out.size _⟩
  · have HV := hide hv
    cases hx : G.idxOf q id with
    | none =>
      have HX := hide hx
      have hE : G.enoughE q id = 1 := by unfold G.enoughE; rw [hv, if_pos rfl, hx]
      have hVV : G.enoughV q id = 0 := by unfold G.enoughV; rw [hv, if_pos rfl, hx]
      rw [hE, hVV]
      clear hv hE hVV hx
      go_enter Try.func24, Try.ntmps24
      go_wp2_with (go_at_call 43; (with_reducible refine (openFor_any q id A n c F m d _ (HI.out.below (show Below w.heap.size w (w.alloc (.cells #[.int .i64 q.opn, .int .i64 q.lo, .int .i64 q.hi, .int .i64 q.seats, .slice A n c, .slice F m d] 27)) from zbA (zbR _ _) (Nat.le_refl _) _)) HID.out).mono ?_); rintro e w2 ⟨hb2, _, hyes⟩; obtain rfl := (hyes HV.out).1 HX.out; clear hyes; have HB2 := hide (zbT (show Below w.heap.size w (w.alloc (.cells #[.int .i64 q.opn, .int .i64 q.lo, .int .i64 q.hi, .int .i64 q.seats, .slice A n c, .slice F m d] 27)) from zbA (zbR _ _) (Nat.le_refl _) _) hb2 (by simp)); clear hb2)
      go_ret2
      exact ⟨rfl, zbA HB2.out HB2.out.size _⟩
    | some gi =>
      have HX := hide hx
      have HGI := hide (show gi < n by rw [← HI.out.gl]; exact G.idxOf_lt hx)
      cases he : G.enough q gi with
      | none =>
        have HEN := hide he
        have hE : G.enoughE q id = 3 := by unfold G.enoughE; rw [hv, if_pos rfl, hx]; dsimp only; rw [he]; rfl
        have hVV : G.enoughV q id = 0 := by unfold G.enoughV; rw [hv, if_pos rfl, hx]; dsimp only; rw [he]; rfl
        rw [hE, hVV]
        clear hv hE hVV hx he
        go_enter Try.func24, Try.ntmps24
        go_wp2_with (first | (go_at_call 43; (with_reducible refine (openFor_any q id A n c F m d _ (HI.out.below (show Below w.heap.size w (w.alloc (.cells #[.int .i64 q.opn, .int .i64 q.lo, .int .i64 q.hi, .int .i64 q.seats, .slice A n c, .slice F m d] 27)) from zbA (zbR _ _) (Nat.le_refl _) _)) HID.out).mono ?_); rintro e w2 ⟨hb2, _, hyes⟩; obtain ⟨F2, d2, fs2, g, O, co, ord, rfl, hpf, hL⟩ := (hyes HV.out).2 _ HX.out; have HPF := hide hpf; have HL := hide hL; clear hyes hpf hL; have HB2 := hide (zbT (show Below w.heap.size w (w.alloc (.cells #[.int .i64 q.opn, .int .i64 q.lo, .int .i64 q.hi, .int .i64 q.seats, .slice A n c, .slice F m d] 27)) from zbA (zbR _ _) (Nat.le_refl _) _) hb2 (by simp)); clear hb2) | (go_at_call 48; (with_reducible refine (enough_any { q with fs := fs2 } A n c F2 m d2 g O co ord gi _ (HL.out.below (zbA (zbR _ _) (Nat.le_refl _) _)) HGI.out).mono ?_); rintro e w5 ⟨rfl, hb5⟩; rw [G.enough_fs HPF.out, HEN.out]; have HB5 := hide (zbT (zbA HB2.out HB2.out.size _) hb5 (Nat.le_trans HB2.out.size (by simp))); clear hb5))
        go_ret2
        exact ⟨rfl, HB5.out⟩
      | some s =>
        have HEN := hide he
        have hE : G.enoughE q id = 0 := by unfold G.enoughE; rw [hv, if_pos rfl, hx]; dsimp only; rw [he]; rfl
        have hVV : G.enoughV q id = s := by unfold G.enoughV; rw [hv, if_pos rfl, hx]; dsimp only; rw [he]; rfl
        rw [hE, hVV]
        clear hv hE hVV hx he
        go_enter Try.func24, Try.ntmps24
        go_wp2_with (first | (go_at_call 43; (with_reducible refine (openFor_any q id A n c F m d _ (HI.out.below (show Below w.heap.size w (w.alloc (.cells #[.int .i64 q.opn, .int .i64 q.lo, .int .i64 q.hi, .int .i64 q.seats, .slice A n c, .slice F m d] 27)) from zbA (zbR _ _) (Nat.le_refl _) _)) HID.out).mono ?_); rintro e w2 ⟨hb2, _, hyes⟩; obtain ⟨F2, d2, fs2, g, O, co, ord, rfl, hpf, hL⟩ := (hyes HV.out).2 _ HX.out; have HPF := hide hpf; have HL := hide hL; clear hyes hpf hL; have HB2 := hide (zbT (show Below w.heap.size w (w.alloc (.cells #[.int .i64 q.opn, .int .i64 q.lo, .int .i64 q.hi, .int .i64 q.seats, .slice A n c, .slice F m d] 27)) from zbA (zbR _ _) (Nat.le_refl _) _) hb2 (by simp)); clear hb2) | (go_at_call 48; (with_reducible refine (enough_any { q with fs := fs2 } A n c F2 m d2 g O co ord gi _ (HL.out.below (zbA (zbR _ _) (Nat.le_refl _) _)) HGI.out).mono ?_); rintro e w5 ⟨rfl, hb5⟩; rw [G.enough_fs HPF.out, HEN.out]; have HB5 := hide (zbT (zbA HB2.out HB2.out.size _) hb5 (Nat.le_trans HB2.out.size (by simp))); clear hb5))
        go_ret2
        exact ⟨rfl, HB5.out⟩
end Go.Proofs.Ytlpjkolocgkcpaa

namespace Go.Proofs.Ytlpjkolocgkcpaa
open Go.RowKit
attribute [local go_sem ↓] Go.wp_at_zero Go.wp_at_succ

set_option maxHeartbeats 6400000 in
set_option maxRecDepth 100000 in
theorem Sure_any (q : G.Qu) (id : Int) (A : Option Addr) (n c : Nat) (F : Option Addr) (m d : Nat) (w : World) (h : QIn w q A n c F m d) (hid : (Lit.int .i64 id).wf = true) :
    Calls Try.prog 22 #[.agg #[.int .i64 q.opn, .int .i64 q.lo, .int .i64 q.hi, .int .i64 q.seats, .slice A n c, .slice F m d], .int .i64 id] w fun e w' => e = .returned (.tuple #[.agg #[.int .i64 (G.sureV q id).1, .int .i64 (G.sureV q id).2], .int .i64 (G.sureE q id)]) ∧ Below w.heap.size w w' := by
  have HI := hide h
  have HID := hide hid
  clear h hid
  obtain ⟨er, her⟩ : ∃ x, G.sureE q id = x := ⟨_, rfl⟩
  obtain ⟨va, hva⟩ : ∃ x, (G.sureV q id).1 = x := ⟨_, rfl⟩
  obtain ⟨vb, hvb⟩ : ∃ x, (G.sureV q id).2 = x := ⟨_, rfl⟩
  rw [her, hva, hvb]
  have HER := hide her
  have HVA := hide hva
  have HVB := hide hvb
  clear her hva hvb
  go_enter Try.func22, Try.ntmps22
  go_upto_region 1 with fail
  refine cap_w (M := Code.wp _ _ _ _) _ (fun w1 hw1 => ?_)
  have HB1 := hide (show Below w.heap.size w w1 by rw [hw1]; (repeat' first | exact zbR _ _ | assumption | refine zbD ?_ | refine zbA ?_ ?_ _ | refine zbS ?_ ?_ _ | refine zbT ?_ (by assumption) ?_ | (simp; done) | (simp; omega) | omega))
  have HQ := hide (show w1.heap[w.heap.size]? = some (.cells #[.int .i64 q.opn, .int .i64 q.lo, .int .i64 q.hi, .int .i64 q.seats, .slice A n c, .slice F m d] 27 (0, 0)) by
    rw [hw1]; exact (Below.heap_alloc _ _ _ (by simp)).trans (World.alloc_heap_new _ _))
  have HZ := hide (show w1.heap[w.heap.size + 1]? = some (.cells #[.int .i64 0, .int .i64 0] 23 (0, 0)) by
    rw [hw1]; exact alloc_new_at (by simp))
  clear hw1
  obtain ⟨b1, hb1⟩ : ∃ x, w.heap.size + 1 = x := ⟨_, rfl⟩
  rw [hb1] at HZ ⊢
  obtain ⟨b0, hb0⟩ : ∃ x, w.heap.size = x := ⟨_, rfl⟩
  have HBB := hide (show w.heap.size ≤ b1 by omega)
  rw [hb0] at HQ ⊢
  clear hb1 hb0
  have HI1 := hide (HI.out.below HB1.out)
  have q0 : w1.cell? ⟨b0, 0, none⟩ = some (.int .i64 q.opn) := (blk_cell HQ.out 0).trans rfl
  have q1 : w1.cell? ⟨b0, 1, none⟩ = some (.int .i64 q.lo) := (blk_cell HQ.out 1).trans rfl
  have q2 : w1.cell? ⟨b0, 2, none⟩ = some (.int .i64 q.hi) := (blk_cell HQ.out 2).trans rfl
  have q3 : w1.cell? ⟨b0, 3, none⟩ = some (.int .i64 q.seats) := (blk_cell HQ.out 3).trans rfl
  have q4 : w1.cell? ⟨b0, 4, none⟩ = some (.slice A n c) := (blk_cell HQ.out 4).trans rfl
  have q5 : w1.cell? ⟨b0, 5, none⟩ = some (.slice F m d) := (blk_cell HQ.out 5).trans rfl
  have lq := blk_lt HQ.out
  cases hv : G.valid q
  · have HV := hide hv
    have hE : G.sureE q id = 110 := by unfold G.sureE; rw [hv]; rfl
    have hVV : G.sureV q id = (0, 0) := by unfold G.sureV; rw [if_neg (by rw [hE]; decide)]
    have e0 := HER.out
    rw [hE] at e0
    have e1 := HVA.out
    rw [hVV] at e1
    have e2 := HVB.out
    rw [hVV] at e2
    dsimp only at e1 e2
    subst e0 e1 e2
    clear HER HVA HVB
    clear hv hE hVV
    go_upto_region 2 with (go_at_call 43; (with_reducible refine (openFor_any q id A n c F m d _ HI1.out HID.out).mono ?_); rintro e w2 ⟨hb2, hno, _⟩; obtain rfl := hno HV.out; clear hno; have HB2 := hide (zbT HB1.out hb2 HB1.out.size); have HZ2 := bkT hb2 HZ; clear hb2 q0 q1 q2 q3 q4 q5 lq)
    refine cap_w (M := Code.wp _ _ _ _) _ (fun w3 hw3 => ?_)
    have HB3 := hide (show Below w.heap.size w w3 by rw [hw3]; exact zbA HB2.out HB2.out.size _)
    have HZ3 := hide (show w3.heap[b1]? = some (.cells #[.int .i64 0, .int .i64 0] 23 (0, 0)) by rw [hw3]; exact (Below.heap_alloc _ _ _ (blk_lt HZ2.out)).trans HZ2.out)
    clear hw3
    go_wp2_with (refine wpList_store_row rfl 23 _ _ rfl b1 _ rfl rfl 23 _ HZ3.out spRow rfl (by simp [Value.oneCell']) ?_)
    refine cap_w (M := bodyPost _ _ _ _ _) _ (fun W9 hW9 => ?_)
    have HR9 := hide (show W9.heap[b1]? = some (.cells #[.int .i64 0, .int .i64 0] 23 (0, 0)) by rw [hW9]; exact setRow_heap _ _ _ _ _ _ HZ3.out)
    have HB9 := hide (show Below w.heap.size w W9 by rw [hW9]; exact below_row HB3.out HBB.out _)
    clear hW9
    have s0 : W9.cell? ⟨b1, 0, none⟩ = some (.int .i64 0) := (blk_cell HR9.out 0).trans rfl
    have s1 : W9.cell? ⟨b1, 1, none⟩ = some (.int .i64 0) := (blk_cell HR9.out 1).trans rfl
    exact bodyPost_ret (v := .tuple #[.agg #[.int .i64 0, .int .i64 0], .int .i64 110]) (by simp [results, Try.results22, go_sem, s0, s1]) rfl ⟨rfl, HB9.out⟩
  · have HV := hide hv
    cases hx : G.idxOf q id with
    | none =>
      have HX := hide hx
      have hE : G.sureE q id = 1 := by unfold G.sureE; rw [hv, if_pos rfl, hx]
      have hVV : G.sureV q id = (0, 0) := by unfold G.sureV; rw [if_neg (by rw [hE]; decide)]
      have e0 := HER.out
      rw [hE] at e0
      have e1 := HVA.out
      rw [hVV] at e1
      have e2 := HVB.out
      rw [hVV] at e2
      dsimp only at e1 e2
      subst e0 e1 e2
      clear HER HVA HVB
      clear hv hE hVV hx
      go_upto_region 2 with (go_at_call 43; (with_reducible refine (openFor_any q id A n c F m d _ HI1.out HID.out).mono ?_); rintro e w2 ⟨hb2, _, hyes⟩; obtain rfl := (hyes HV.out).1 HX.out; clear hyes; have HB2 := hide (zbT HB1.out hb2 HB1.out.size); have HZ2 := bkT hb2 HZ; clear hb2 q0 q1 q2 q3 q4 q5 lq)
      refine cap_w (M := Code.wp _ _ _ _) _ (fun w3 hw3 => ?_)
      have HB3 := hide (show Below w.heap.size w w3 by rw [hw3]; exact zbA HB2.out HB2.out.size _)
      have HZ3 := hide (show w3.heap[b1]? = some (.cells #[.int .i64 0, .int .i64 0] 23 (0, 0)) by rw [hw3]; exact (Below.heap_alloc _ _ _ (blk_lt HZ2.out)).trans HZ2.out)
      clear hw3
      go_wp2_with (refine wpList_store_row rfl 23 _ _ rfl b1 _ rfl rfl 23 _ HZ3.out spRow rfl (by simp [Value.oneCell']) ?_)
      refine cap_w (M := bodyPost _ _ _ _ _) _ (fun W9 hW9 => ?_)
      have HR9 := hide (show W9.heap[b1]? = some (.cells #[.int .i64 0, .int .i64 0] 23 (0, 0)) by rw [hW9]; exact setRow_heap _ _ _ _ _ _ HZ3.out)
      have HB9 := hide (show Below w.heap.size w W9 by rw [hW9]; exact below_row HB3.out HBB.out _)
      clear hW9
      have s0 : W9.cell? ⟨b1, 0, none⟩ = some (.int .i64 0) := (blk_cell HR9.out 0).trans rfl
      have s1 : W9.cell? ⟨b1, 1, none⟩ = some (.int .i64 0) := (blk_cell HR9.out 1).trans rfl
      exact bodyPost_ret (v := .tuple #[.agg #[.int .i64 0, .int .i64 0], .int .i64 1]) (by simp [results, Try.results22, go_sem, s0, s1]) rfl ⟨rfl, HB9.out⟩
    | some gi =>
      have HX := hide hx
      have HGI := hide (show gi < n by rw [← HI.out.gl]; exact G.idxOf_lt hx)
      have hval := G.valid_iff.1 hv
      have hrl := G.rates_len hval.lh
      have hul : (G.minutesOf q gi).length = (G.rates q).length := by unfold G.minutesOf; rw [List.length_map]
      have HU0 := hide (show 1 ≤ (G.minutesOf q gi).length by rw [hul]; have := hval.lh; omega)
      have HU1 := hide (show (G.minutesOf q gi).length ≤ 1000000 by rw [hul]; have := hval.h1; have := hval.l0; omega)
      clear hval hrl hul
      cases hc : (G.minutesOf q gi).contains (-1)
      · have HCN := hide hc
        have hE : G.sureE q id = 0 := by unfold G.sureE; rw [hv, if_pos rfl, hx]; dsimp only; rw [hc]; rfl
        have hVV : G.sureV q id = (G.minL (G.minutesOf q gi), G.maxL (G.minutesOf q gi)) := by unfold G.sureV; rw [if_pos hE, hx]
        have e0 := HER.out
        rw [hE] at e0
        have e1 := HVA.out
        rw [hVV] at e1
        have e2 := HVB.out
        rw [hVV] at e2
        dsimp only at e1 e2
        subst e0 e1 e2
        clear HER HVA HVB
        clear hv hE hVV hx hc
        go_upto_region 2 with (go_at_call 43; (with_reducible refine (openFor_any q id A n c F m d _ HI1.out HID.out).mono ?_); rintro e w2 ⟨hb2, _, hyes⟩; obtain ⟨F2, d2, fs2, g, O, co, ord, rfl, hpf, hL⟩ := (hyes HV.out).2 _ HX.out; have HPF := hide hpf; have HL := hide hL; clear hyes hpf hL; have HB2 := hide (zbT HB1.out hb2 HB1.out.size); have HZ2 := bkT hb2 HZ; clear hb2 q0 q1 q2 q3 q4 q5 lq)
        refine cap_w (M := Code.wp _ _ _ _) _ (fun w3 hw3 => ?_)
        have HB3 := hide (show Below w.heap.size w w3 by rw [hw3]; exact zbA HB2.out HB2.out.size _)
        have HZ3 := hide (show w3.heap[b1]? = some (.cells #[.int .i64 0, .int .i64 0] 23 (0, 0)) by rw [hw3]; exact (Below.heap_alloc _ _ _ (blk_lt HZ2.out)).trans HZ2.out)
        have HX3 := hide (show w3.heap[w2.heap.size]? = some (.cells #[.int .i64 q.opn, .int .i64 q.lo, .int .i64 q.hi, .int .i64 q.seats, .slice A n c, .slice F2 m d2, .map (some g), .slice O n co] 67 (0, 0)) by rw [hw3]; exact World.alloc_heap_new _ _)
        have HL3 := hide (HL.out.below (show Below w2.heap.size w2 w3 by rw [hw3]; exact zbA (zbR _ _) (Nat.le_refl _) _))
        have hx3 := HX3.out
        have x0 : w3.cell? ⟨w2.heap.size, 0, none⟩ = some (.int .i64 q.opn) := (blk_cell hx3 0).trans rfl
        have x1 : w3.cell? ⟨w2.heap.size, 1, none⟩ = some (.int .i64 q.lo) := (blk_cell hx3 1).trans rfl
        have x2 : w3.cell? ⟨w2.heap.size, 2, none⟩ = some (.int .i64 q.hi) := (blk_cell hx3 2).trans rfl
        have x3 : w3.cell? ⟨w2.heap.size, 3, none⟩ = some (.int .i64 q.seats) := (blk_cell hx3 3).trans rfl
        have x4 : w3.cell? ⟨w2.heap.size, 4, none⟩ = some (.slice A n c) := (blk_cell hx3 4).trans rfl
        have x5 : w3.cell? ⟨w2.heap.size, 5, none⟩ = some (.slice F2 m d2) := (blk_cell hx3 5).trans rfl
        have x6 : w3.cell? ⟨w2.heap.size, 6, none⟩ = some (.map (some g)) := (blk_cell hx3 6).trans rfl
        have x7 : w3.cell? ⟨w2.heap.size, 7, none⟩ = some (.slice O n co) := (blk_cell hx3 7).trans rfl
        have lx := blk_lt HX3.out
        clear hw3 hx3
        go_wp2_with (first | (go_at_call 44; (with_reducible refine (minutesOf_any { q with fs := fs2 } A n c F2 m d2 g O co ord gi _ HL3.out HGI.out).mono ?_); rintro e w5 ⟨A5, c5, rfl, ho5, hb5⟩; rw [G.minutesOf_fs HPF.out] at ho5 ⊢; have HO5 := hide ho5; have HZ5 := bkT hb5 HZ3; have HB5 := hide (zbT HB3.out hb5 HB3.out.size); clear ho5 hb5) | (go_at_call 45; (with_reducible refine (contains_any A5 _ c5 (G.minutesOf q gi) (-1) _ rfl (owns_RdI HO5.out rfl) HU1.out).mono ?_); rintro e w6 ⟨rfl, rfl⟩; rw [HCN.out]) | (go_at_call 41; (with_reducible refine (spanOf_any A5 _ c5 (G.minutesOf q gi) _ rfl (owns_RdI HO5.out rfl) HU1.out HU0.out).mono ?_); rintro e w6 ⟨rfl, hb6⟩; have HZ6 := bkT hb6 HZ5; have HB6 := hide (zbT HB5.out hb6 HB5.out.size); clear hb6) | (refine wpList_store_row rfl 23 _ _ rfl b1 _ rfl rfl 23 _ HZ6.out spRow rfl (by simp [Value.oneCell']) ?_))
        refine cap_w (M := bodyPost _ _ _ _ _) _ (fun W9 hW9 => ?_)
        have HR9 := hide (show W9.heap[b1]? = some (.cells #[.int .i64 (G.minL (G.minutesOf q gi)), .int .i64 (G.maxL (G.minutesOf q gi))] 23 (0, 0)) by rw [hW9]; exact setRow_heap _ _ _ _ _ _ HZ6.out)
        have HB9 := hide (show Below w.heap.size w W9 by rw [hW9]; exact below_row HB6.out HBB.out _)
        clear hW9
        have s0 : W9.cell? ⟨b1, 0, none⟩ = some (.int .i64 (G.minL (G.minutesOf q gi))) := (blk_cell HR9.out 0).trans rfl
        have s1 : W9.cell? ⟨b1, 1, none⟩ = some (.int .i64 (G.maxL (G.minutesOf q gi))) := (blk_cell HR9.out 1).trans rfl
        exact bodyPost_ret (v := .tuple #[.agg #[.int .i64 (G.minL (G.minutesOf q gi)), .int .i64 (G.maxL (G.minutesOf q gi))], .int .i64 0]) (by simp [results, Try.results22, go_sem, s0, s1]) rfl ⟨rfl, HB9.out⟩
      · have HCN := hide hc
        have hE : G.sureE q id = 3 := by unfold G.sureE; rw [hv, if_pos rfl, hx]; dsimp only; rw [hc]; rfl
        have hVV : G.sureV q id = (0, 0) := by unfold G.sureV; rw [if_neg (by rw [hE]; decide)]
        have e0 := HER.out
        rw [hE] at e0
        have e1 := HVA.out
        rw [hVV] at e1
        have e2 := HVB.out
        rw [hVV] at e2
        dsimp only at e1 e2
        subst e0 e1 e2
        clear HER HVA HVB
        clear hv hE hVV hx hc
        go_upto_region 2 with (go_at_call 43; (with_reducible refine (openFor_any q id A n c F m d _ HI1.out HID.out).mono ?_); rintro e w2 ⟨hb2, _, hyes⟩; obtain ⟨F2, d2, fs2, g, O, co, ord, rfl, hpf, hL⟩ := (hyes HV.out).2 _ HX.out; have HPF := hide hpf; have HL := hide hL; clear hyes hpf hL; have HB2 := hide (zbT HB1.out hb2 HB1.out.size); have HZ2 := bkT hb2 HZ; clear hb2 q0 q1 q2 q3 q4 q5 lq)
        refine cap_w (M := Code.wp _ _ _ _) _ (fun w3 hw3 => ?_)
        have HB3 := hide (show Below w.heap.size w w3 by rw [hw3]; exact zbA HB2.out HB2.out.size _)
        have HZ3 := hide (show w3.heap[b1]? = some (.cells #[.int .i64 0, .int .i64 0] 23 (0, 0)) by rw [hw3]; exact (Below.heap_alloc _ _ _ (blk_lt HZ2.out)).trans HZ2.out)
        have HX3 := hide (show w3.heap[w2.heap.size]? = some (.cells #[.int .i64 q.opn, .int .i64 q.lo, .int .i64 q.hi, .int .i64 q.seats, .slice A n c, .slice F2 m d2, .map (some g), .slice O n co] 67 (0, 0)) by rw [hw3]; exact World.alloc_heap_new _ _)
        have HL3 := hide (HL.out.below (show Below w2.heap.size w2 w3 by rw [hw3]; exact zbA (zbR _ _) (Nat.le_refl _) _))
        have hx3 := HX3.out
        have x0 : w3.cell? ⟨w2.heap.size, 0, none⟩ = some (.int .i64 q.opn) := (blk_cell hx3 0).trans rfl
        have x1 : w3.cell? ⟨w2.heap.size, 1, none⟩ = some (.int .i64 q.lo) := (blk_cell hx3 1).trans rfl
        have x2 : w3.cell? ⟨w2.heap.size, 2, none⟩ = some (.int .i64 q.hi) := (blk_cell hx3 2).trans rfl
        have x3 : w3.cell? ⟨w2.heap.size, 3, none⟩ = some (.int .i64 q.seats) := (blk_cell hx3 3).trans rfl
        have x4 : w3.cell? ⟨w2.heap.size, 4, none⟩ = some (.slice A n c) := (blk_cell hx3 4).trans rfl
        have x5 : w3.cell? ⟨w2.heap.size, 5, none⟩ = some (.slice F2 m d2) := (blk_cell hx3 5).trans rfl
        have x6 : w3.cell? ⟨w2.heap.size, 6, none⟩ = some (.map (some g)) := (blk_cell hx3 6).trans rfl
        have x7 : w3.cell? ⟨w2.heap.size, 7, none⟩ = some (.slice O n co) := (blk_cell hx3 7).trans rfl
        have lx := blk_lt HX3.out
        clear hw3 hx3
        go_wp2_with (first | (go_at_call 44; (with_reducible refine (minutesOf_any { q with fs := fs2 } A n c F2 m d2 g O co ord gi _ HL3.out HGI.out).mono ?_); rintro e w5 ⟨A5, c5, rfl, ho5, hb5⟩; rw [G.minutesOf_fs HPF.out] at ho5 ⊢; have HO5 := hide ho5; have HZ5 := bkT hb5 HZ3; have HB5 := hide (zbT HB3.out hb5 HB3.out.size); clear ho5 hb5) | (go_at_call 45; (with_reducible refine (contains_any A5 _ c5 (G.minutesOf q gi) (-1) _ rfl (owns_RdI HO5.out rfl) HU1.out).mono ?_); rintro e w6 ⟨rfl, rfl⟩; rw [HCN.out]) | (refine wpList_store_row rfl 23 _ _ rfl b1 _ rfl rfl 23 _ HZ5.out spRow rfl (by simp [Value.oneCell']) ?_))
        refine cap_w (M := bodyPost _ _ _ _ _) _ (fun W9 hW9 => ?_)
        have HR9 := hide (show W9.heap[b1]? = some (.cells #[.int .i64 0, .int .i64 0] 23 (0, 0)) by rw [hW9]; exact setRow_heap _ _ _ _ _ _ HZ5.out)
        have HB9 := hide (show Below w.heap.size w W9 by rw [hW9]; exact below_row HB5.out HBB.out _)
        clear hW9
        have s0 : W9.cell? ⟨b1, 0, none⟩ = some (.int .i64 0) := (blk_cell HR9.out 0).trans rfl
        have s1 : W9.cell? ⟨b1, 1, none⟩ = some (.int .i64 0) := (blk_cell HR9.out 1).trans rfl
        exact bodyPost_ret (v := .tuple #[.agg #[.int .i64 0, .int .i64 0], .int .i64 3]) (by simp [results, Try.results22, go_sem, s0, s1]) rfl ⟨rfl, HB9.out⟩
end Go.Proofs.Ytlpjkolocgkcpaa

namespace Go.Proofs.Ytlpjkolocgkcpaa
open Go.RowKit
attribute [local go_sem ↓] Go.wp_at_zero Go.wp_at_succ

theorem quRow : (Try.prog.info? 27).map (·.size) = some 6 := by kernel_rfl
theorem tmRow : (Try.prog.info? 48).map (·.size) = some 3 := by kernel_rfl
structure ExAt (w : World) (g f p t : Nat) : Prop where
  g : w.heap[g]? = some (.cells #[.int .i64 1, .int .i64 0, .int .i64 2, .int .i64 (-1), .int .i64 2, .int .i64 3, .int .i64 4, .int .i64 12, .int .i64 3, .int .i64 3, .int .i64 2, .int .i64 (-1), .int .i64 4, .int .i64 11, .int .i64 1, .int .i64 (-1)] 42 (0, 0))
  f : w.heap[f]? = some (.cells #[.int .i64 13, .int .i64 3] 54 (0, 0))
  p : w.heap[p]? = some (.cells #[.int .i64 30, .int .i64 90, .int .i64 200] 3 (0, 0))
  t : w.heap[t]? = some (.cells #[.int .i64 1, .int .i64 1001, .int .i64 0, .int .i64 0, .int .i64 2, .int .i64 1001, .int .i64 1, .int .i64 0, .int .i64 3, .int .i64 1001, .int .i64 1, .int .i64 600, .int .i64 4, .int .i64 1001, .int .i64 2, .int .i64 0] 61 (0, 0))
def ExPost (w : World) (e : Ending) (w' : World) : Prop := ∃ g f p t : Nat, e = .returned (.tuple #[.agg #[.int .i64 10, .int .i64 2, .int .i64 3, .int .i64 5, .slice (some ⟨g, 0, none⟩) 4 4, .slice (some ⟨f, 0, none⟩) 1 1], .agg #[.int .i64 60, .int .i64 120, .slice (some ⟨p, 0, none⟩) 3 3], .slice (some ⟨t, 0, none⟩) 4 4]) ∧ ExAt w' g f p t ∧ Below w.heap.size w w'

set_option maxHeartbeats 6400000 in
set_option maxRecDepth 100000 in
theorem Example_any (w : World) : Calls Try.prog 35 #[] w (ExPost w) := by
  go_enter Try.func35, Try.ntmps35
  go_upto_region 2 with fail
  refine cap_w (M := Code.wp _ _ _ _) _ (fun w1 hw1 => ?_)
  have HB1 := hide (show Below w.heap.size w w1 by rw [hw1]; (repeat' first | exact zbR _ _ | assumption | refine zbD ?_ | refine zbA ?_ ?_ _ | refine zbS ?_ ?_ _ | refine zbT ?_ (by assumption) ?_ | (simp; done) | (simp; omega) | omega))
  have H0 := hide (show w1.heap[w.heap.size]? = some (.cells #[.int .i64 0, .int .i64 0, .int .i64 0, .int .i64 0, .slice none 0 0, .slice none 0 0] 27 (0, 0)) by
    rw [hw1]; exact (Below.heap_alloc _ _ _ (by simp <;> omega)).trans ((Below.heap_alloc _ _ _ (by simp <;> omega)).trans ((Below.heap_alloc _ _ _ (by simp <;> omega)).trans ((Below.heap_alloc _ _ _ (by simp)).trans (World.alloc_heap_new _ _)))))
  have H1 := hide (show w1.heap[w.heap.size + 1]? = some (.cells #[.int .i64 0, .int .i64 0, .slice none 0 0] 48 (0, 0)) by
    rw [hw1]; exact (Below.heap_alloc _ _ _ (by simp <;> omega)).trans ((Below.heap_alloc _ _ _ (by simp <;> omega)).trans ((Below.heap_alloc _ _ _ (by simp)).trans (alloc_new_at (by simp)))))
  have H2 := hide (show w1.heap[w.heap.size + 1 + 1]? = some (.cells #[.int .i64 1, .int .i64 0, .int .i64 2, .int .i64 (-1), .int .i64 2, .int .i64 3, .int .i64 4, .int .i64 12, .int .i64 3, .int .i64 3, .int .i64 2, .int .i64 (-1), .int .i64 4, .int .i64 11, .int .i64 1, .int .i64 (-1)] 42 (0, 0)) by
    rw [hw1]; exact (Below.heap_alloc _ _ _ (by simp <;> omega)).trans ((Below.heap_alloc _ _ _ (by simp)).trans (alloc_new_at (by simp))))
  have H3 := hide (show w1.heap[w.heap.size + 1 + 1 + 1]? = some (.cells #[.int .i64 13, .int .i64 3] 54 (0, 0)) by
    rw [hw1]; exact (Below.heap_alloc _ _ _ (by simp)).trans (alloc_new_at (by simp)))
  have H4 := hide (show w1.heap[w.heap.size + 1 + 1 + 1 + 1]? = some (.cells #[.int .i64 10, .int .i64 2, .int .i64 3, .int .i64 5, .slice (some ⟨w.heap.size + 1 + 1, 0, none⟩) 4 4, .slice (some ⟨w.heap.size + 1 + 1 + 1, 0, none⟩) 1 1] 27 (0, 0)) by
    rw [hw1]; exact alloc_new_at (by simp))
  clear hw1
  obtain ⟨b0, hb0⟩ : ∃ x, w.heap.size = x := ⟨_, rfl⟩
  have HE0 := hide hb0
  rw [hb0] at H0 H1 H2 H3 H4 ⊢
  clear hb0
  obtain ⟨b1, hb1⟩ : ∃ x, b0 + 1 = x := ⟨_, rfl⟩
  rw [hb1] at H1 H2 H3 H4 ⊢
  obtain ⟨g, hg⟩ : ∃ x, b1 + 1 = x := ⟨_, rfl⟩
  rw [hg] at H2 H3 H4 ⊢
  obtain ⟨f, hf⟩ : ∃ x, g + 1 = x := ⟨_, rfl⟩
  rw [hf] at H3 H4 ⊢
  obtain ⟨b4, hb4⟩ : ∃ x, f + 1 = x := ⟨_, rfl⟩
  rw [hb4] at H4 ⊢
  have HE := hide (show b0 < b1 ∧ b1 < g ∧ g < f ∧ f < b4 by omega)
  clear hb1 hg hf hb4
  have q0 : w1.cell? ⟨b4, 0, none⟩ = some (.int .i64 10) := (blk_cell H4.out 0).trans rfl
  have q1 : w1.cell? ⟨b4, 1, none⟩ = some (.int .i64 2) := (blk_cell H4.out 1).trans rfl
  have q2 : w1.cell? ⟨b4, 2, none⟩ = some (.int .i64 3) := (blk_cell H4.out 2).trans rfl
  have q3 : w1.cell? ⟨b4, 3, none⟩ = some (.int .i64 5) := (blk_cell H4.out 3).trans rfl
  have q4 : w1.cell? ⟨b4, 4, none⟩ = some (.slice (some ⟨g, 0, none⟩) 4 4) := (blk_cell H4.out 4).trans rfl
  have q5 : w1.cell? ⟨b4, 5, none⟩ = some (.slice (some ⟨f, 0, none⟩) 1 1) := (blk_cell H4.out 5).trans rfl
  have lq := blk_lt H4.out
  go_wp2_with (first | (have HX0 := H0; refine cap_w (M := wpList _ _ _ _ _) _ (fun w2 hw2 => ?_); have HP := hide (show w2.heap[w1.heap.size]? = some (.cells #[.int .i64 30, .int .i64 90, .int .i64 200] 3 (0, 0)) by rw [hw2]; exact (Below.heap_alloc _ _ _ (by simp)).trans (World.alloc_heap_new _ _)); have HT := hide (show w2.heap[w1.heap.size + 1]? = some (.cells #[.int .i64 1, .int .i64 1001, .int .i64 0, .int .i64 0, .int .i64 2, .int .i64 1001, .int .i64 1, .int .i64 0, .int .i64 3, .int .i64 1001, .int .i64 1, .int .i64 600, .int .i64 4, .int .i64 1001, .int .i64 2, .int .i64 0] 61 (0, 0)) by rw [hw2]; exact alloc_new_at (by simp)); have HB2 := hide (show Below w1.heap.size w1 w2 by rw [hw2]; (repeat' first | exact zbR _ _ | assumption | refine zbD ?_ | refine zbA ?_ ?_ _ | refine zbS ?_ ?_ _ | refine zbT ?_ (by assumption) ?_ | (simp; done) | (simp; omega) | omega)); clear hw2 q0 q1 q2 q3 q4 q5 lq; obtain ⟨z1, hz1⟩ : ∃ x, w1.heap.size = x := ⟨_, rfl⟩; have HZ1 := hide hz1; rw [hz1] at HP HT ⊢; clear hz1; obtain ⟨z2, hz2⟩ : ∃ x, z1 + 1 = x := ⟨_, rfl⟩; have HZ2 := hide hz2; rw [hz2] at HT ⊢; clear hz2; refine wpList_store_row rfl 27 _ _ rfl b0 _ rfl rfl 27 _ (bkT HB2.out H0).out quRow rfl (by simp [Value.oneCell']) ?_; refine cap_w (M := wpList _ _ _ _ _) _ (fun w3 hw3 => ?_); have HR0 := hide (show w3.heap[b0]? = some (.cells #[.int .i64 10, .int .i64 2, .int .i64 3, .int .i64 5, .slice (some ⟨g, 0, none⟩) 4 4, .slice (some ⟨f, 0, none⟩) 1 1] 27 (0, 0)) by rw [hw3]; exact setRow_heap _ _ _ _ _ _ (bkT HB2.out H0).out); have HG3 := hide (show w2.grownBy w3 (some b0) by rw [hw3]; exact setRow_grown _ _ _); have H13 := bkG HG3.out (by have := HE.out; simp; omega) (bkT HB2.out H1); clear hw3 H0) | (refine wpList_store_row rfl 48 _ _ rfl b1 _ rfl rfl 48 _ H13.out tmRow rfl (by simp [Value.oneCell']) ?_))
  refine cap_w (M := bodyPost _ _ _ _ _) _ (fun W9 hW9 => ?_)
  have HR1 := hide (show W9.heap[b1]? = some (.cells #[.int .i64 60, .int .i64 120, .slice (some ⟨z1, 0, none⟩) 3 3] 48 (0, 0)) by rw [hW9]; exact setRow_heap _ _ _ _ _ _ H13.out)
  have HG9 := hide (show w3.grownBy W9 (some b1) by rw [hW9]; exact setRow_grown _ _ _)
  clear hW9
  have HR09 := bkG HG9.out (by have := HE.out; simp; omega) HR0
  have hz := blk_lt H4.out
  have HZZ := hide (show b4 < z1 ∧ z1 < z2 by have := HZ1.out; have := HZ2.out; omega)
  have to9 : ∀ (k : Nat) (ob : Obj), k ≠ b0 → k ≠ b1 → w2.heap[k]? = some ob → W9.heap[k]? = some ob := fun k ob h1 h2 h =>
    (bkG HG9.out (by simpa using h2) (bkG HG3.out (by simpa using h1) (hide h))).out
  have s0 : W9.cell? ⟨b0, 0, none⟩ = some (.int .i64 10) := (blk_cell HR09.out 0).trans rfl
  have s1 : W9.cell? ⟨b0, 1, none⟩ = some (.int .i64 2) := (blk_cell HR09.out 1).trans rfl
  have s2 : W9.cell? ⟨b0, 2, none⟩ = some (.int .i64 3) := (blk_cell HR09.out 2).trans rfl
  have s3 : W9.cell? ⟨b0, 3, none⟩ = some (.int .i64 5) := (blk_cell HR09.out 3).trans rfl
  have s4 : W9.cell? ⟨b0, 4, none⟩ = some (.slice (some ⟨g, 0, none⟩) 4 4) := (blk_cell HR09.out 4).trans rfl
  have s5 : W9.cell? ⟨b0, 5, none⟩ = some (.slice (some ⟨f, 0, none⟩) 1 1) := (blk_cell HR09.out 5).trans rfl
  have x0 : W9.cell? ⟨b1, 0, none⟩ = some (.int .i64 60) := (blk_cell HR1.out 0).trans rfl
  have x1 : W9.cell? ⟨b1, 1, none⟩ = some (.int .i64 120) := (blk_cell HR1.out 1).trans rfl
  have x2 : W9.cell? ⟨b1, 2, none⟩ = some (.slice (some ⟨z1, 0, none⟩) 3 3) := (blk_cell HR1.out 2).trans rfl
  have HB := hide (show Below w.heap.size w W9 from ((zbT HB1.out HB2.out HB1.out.size).trans (grown_below HG3.out (Nat.le_trans HB1.out.size HB2.out.size) (fun y hy => by have h5 := Option.some.inj hy; have := HE0.out; omega))).trans (grown_below HG9.out (Nat.le_trans (Nat.le_trans HB1.out.size HB2.out.size) HG3.out.size) (fun y hy => by have h5 := Option.some.inj hy; have := HE0.out; have := HE.out; omega)))
  have he := HE.out
  have hzz := HZZ.out
  refine bodyPost_ret (v := .tuple #[.agg #[.int .i64 10, .int .i64 2, .int .i64 3, .int .i64 5, .slice (some ⟨g, 0, none⟩) 4 4, .slice (some ⟨f, 0, none⟩) 1 1], .agg #[.int .i64 60, .int .i64 120, .slice (some ⟨z1, 0, none⟩) 3 3], .slice (some ⟨z2, 0, none⟩) 4 4]) (by simp [results, Try.results35, go_sem, s0, s1, s2, s3, s4, s5, x0, x1, x2]) rfl ⟨g, f, z1, z2, rfl, ⟨?_, ?_, ?_, ?_⟩, HB.out⟩
  · exact to9 _ _ (by omega) (by omega) (bkT HB2.out H2).out
  · exact to9 _ _ (by omega) (by omega) (bkT HB2.out H3).out
  · exact to9 _ _ (by omega) (by omega) HP.out
  · exact to9 _ _ (by omega) (by omega) HT.out
end Go.Proofs.Ytlpjkolocgkcpaa

namespace Go.Proofs.Ytlpjkolocgkcpaa
open Go.RowKit
attribute [local go_sem ↓] Go.wp_at_zero Go.wp_at_succ

set_option maxHeartbeats 3200000 in
set_option maxRecDepth 100000 in
theorem sameInts_eq (A1 A2 : Option Addr) (n c1 c2 : Nat) (xs : List Int) (w : World) (hn : xs.length = n) (hr1 : RdI w w.heap.size A1 xs) (hr2 : RdI w w.heap.size A2 xs) (hm : n ≤ 1000000) :
    Calls Try.prog 21 #[.slice A1 n c1, .slice A2 n c2] w fun e w' => e = .returned (.bool true) ∧ Below w.heap.size w w' := by
  have HN := hide hn
  have HR1 := hide hr1
  have HR2 := hide hr2
  clear hn hr1 hr2
  go_enter Try.func21, Try.ntmps21
  go_wp2_with fail
  go_loopw [5] (fun i wr => ∃ k : Nat, k ≤ n ∧ i = .int .i64 k ∧ Below w.heap.size w wr) (fun i _ => n - (intOf i).toNat)
  case atStart => exact ⟨0, by omega, rfl, by (repeat' first | exact zbR _ _ | assumption | refine zbD ?_ | refine zbA ?_ ?_ _ | refine zbS ?_ ?_ _ | refine zbT ?_ (by assumption) ?_ | (simp; done) | (simp; omega) | omega)⟩
  case round =>
    obtain ⟨k, hk, rfl, hB⟩ := hrel
    by_cases hlt : k < n
    · obtain ⟨p, hp'⟩ : ∃ q, xs[k]? = some q := ⟨_, List.getElem?_eq_getElem (by have := HN.out; omega)⟩
      obtain ⟨b, o, hA, hbB, c0⟩ := (HR1.out.below hB) k p hp'
      obtain ⟨b2, o2, hA2, hbB2, d0⟩ := (HR2.out.below hB) k p hp'
      subst hA hA2
      clear hp'
      have hlt' : (k : Int) < (n : Int) := by omega
      have hk0 : (0 : Int) ≤ (k : Int) := by omega
      go_wp2_with fail
      go_quiet (fail)
      go_wp2_with fail
      go_roundw
      case rel => exact ⟨k + 1, by omega, by go_num, below_drewN hB _⟩
      case measure => simp [intOf]; omega
    · have hkn : k = n := by omega
      subst hkn
      go_wp2_with fail
      go_ret
      exact ⟨rfl, hB⟩


theorem ExAt.qin {w : World} {g f p t : Nat} (h : ExAt w g f p t) : QIn w G.exQ (some ⟨g, 0, none⟩) 4 4 (some ⟨f, 0, none⟩) 1 1 := by
  have c : ∀ i, w.cell? ⟨g, i, none⟩ = _ := fun i => blk_cell h.g i
  have d : ∀ i, w.cell? ⟨f, i, none⟩ = _ := fun i => blk_cell h.f i
  refine ⟨rfl, rfl, by omega, by omega, fun k q hk => ?_, fun k q hk => ?_, fun b o e => ?_, fun e => (by cases e), fun q hq => ?_⟩
  · refine ⟨g, 0, rfl, blk_lt h.g, ?_⟩
    match k, hk with
    | 0, hk => cases hk; exact ⟨c 0, c 1, c 2, c 3⟩
    | 1, hk => cases hk; exact ⟨c 4, c 5, c 6, c 7⟩
    | 2, hk => cases hk; exact ⟨c 8, c 9, c 10, c 11⟩
    | 3, hk => cases hk; exact ⟨c 12, c 13, c 14, c 15⟩
    | k + 4, hk => cases hk
  · refine ⟨f, 0, rfl, blk_lt h.f, ?_⟩
    match k, hk with
    | 0, hk => cases hk; exact ⟨d 0, d 1⟩
    | k + 1, hk => cases hk
  · have : g = b := by simpa using congrArg (fun x => x.map (·.block)) e
    rw [← this]
    exact blk_lt h.g
  · simp only [G.exQ, List.mem_cons, List.not_mem_nil, or_false] at hq
    rcases hq with rfl | rfl | rfl | rfl <;> rfl
theorem ExAt.played {w : World} {g f p t : Nat} (h : ExAt w g f p t) : RdI w w.heap.size (some ⟨p, 0, none⟩) G.exX.played := by
  have c : ∀ i, w.cell? ⟨p, i, none⟩ = _ := fun i => blk_cell h.p i
  intro k x hk
  refine ⟨p, 0, rfl, blk_lt h.p, ?_⟩
  match k, hk with
  | 0, hk => cases hk; exact c 0
  | 1, hk => cases hk; exact c 1
  | 2, hk => cases hk; exact c 2
  | k + 3, hk => cases hk
theorem ExAt.tickets {w : World} {g f p t : Nat} (h : ExAt w g f p t) : RdT w w.heap.size (some ⟨t, 0, none⟩) G.exL := by
  have c : ∀ i, w.cell? ⟨t, i, none⟩ = _ := fun i => blk_cell h.t i
  intro k x hk
  refine ⟨t, 0, rfl, blk_lt h.t, ?_⟩
  match k, hk with
  | 0, hk => cases hk; exact ⟨c 0, c 1, c 2, c 3⟩
  | 1, hk => cases hk; exact ⟨c 4, c 5, c 6, c 7⟩
  | 2, hk => cases hk; exact ⟨c 8, c 9, c 10, c 11⟩
  | 3, hk => cases hk; exact ⟨c 12, c 13, c 14, c 15⟩
  | k + 4, hk => cases hk
theorem ExAt.below {w w' : World} {g f p t : Nat} (h : ExAt w g f p t) (hb : Below w.heap.size w w') : ExAt w' g f p t :=
  ⟨(bkT hb h.g).out, (bkT hb h.f).out, (bkT hb h.p).out, (bkT hb h.t).out⟩
end Go.Proofs.Ytlpjkolocgkcpaa

namespace Go.Proofs.Ytlpjkolocgkcpaa
open Go.RowKit
attribute [local go_sem ↓] Go.wp_at_zero Go.wp_at_succ

theorem ex_Enter {g f p t : Nat} (W : World) (h : ExAt W g f p t) : Calls Try.prog 17 #[.agg #[.int .i64 10, .int .i64 2, .int .i64 3, .int .i64 5, .slice (some ⟨g, 0, none⟩) 4 4, .slice (some ⟨f, 0, none⟩) 1 1], .int .i64 2] W fun e w' => ∃ (A : Option Addr) (c : Nat), e = .returned (.tuple #[.slice A 4 c, .int .i64 0]) ∧ RdI w' w'.heap.size A [10, -1, 12, 13] ∧ Below W.heap.size W w' :=
  (Enter_any G.exQ (some ⟨g, 0, none⟩) 4 4 (some ⟨f, 0, none⟩) 1 1 2 W h.qin).mono fun e w' h => by
    rw [G.ex_enter.1, G.ex_enter.2] at h
    obtain ⟨A, c, rfl, ho, hb⟩ := h
    exact ⟨A, c, rfl, owns_RdI ho rfl, hb⟩
theorem ex_Sure {g f p t : Nat} (W : World) (h : ExAt W g f p t) : Calls Try.prog 22 #[.agg #[.int .i64 10, .int .i64 2, .int .i64 3, .int .i64 5, .slice (some ⟨g, 0, none⟩) 4 4, .slice (some ⟨f, 0, none⟩) 1 1], .int .i64 4] W fun e w' => e = .returned (.tuple #[.agg #[.int .i64 12, .int .i64 13], .int .i64 0]) ∧ Below W.heap.size W w' :=
  (Sure_any G.exQ 4 (some ⟨g, 0, none⟩) 4 4 (some ⟨f, 0, none⟩) 1 1 W h.qin rfl).mono fun e w' h => by
    rw [G.ex_sure.1, G.ex_sure.2] at h
    exact h
theorem ex_Enough {g f p t : Nat} (W : World) (h : ExAt W g f p t) : Calls Try.prog 24 #[.agg #[.int .i64 10, .int .i64 2, .int .i64 3, .int .i64 5, .slice (some ⟨g, 0, none⟩) 4 4, .slice (some ⟨f, 0, none⟩) 1 1], .int .i64 2] W fun e w' => e = .returned (.tuple #[.int .i64 1, .int .i64 0]) ∧ Below W.heap.size W w' :=
  (Enough_any G.exQ 2 (some ⟨g, 0, none⟩) 4 4 (some ⟨f, 0, none⟩) 1 1 W h.qin rfl).mono fun e w' h => by
    rw [G.ex_enough.1, G.ex_enough.2] at h
    exact h
theorem ex_Total {g f p t : Nat} (W : World) (h : ExAt W g f p t) : Calls Try.prog 28 #[.agg #[.int .i64 60, .int .i64 120, .slice (some ⟨p, 0, none⟩) 3 3], .slice (some ⟨t, 0, none⟩) 4 4] W fun e w' => e = .returned (.tuple #[.int .i64 1501, .int .i64 0]) ∧ Below W.heap.size W w' :=
  (Total_any G.exX (some ⟨p, 0, none⟩) 3 3 (some ⟨t, 0, none⟩) 4 4 G.exL W rfl h.played (by omega) rfl h.tickets (fun q hq => by
    simp only [G.exL, List.mem_cons, List.not_mem_nil, or_false] at hq
    rcases hq with rfl | rfl | rfl | rfl <;> rfl) (by omega)).mono fun e w' h => by
    rw [G.ex_total.1, G.ex_total.2] at h
    exact h

theorem rdI_four {w : World} {q : Nat} {x y u v : Int} (hq : w.heap[q]? = some (.cells #[.int .i64 x, .int .i64 y, .int .i64 u, .int .i64 v] 3 (0, 0))) : RdI w w.heap.size (some ⟨q, 0, none⟩) [x, y, u, v] := by
  have c : ∀ i, w.cell? ⟨q, i, none⟩ = _ := fun i => blk_cell hq i
  intro k z hk
  refine ⟨q, 0, rfl, blk_lt hq, ?_⟩
  match k, hk with
  | 0, hk => cases hk; exact c 0
  | 1, hk => cases hk; exact c 1
  | 2, hk => cases hk; exact c 2
  | 3, hk => cases hk; exact c 3
  | k + 4, hk => cases hk

set_option maxHeartbeats 6400000 in
set_option maxRecDepth 100000 in
theorem works_any (w : World) : Calls Try.prog 13 #[] w fun e w' => e = .returned (.bool true) ∧ Below w.heap.size w w' := by
  go_enter Try.func13, Try.ntmps13
  go_upto_region 2 with (go_at_call 35; (with_reducible refine (Example_any _).mono ?_); rintro e w1 ⟨g, f, p, t, rfl, hx, hb⟩; have HX := hide hx; have HB1 := hide hb; clear hx hb)
  refine cap_w (M := Code.wp _ _ _ _) _ (fun w2 hw2 => ?_)
  have HB2 := hide (show Below w.heap.size w w2 by rw [hw2]; exact zbA (zbA HB1.out HB1.out.size _) (Nat.le_trans HB1.out.size (by simp)) _)
  have HX2 := hide (show ExAt w2 g f p t by rw [hw2]; exact HX.out.below (zbA (zbA (zbR _ _) (Nat.le_refl _) _) (by simp) _))
  have HQ2 := hide (show w2.heap[w1.heap.size]? = some (.cells #[.int .i64 10, .int .i64 2, .int .i64 3, .int .i64 5, .slice (some ⟨g, 0, none⟩) 4 4, .slice (some ⟨f, 0, none⟩) 1 1] 27 (0, 0)) by rw [hw2]; exact (Below.heap_alloc _ _ _ (by simp)).trans (World.alloc_heap_new _ _))
  have HT2 := hide (show w2.heap[w1.heap.size + 1]? = some (.cells #[.int .i64 60, .int .i64 120, .slice (some ⟨p, 0, none⟩) 3 3] 48 (0, 0)) by rw [hw2]; exact alloc_new_at (by simp))
  clear hw2
  obtain ⟨bq, hbq⟩ : ∃ x, w1.heap.size = x := ⟨_, rfl⟩
  rw [hbq] at HQ2 HT2 ⊢
  clear hbq
  obtain ⟨bx, hbx⟩ : ∃ x, bq + 1 = x := ⟨_, rfl⟩
  rw [hbx] at HT2 ⊢
  clear hbx
  have q0 : w2.cell? ⟨bq, 0, none⟩ = some (.int .i64 10) := (blk_cell HQ2.out 0).trans rfl
  have q1 : w2.cell? ⟨bq, 1, none⟩ = some (.int .i64 2) := (blk_cell HQ2.out 1).trans rfl
  have q2 : w2.cell? ⟨bq, 2, none⟩ = some (.int .i64 3) := (blk_cell HQ2.out 2).trans rfl
  have q3 : w2.cell? ⟨bq, 3, none⟩ = some (.int .i64 5) := (blk_cell HQ2.out 3).trans rfl
  have q4 : w2.cell? ⟨bq, 4, none⟩ = some (.slice (some ⟨g, 0, none⟩) 4 4) := (blk_cell HQ2.out 4).trans rfl
  have q5 : w2.cell? ⟨bq, 5, none⟩ = some (.slice (some ⟨f, 0, none⟩) 1 1) := (blk_cell HQ2.out 5).trans rfl
  have lq := blk_lt HQ2.out
  go_upto_region 3 with (go_at_call 17; (with_reducible refine (ex_Enter _ HX2.out).mono ?_); rintro e w3 ⟨A3, c3, rfl, hr3, hb3⟩; have HR3 := hide hr3; have HX3 := hide (HX2.out.below hb3); have HQ3 := bkT hb3 HQ2; have HT3 := bkT hb3 HT2; have HB3 := hide (zbT HB2.out hb3 HB2.out.size); clear hr3 hb3 q0 q1 q2 q3 q4 q5 lq)
  have q0 : w3.cell? ⟨bq, 0, none⟩ = some (.int .i64 10) := (blk_cell HQ3.out 0).trans rfl
  have q1 : w3.cell? ⟨bq, 1, none⟩ = some (.int .i64 2) := (blk_cell HQ3.out 1).trans rfl
  have q2 : w3.cell? ⟨bq, 2, none⟩ = some (.int .i64 3) := (blk_cell HQ3.out 2).trans rfl
  have q3 : w3.cell? ⟨bq, 3, none⟩ = some (.int .i64 5) := (blk_cell HQ3.out 3).trans rfl
  have q4 : w3.cell? ⟨bq, 4, none⟩ = some (.slice (some ⟨g, 0, none⟩) 4 4) := (blk_cell HQ3.out 4).trans rfl
  have q5 : w3.cell? ⟨bq, 5, none⟩ = some (.slice (some ⟨f, 0, none⟩) 1 1) := (blk_cell HQ3.out 5).trans rfl
  have lq := blk_lt HQ3.out
  go_upto_region 4 with (go_at_call 22; (with_reducible refine (ex_Sure _ HX3.out).mono ?_); rintro e w4 ⟨rfl, hb4⟩; have HR4 := hide ((HR3.out.below hb4).mono hb4.size); have HX4 := hide (HX3.out.below hb4); have HQ4 := bkT hb4 HQ3; have HT4 := bkT hb4 HT3; have HB4 := hide (zbT HB3.out hb4 HB3.out.size); clear hb4 q0 q1 q2 q3 q4 q5 lq)
  refine cap_w (M := Code.wp _ _ _ _) _ (fun w5 hw5 => ?_)
  have hb5 : Below w4.heap.size w4 w5 := by rw [hw5]; exact zbA (zbR _ _) (Nat.le_refl _) _
  have HS5 := hide (show w5.heap[w4.heap.size]? = some (.cells #[.int .i64 12, .int .i64 13] 23 (0, 0)) by rw [hw5]; exact World.alloc_heap_new _ _)
  have HR5 := hide ((HR4.out.below hb5).mono hb5.size)
  have HX5 := hide (HX4.out.below hb5)
  have HQ5 := bkT hb5 HQ4
  have HT5 := bkT hb5 HT4
  have HB5 := hide (zbT HB4.out hb5 HB4.out.size)
  clear hw5 hb5
  obtain ⟨bs, hbs⟩ : ∃ x, w4.heap.size = x := ⟨_, rfl⟩
  rw [hbs] at HS5 ⊢
  clear hbs
  have q0 : w5.cell? ⟨bq, 0, none⟩ = some (.int .i64 10) := (blk_cell HQ5.out 0).trans rfl
  have q1 : w5.cell? ⟨bq, 1, none⟩ = some (.int .i64 2) := (blk_cell HQ5.out 1).trans rfl
  have q2 : w5.cell? ⟨bq, 2, none⟩ = some (.int .i64 3) := (blk_cell HQ5.out 2).trans rfl
  have q3 : w5.cell? ⟨bq, 3, none⟩ = some (.int .i64 5) := (blk_cell HQ5.out 3).trans rfl
  have q4 : w5.cell? ⟨bq, 4, none⟩ = some (.slice (some ⟨g, 0, none⟩) 4 4) := (blk_cell HQ5.out 4).trans rfl
  have q5 : w5.cell? ⟨bq, 5, none⟩ = some (.slice (some ⟨f, 0, none⟩) 1 1) := (blk_cell HQ5.out 5).trans rfl
  have lq := blk_lt HQ5.out
  go_upto_region 5 with (go_at_call 24; (with_reducible refine (ex_Enough _ HX5.out).mono ?_); rintro e w6 ⟨rfl, hb6⟩; have HR6 := hide ((HR5.out.below hb6).mono hb6.size); have HX6 := hide (HX5.out.below hb6); have HT6 := bkT hb6 HT5; have HS6 := bkT hb6 HS5; have HB6 := hide (zbT HB5.out hb6 HB5.out.size); clear hb6 q0 q1 q2 q3 q4 q5 lq)
  have x0 : w6.cell? ⟨bx, 0, none⟩ = some (.int .i64 60) := (blk_cell HT6.out 0).trans rfl
  have x1 : w6.cell? ⟨bx, 1, none⟩ = some (.int .i64 120) := (blk_cell HT6.out 1).trans rfl
  have x2 : w6.cell? ⟨bx, 2, none⟩ = some (.slice (some ⟨p, 0, none⟩) 3 3) := (blk_cell HT6.out 2).trans rfl
  have lx := blk_lt HT6.out
  go_upto_region 6 with (go_at_call 28; (with_reducible refine (ex_Total _ HX6.out).mono ?_); rintro e w7 ⟨rfl, hb7⟩; have HR7 := hide ((HR6.out.below hb7).mono hb7.size); have HS7 := bkT hb7 HS6; have HB7 := hide (zbT HB6.out hb7 HB6.out.size); clear hb7 x0 x1 x2 lx)
  have s0 : w7.cell? ⟨bs, 0, none⟩ = some (.int .i64 12) := (blk_cell HS7.out 0).trans rfl
  have s1 : w7.cell? ⟨bs, 1, none⟩ = some (.int .i64 13) := (blk_cell HS7.out 1).trans rfl
  have ls := blk_lt HS7.out
  go_wp2_with (go_at_call 21; (with_reducible refine (sameInts_eq A3 _ 4 c3 4 [10, -1, 12, 13] _ rfl ((HR7.out.below (zbA (zbR _ _) (Nat.le_refl _) _)).mono (by simp)) (rdI_four (World.alloc_heap_new _ _)) (by omega)).mono ?_); rintro e w8 ⟨rfl, hb8⟩; have HB8 := hide (zbT (zbA HB7.out HB7.out.size _) hb8 (Nat.le_trans HB7.out.size (by simp))); have HS8 := hide ((hb8.block bs (by simp; omega)).trans ((Below.heap_alloc _ _ _ ls).trans HS7.out)); clear hb8 s0 s1 ls; have s0 : w8.cell? ⟨bs, 0, none⟩ = some (.int .i64 12) := (blk_cell HS8.out 0).trans rfl; have s1 : w8.cell? ⟨bs, 1, none⟩ = some (.int .i64 13) := (blk_cell HS8.out 1).trans rfl; have ls := blk_lt HS8.out)
  go_ret
  exact ⟨rfl, HB8.out⟩
end Go.Proofs.Ytlpjkolocgkcpaa
