/-
  Part of a claim's texts: contracts of the program's functions and the plain functions that they compute, in build order.
-/
import Derived.Deep.Cut
import Derived.Deep.CutRange
import Derived.Test.YtdhaalonnmajkaaZB03
import Derived.Test.YtdhaalonnmajkaaZB06
namespace Go.Proofs.Ytdhaalonnmajkaa
open Go.RowKit Go.Sort
attribute [local go_sem ↓] Go.wp_at_zero Go.wp_at_succ

theorem ordF_step (ps : List E.Rp) (p : E.Rp) : ordF (ps ++ [p]) = if p.counts = true then E.rins p (ordF ps) else ordF ps := by
  unfold ordF
  rw [List.filter_append, List.foldl_append]
  by_cases h : p.counts = true
  · rw [if_pos h, List.filter_cons_of_pos h]; rfl
  · rw [if_neg h, List.filter_cons_of_neg h]; rfl
theorem blk_lt' {w : World} {k : Nat} {ob : Obj} (h : w.heap[k]? = some ob) : k < w.heap.size := (Array.getElem?_eq_some_iff.1 h).1
theorem gr_drewA (u : World) (O : Obj) : u.grownBy (u.alloc O).drew none := ⟨(World.grownBy_alloc u O none).os, (World.grownBy_alloc u O none).tape, (World.grownBy_alloc u O none).output, (World.grownBy_alloc u O none).size, (World.grownBy_alloc u O none).block⟩
theorem capA {K : Act → World → Prop} {a : Act} {u : World} {O : Obj} (h : ∀ W : World, W.heap[u.heap.size]? = some O → (∀ (B : Nat) (w0 : World), Below B w0 u → B ≤ u.heap.size → Below B w0 W) → (∀ (k : Nat) (ob : Obj), u.heap[k]? = some ob → W.heap[k]? = some ob) → u.grownBy W none → K a W) : K a (u.alloc O) :=
  h _ (World.alloc_heap_new u O) (fun _ _ hb hB => zbA hb hB O) (fun k ob hk => (Below.heap_alloc _ _ _ (blk_lt' hk)).trans hk) (World.grownBy_alloc _ _ none)
theorem capAD {K : Act → World → Prop} {a : Act} {u : World} {O : Obj} (h : ∀ W : World, W.heap[u.heap.size]? = some O → (∀ (B : Nat) (w0 : World), Below B w0 u → B ≤ u.heap.size → Below B w0 W) → (∀ (k : Nat) (ob : Obj), u.heap[k]? = some ob → W.heap[k]? = some ob) → u.grownBy W none → K a W) : K a (u.alloc O).drew :=
  h _ (World.alloc_heap_new u O) (fun _ _ hb hB => zbD (zbA hb hB O)) (fun k ob hk => (Below.heap_alloc _ _ _ (blk_lt' hk)).trans hk) (gr_drewA u O)
theorem below_own {w0 u W : World} {e : TypeId} {s n : Nat} {v : Value} {xs : List Value} (h : Below w0.heap.size w0 u) (hown : u.ownsRow w0.heap.size e s v n xs) (hg : u.grownBy W v.ownBlock) : Below w0.heap.size w0 W :=
  h.trans (grown_below hg h.size (fun g hgb => by
    rcases hown.2 with ⟨rfl, _⟩ | ⟨g', cap, cur, rfl, hb, _⟩
    · cases hgb
    · cases hgb; exact hb))
theorem own_cap {w : World} {base : Nat} {e : TypeId} {s n c : Nat} {A : Option Addr} {xs : List Value} (hown : w.ownsRow base e s (.slice A n c) n xs) : n ≤ c := by
  rcases hown.2 with ⟨h, hn⟩ | ⟨g', cap, cur, h, hb, hc, h1, _⟩
  · omega
  · cases h; exact h1
theorem sl_hi {w : World} {base m c a : Nat} {A : Option Addr} {outs : List E.Rp} (hown : w.ownsRow base 99 7 (.slice A m c) m (flatP outs)) (hl : outs.length = m) (ha : a ≤ m) : RdP w w.heap.size (if c = a then A else Option.map (fun x => x.add (a * 7)) A) (outs.drop a) := by
  have h := owns_RdP hown hl
  have hmc := own_cap hown
  by_cases hca : c = a
  · rw [List.drop_eq_nil_of_le (by omega)]
    exact RdP.nil _ _ _
  · rw [if_neg hca]
    rcases hown.2 with ⟨e, hn⟩ | ⟨g, cap, cur, e, _⟩
    · rw [List.drop_eq_nil_of_le (by omega)]
      exact RdP.nil _ _ _
    · cases e
      show RdP w w.heap.size (some ((⟨g, 0, Option.none⟩ : Addr).add (a * 7))) _
      rw [add_plain]
      exact h.drop a
theorem sl_hi_nil {w : World} {base m c a : Nat} {A : Option Addr} {outs : List E.Rp} (hown : w.ownsRow base 99 7 (.slice A m c) m (flatP outs)) : (if c = a then A else Option.map (fun x => x.add (a * 7)) A) = Option.none → c - a = 0 := by
  have h := own_nil hown
  by_cases hca : c = a
  · intro _; omega
  · rw [if_neg hca]
    intro e
    cases A with
    | none => have := h rfl; omega
    | some x => cases e
set_option maxHeartbeats 6400000 in
set_option maxRecDepth 100000 in
theorem order_ref (An : Option Addr) (nn cn : Nat) (ps : List E.Rp) (A2 : Option Addr) (n2 c2 : Nat) (bk : Int) (A3 : Option Addr) (n3 c3 : Nat) (w : World) (hn : ps.length = nn) (hr : RdP w w.heap.size An ps) (hm : nn ≤ 400) :
    Calls Try.prog 49 #[.agg #[.slice An nn cn, .slice A2 n2 c2, .int .i64 bk, .slice A3 n3 c3]] w fun e w' => ∃ A m c, e = .returned (.slice A m c) ∧ (ordF ps).length = m ∧ w'.ownsRow w.heap.size 99 7 (.slice A m c) m (flatP (ordF ps)) ∧ Below w.heap.size w w' := by
  have HN := hide hn
  have HR := hide hr
  have HM := hide hm
  clear hn hr hm
  go_enter Try.func49, Try.ntmps49
  go_upto_region 1 with fail
  obtain ⟨w0, hw0⟩ : ∃ q, w.alloc (.cells #[.slice An nn cn, .slice A2 n2 c2, .int .i64 bk, .slice A3 n3 c3] 78) = q := ⟨_, rfl⟩
  have HB0 := hide (show Below w.heap.size w w0 by rw [← hw0]; (repeat' first | exact zbR _ _ | assumption | refine zbD ?_ | refine zbA ?_ ?_ _ | refine zbS ?_ ?_ _ | refine zbT ?_ (by assumption) ?_ | (simp; done) | (simp; omega) | omega))
  have HF0 := hide (show w0.heap[w.heap.size]? = some (.cells #[.slice An nn cn, .slice A2 n2 c2, .int .i64 bk, .slice A3 n3 c3] 78 (0, 0)) by rw [← hw0]; exact World.alloc_heap_new _ _)
  have HZ0 := hide (show w.heap.size < w0.heap.size by rw [← hw0]; simp)
  rw [hw0]
  clear hw0
  go_wp2_with fail
  go_loopw [3, 4] (fun bf i wr => ∃ (i' : Nat) (A : Option Addr) (m c : Nat) (outs : List E.Rp), i' ≤ nn ∧ bf = .slice A m c ∧ i = .int .i64 i' ∧ Hid (outs.length = m) ∧ Hid (outs = ordF (ps.take i')) ∧ Hid (wr.ownsRow w.heap.size 99 7 (.slice A m c) m (flatP outs)) ∧ Hid (wr.heap[w.heap.size]? = some (.cells #[.slice An nn cn, .slice A2 n2 c2, .int .i64 bk, .slice A3 n3 c3] 78 (0, 0))) ∧ Hid (Below w.heap.size w wr)) (fun _ i _ => nn - (intOf i).toNat)
  case atStart => exact ⟨0, none, 0, 0, [], by omega, rfl, rfl, hide rfl, hide rfl, hide (ownsP_nil _ _), HF0, HB0⟩
  case round =>
    obtain ⟨i, A, m, c, outs, hi, rfl, rfl, HOL, HOE, HO1, HF1, HB1⟩ := hrel
    have hmm := HM.out
    have hol : m ≤ i := by have h1 := ordF_length (ps.take i); rw [← HOE.out, HOL.out, List.length_take] at h1; omega
    have y1 : wr.cell? ⟨w.heap.size, 0, none⟩ = some (.slice An nn cn) := (blk_cell HF1.out 0).trans rfl
    have ly1 := blk_lt HF1.out
    by_cases hin : i < nn
    · obtain ⟨p, hp⟩ : ∃ q, ps[i]? = some q := ⟨_, List.getElem?_eq_getElem (by have := HN.out; omega)⟩
      have HPK := hide hp
      have HTK := hide (show ps.take (i + 1) = ps.take i ++ [p] by rw [List.take_add_one, hp]; rfl)
      obtain ⟨bp, op, hAp, hbp, d0, d1, d2, d3, d4, d5, d6⟩ := (HR.out.below HB1.out) i p hp
      subst hAp
      clear hp
      have hi1 : (i : Int) < (nn : Int) := by omega
      have hi0 : (0 : Int) ≤ (i : Int) := by omega
      obtain ⟨cp, hcp⟩ : ∃ q, p.counts = q := ⟨_, rfl⟩
      have HCP := hide hcp
      clear hcp
      go_upto_region 6 with fail
      obtain ⟨w1, hw1⟩ : ∃ q, wr.alloc (.cells #[.int .i64 p.player, .int .i64 p.rank, .bool p.grd, .bool p.ent, .bool p.quit, .bool p.sgn, .bool p.card] 99) = q := ⟨_, rfl⟩
      have HB2 := hide (show Below w.heap.size w w1 by rw [← hw1]; exact zbA HB1.out HB1.out.size _)
      have HP2 := hide (show w1.heap[wr.heap.size]? = some (.cells (pc p).toArray 99 (0, 0)) by rw [← hw1]; exact World.alloc_heap_new _ _)
      have HF2 := hide (show w1.heap[w.heap.size]? = some (.cells #[.slice (some ⟨bp, op, none⟩) nn cn, .slice A2 n2 c2, .int .i64 bk, .slice A3 n3 c3] 78 (0, 0)) by rw [← hw1]; exact (Below.heap_alloc _ _ _ (blk_lt HF1.out)).trans HF1.out)
      have HO2 := hide (show w1.ownsRow w.heap.size 99 7 (.slice A m c) m (flatP outs) by rw [← hw1]; exact HO1.out.kept (World.grownBy_alloc _ _ none) (Classical.em _))
      have HPL := hide (show w.heap.size ≤ wr.heap.size from HB1.out.size)
      rw [hw1]
      obtain ⟨pb, hpb⟩ : ∃ q, wr.heap.size = q := ⟨_, rfl⟩
      rw [hpb] at HP2 HPL ⊢
      have HPF := hide (show pb ≠ w.heap.size by have := blk_lt HF1.out; omega)
      clear hw1 hpb d0 d1 d2 d3 d4 d5 d6 y1 ly1
      have p20 : w1.cell? ⟨pb, 0, none⟩ = some (.int .i64 p.player) := (blk_cell HP2.out 0).trans rfl
      have p21 : w1.cell? ⟨pb, 1, none⟩ = some (.int .i64 p.rank) := (blk_cell HP2.out 1).trans rfl
      have p22 : w1.cell? ⟨pb, 2, none⟩ = some (.bool p.grd) := (blk_cell HP2.out 2).trans rfl
      have p23 : w1.cell? ⟨pb, 3, none⟩ = some (.bool p.ent) := (blk_cell HP2.out 3).trans rfl
      have p24 : w1.cell? ⟨pb, 4, none⟩ = some (.bool p.quit) := (blk_cell HP2.out 4).trans rfl
      have p25 : w1.cell? ⟨pb, 5, none⟩ = some (.bool p.sgn) := (blk_cell HP2.out 5).trans rfl
      have p26 : w1.cell? ⟨pb, 6, none⟩ = some (.bool p.card) := (blk_cell HP2.out 6).trans rfl
      have lp2 := blk_lt HP2.out
      go_upto_if 22 with (go_at_call 68; refine (counts_any p _).mono ?_; rintro e w2 ⟨rfl, hb2⟩; rw [HCP.out]; have HB3 := hide (zbT HB2.out hb2 HB2.out.size); have HP3 := hide ((hb2.block _ (blk_lt HP2.out)).trans HP2.out); have HF3 := hide ((hb2.block _ (blk_lt HF2.out)).trans HF2.out); have HO3 := hide (owns_below HO2.out hb2); clear hb2)
      clear p20 p21 p22 p23 p24 p25 p26 lp2
      cases cp
      · go_wp2_with fail
        go_roundw
        case rel => exact ⟨i + 1, A, m, c, outs, by omega, rfl, by go_num, HOL, hide (by rw [HTK.out, ordF_step, if_neg (by rw [HCP.out]; decide)]; exact HOE.out), HO3, HF3, HB3⟩
        case measure => simp [intOf]; omega
      · have hm0 : (0 : Int) ≤ (m : Int) := by omega
        have hwm : IntKind.i64.wrap ((m : Int) - 1) = (m : Int) - 1 := IntWalk.i64_in _ (by omega)
        go_wp2_with fail
        clear hwm
        go_loopw [6, 7] (fun aa kk wr => ∃ (kn a : Nat), kn ≤ m ∧ kk = .int .i64 ((kn : Int) - 1) ∧ aa = .int .i64 a ∧ Hid (a = kn + (outs.drop kn).findIdx (E.before p.rank)) ∧ Hid (wr.ownsRow w.heap.size 99 7 (.slice A m c) m (flatP outs)) ∧ Hid (wr.heap[pb]? = some (.cells (pc p).toArray 99 (0, 0))) ∧ Hid (Below w2.heap.size w2 wr)) (fun _ kk _ => (intOf kk + 1).toNat)
        case atStart => exact ⟨m, m, Nat.le_refl _, rfl, rfl, hide (by rw [List.drop_eq_nil_of_le (by have := HOL.out; omega)]; rfl), HO3, HP3, hide (Below.refl _ _)⟩
        case round =>
          clear HO3 HP3
          obtain ⟨kn, a, hkn, rfl, rfl, HAT, HO3, HP3, HBk⟩ := hrel
          by_cases hk0 : kn = 0
          · subst hk0
            have hcm : m ≤ c := own_cap HO3.out
            have hal : a ≤ m := by have := HAT.out; have h2 := List.findIdx_le_length (p := E.before p.rank) (xs := outs.drop 0); rw [List.drop_zero, HOL.out] at h2; rw [List.drop_zero] at this; omega
            have hac : (a : Int) ≤ (c : Int) := by omega
            have ha0 : (0 : Int) ≤ (a : Int) := by omega
            have ham : (a : Int) ≤ (m : Int) := by omega
            go_upto_region 13 with fail
            have HBR := hide (show Below wr.heap.size wr wr from zbR _ _)
            have HLO := hide ((owns_RdP HO3.out HOL.out).take a)
            have HHI := hide (sl_hi HO3.out HOL.out hal)
            have HHN := hide (sl_hi_nil (a := a) HO3.out)
            have hSof : ∀ w' : World, Below wr.heap.size wr w' → Below wr.heap.size wr w' ∧ w'.cell? ⟨pb, 0, none⟩ = some (.int .i64 p.player) ∧ w'.cell? ⟨pb, 1, none⟩ = some (.int .i64 p.rank) ∧ w'.cell? ⟨pb, 2, none⟩ = some (.bool p.grd) ∧ w'.cell? ⟨pb, 3, none⟩ = some (.bool p.ent) ∧ w'.cell? ⟨pb, 4, none⟩ = some (.bool p.quit) ∧ w'.cell? ⟨pb, 5, none⟩ = some (.bool p.sgn) ∧ w'.cell? ⟨pb, 6, none⟩ = some (.bool p.card) := fun w' hb => by have h := (hb.block pb (blk_lt HP3.out)).trans HP3.out; exact ⟨hb, (blk_cell h 0).trans rfl, (blk_cell h 1).trans rfl, (blk_cell h 2).trans rfl, (blk_cell h 3).trans rfl, (blk_cell h 4).trans rfl, (blk_cell h 5).trans rfl, (blk_cell h 6).trans rfl⟩
            have hS : (fun w' => Below wr.heap.size wr w' ∧ w'.cell? ⟨pb, 0, none⟩ = some (.int .i64 p.player) ∧ w'.cell? ⟨pb, 1, none⟩ = some (.int .i64 p.rank) ∧ w'.cell? ⟨pb, 2, none⟩ = some (.bool p.grd) ∧ w'.cell? ⟨pb, 3, none⟩ = some (.bool p.ent) ∧ w'.cell? ⟨pb, 4, none⟩ = some (.bool p.quit) ∧ w'.cell? ⟨pb, 5, none⟩ = some (.bool p.sgn) ∧ w'.cell? ⟨pb, 6, none⟩ = some (.bool p.card)) wr := hSof _ HBR.out
            (try dsimp only at hS)
            refine wp_region_held_drew (S := (fun w' => Below wr.heap.size wr w' ∧ w'.cell? ⟨pb, 0, none⟩ = some (.int .i64 p.player) ∧ w'.cell? ⟨pb, 1, none⟩ = some (.int .i64 p.rank) ∧ w'.cell? ⟨pb, 2, none⟩ = some (.bool p.grd) ∧ w'.cell? ⟨pb, 3, none⟩ = some (.bool p.ent) ∧ w'.cell? ⟨pb, 4, none⟩ = some (.bool p.quit) ∧ w'.cell? ⟨pb, 5, none⟩ = some (.bool p.sgn) ∧ w'.cell? ⟨pb, 6, none⟩ = some (.bool p.card))) (by kernel_rfl) ?_ (fun hD0 => ?_)
            · (try dsimp only); first | assumption | exact hSof _ (zbD HBR.out)
            refine tW ?_ 1 rfl (by kernel_rfl) (fun _ _ _ h => h) (by rfl) (by assumption) ?_ ?_; rotate_left; (focus (intro w hSw; (try dsimp only at hSw); go_simp; try with_reducible rfl)); try simp only [Act.put, zl, z0, z1]
            refine tW ?_ 2 rfl (by kernel_rfl) (fun _ _ _ h => h) (by rfl) (by assumption) ?_ ?_; rotate_left; (focus (intro w hSw; (try dsimp only at hSw); go_simp; try with_reducible rfl)); try simp only [Act.put, zl, z0, z1]
            refine tW ?_ 3 rfl (by kernel_rfl) (fun _ _ _ h => h) (by rfl) (by assumption) ?_ ?_; rotate_left; (focus (intro w hSw; (try dsimp only at hSw); go_simp; try with_reducible rfl)); try simp only [Act.put, zl, z0, z1]
            refine tW ?_ 5 rfl (by kernel_rfl) (fun _ _ _ h => h) (by rfl) (by assumption) ?_ ?_; rotate_left; (focus (intro w hSw; (try dsimp only at hSw); go_simp; try with_reducible rfl)); try simp only [Act.put, zl, z0, z1]
            refine tW ?_ 8 rfl (by kernel_rfl) (fun _ _ _ h => h) (by rfl) (by assumption) ?_ ?_; rotate_left; (focus (intro w hSw; (try dsimp only at hSw); go_simp; try with_reducible rfl)); try simp only [Act.put, zl, z0, z1]
            refine tW ?_ 9 rfl (by kernel_rfl) (fun _ _ _ h => h) (by rfl) (by assumption) ?_ ?_; rotate_left; (focus (intro w hSw; (try dsimp only at hSw); go_simp; try with_reducible rfl)); try simp only [Act.put, zl, z0, z1]
            refine tW ?_ 10 rfl (by kernel_rfl) (fun _ _ _ h => h) (by rfl) (by assumption) ?_ ?_; rotate_left; (focus (intro w hSw; (try dsimp only at hSw); go_simp; try with_reducible rfl)); try simp only [Act.put, zl, z0, z1]
            refine wpAnyH_ready (rs := [0, 6]) (by kernel_rfl) (by simp) ?_; refine consL 0 rfl (fun K hK => ?_) ?_
            (go_simp; (first | refine capA (fun W0 hG hB hk hgr => ?_) | refine capAD (fun W0 hG hB hk hgr => ?_)); have hSn := hSof _ (by first | exact hB _ _ hD0.1 hD0.1.size | exact hB _ _ HBR.out (Nat.le_refl _)); have HQ0 := hide hG; have HQ0L := hide hD0.1.size; (try have HNE := hide (Nat.ne_of_lt (blk_lt HQ6.out))); (try replace HQ6 := hide (hk _ _ HQ6.out)); clear hG hB hk hgr; (try dsimp only at hSn))
            refine hK.out _ _ ?_ (fun hD1 => ?_)
            · (try dsimp only); first | assumption | exact hSof _ (zbD HBR.out)
            clear hK K hD0; try simp only [Act.put, zl, z0, z1]
            refine wpAnyH_ready (rs := [4, 6]) (by kernel_rfl) (by simp) ?_; refine consL 4 rfl (fun K hK => ?_) ?_
            (refine step_app_Ps rfl (.tmp 54) (.tmp 57) rfl wr.heap.size _ [] 0 rfl (ownsP_empty HQ0.out HQ0L.out) rfl _ _ _ (outs.take a) rfl (by rw [List.length_take, HOL.out]; omega) ((HLO.out.below hD1.1).mono hD1.1.size) (own_nil HO3.out) (by omega) (by omega) hD1.1.size _ (Nat.zero_add _) (fun A4 c4 W4 ho4 hg4 => ?_); have hSn := hSof _ (below_own hD1.1 (ownsP_empty HQ0.out HQ0L.out) hg4); have HO4 := hide ho4; (try replace HQ6 := hide ((hg4.block _ (blk_lt HQ6.out) (fun e => HNE.out (Option.some.inj e))).trans HQ6.out)); clear ho4 hg4 HQ0 HQ0L; (try dsimp only [List.nil_append] at hSn HO4))
            refine hK.out _ _ ?_ (fun hD2 => ?_)
            · (try dsimp only); first | assumption | exact hSof _ (zbD HBR.out)
            clear hK K hD1; try simp only [Act.put, zl, z0, z1]
            refine wpAnyH_ready (rs := [6]) (by kernel_rfl) (by simp) ?_; refine consL 6 rfl (fun K hK => ?_) AllReadyH.nil
            (go_simp; (first | refine capA (fun W0 hG hB hk hgr => ?_) | refine capAD (fun W0 hG hB hk hgr => ?_)); have hSn := hSof _ (by first | exact hB _ _ hD2.1 hD2.1.size | exact hB _ _ HBR.out (Nat.le_refl _)); (try have HNE := hide (Nat.ne_of_gt (blk_lt HQ0.out))); have HQ6 := hide (show W0.heap[_]? = some (Obj.cells (pc p).toArray 99 (0, 0)) from hG); (try replace HQ0 := hide (hk _ _ HQ0.out)); (try replace HO4 := hide (HO4.out.kept hgr (Classical.em _))); clear hG hB hk hgr; (try dsimp only at hSn))
            refine hK.out _ _ ?_ (fun hD3 => ?_)
            · (try dsimp only); first | assumption | exact hSof _ (zbD HBR.out)
            clear hK K hD2; try simp only [Act.put, zl, z0, z1]
            refine wpAnyH_ready (rs := [7]) (by kernel_rfl) (by simp) ?_; refine consL 7 rfl (fun K hK => ?_) AllReadyH.nil
            (refine step_app_Ps rfl (.tmp 58) (.tmp 60) rfl wr.heap.size _ (outs.take a) _ rfl HO4.out (by rw [List.length_take, HOL.out]; omega) _ _ _ [p] rfl rfl (rdP_one HQ6.out) (fun e => by cases e) (by omega) (by omega) hD3.1.size (a + 1) rfl (fun A7 c7 W7 ho7 hg7 => ?_); have hSn := hSof _ (below_own hD3.1 HO4.out hg7); have HO7 := hide ho7; clear ho7 hg7 HO4 HQ6; (try dsimp only at hSn))
            refine hK.out _ _ ?_ (fun hD4 => ?_)
            · (try dsimp only); first | assumption | exact hSof _ (zbD HBR.out)
            clear hK K hD3; try simp only [Act.put, zl, z0, z1]
            refine wpAnyH_ready (rs := [11]) (by kernel_rfl) (by simp) ?_; refine consL 11 rfl (fun K hK => ?_) AllReadyH.nil
            (refine step_app_Ps rfl (.tmp 61) (.tmp 64) rfl wr.heap.size _ (outs.take a ++ [p]) _ rfl HO7.out (by rw [List.length_append, List.length_take, HOL.out]; simp; omega) _ _ _ (outs.drop a) rfl (by rw [List.length_drop, HOL.out]) ((HHI.out.below hD4.1).mono hD4.1.size) HHN.out (by omega) (by omega) hD4.1.size (m + 1) (by omega) (fun A11 c11 W11 ho11 hg11 => ?_); have hSn := hSof _ (below_own hD4.1 HO7.out hg11); have HO11 := hide ho11; clear ho11 hg11 HO7; (try dsimp only at hSn))
            refine hK.out _ _ ?_ (fun hD5 => ?_)
            · (try dsimp only); first | assumption | exact hSof _ (zbD HBR.out)
            clear hK K hD4; try simp only [Act.put, zl, z0, z1]
            refine tW ?_ 12 rfl (by kernel_rfl) (fun _ _ _ h => h) (by rfl) (by assumption) ?_ ?_; rotate_left; (focus (intro w hSw; (try dsimp only at hSw); go_simp; try with_reducible rfl)); try simp only [Act.put, zl, z0, z1]
            refine wpAnyH_done (by kernel_rfl) ?_ _
            rotate_left 1
            refine consL 6 rfl (fun K hK => ?_) AllReadyH.nil
            (go_simp; (first | refine capA (fun W0 hG hB hk hgr => ?_) | refine capAD (fun W0 hG hB hk hgr => ?_)); have hSn := hSof _ (by first | exact hB _ _ hD1.1 hD1.1.size | exact hB _ _ HBR.out (Nat.le_refl _)); (try have HNE := hide (Nat.ne_of_gt (blk_lt HQ0.out))); have HQ6 := hide (show W0.heap[_]? = some (Obj.cells (pc p).toArray 99 (0, 0)) from hG); (try replace HQ0 := hide (hk _ _ HQ0.out)); (try replace HO4 := hide (HO4.out.kept hgr (Classical.em _))); clear hG hB hk hgr; (try dsimp only at hSn))
            refine hK.out _ _ ?_ (fun hD2 => ?_)
            · (try dsimp only); first | assumption | exact hSof _ (zbD HBR.out)
            clear hK K hD1; try simp only [Act.put, zl, z0, z1]
            refine wpAnyH_ready (rs := [4]) (by kernel_rfl) (by simp) ?_; refine consL 4 rfl (fun K hK => ?_) AllReadyH.nil
            (refine step_app_Ps rfl (.tmp 54) (.tmp 57) rfl wr.heap.size _ [] 0 rfl (ownsP_empty HQ0.out HQ0L.out) rfl _ _ _ (outs.take a) rfl (by rw [List.length_take, HOL.out]; omega) ((HLO.out.below hD2.1).mono hD2.1.size) (own_nil HO3.out) (by omega) (by omega) hD2.1.size _ (Nat.zero_add _) (fun A4 c4 W4 ho4 hg4 => ?_); have hSn := hSof _ (below_own hD2.1 (ownsP_empty HQ0.out HQ0L.out) hg4); have HO4 := hide ho4; (try replace HQ6 := hide ((hg4.block _ (blk_lt HQ6.out) (fun e => HNE.out (Option.some.inj e))).trans HQ6.out)); clear ho4 hg4 HQ0 HQ0L; (try dsimp only [List.nil_append] at hSn HO4))
            refine hK.out _ _ ?_ (fun hD3 => ?_)
            · (try dsimp only); first | assumption | exact hSof _ (zbD HBR.out)
            clear hK K hD2; try simp only [Act.put, zl, z0, z1]
            refine wpAnyH_ready (rs := [7]) (by kernel_rfl) (by simp) ?_; refine consL 7 rfl (fun K hK => ?_) AllReadyH.nil
            (refine step_app_Ps rfl (.tmp 58) (.tmp 60) rfl wr.heap.size _ (outs.take a) _ rfl HO4.out (by rw [List.length_take, HOL.out]; omega) _ _ _ [p] rfl rfl (rdP_one HQ6.out) (fun e => by cases e) (by omega) (by omega) hD3.1.size (a + 1) rfl (fun A7 c7 W7 ho7 hg7 => ?_); have hSn := hSof _ (below_own hD3.1 HO4.out hg7); have HO7 := hide ho7; clear ho7 hg7 HO4 HQ6; (try dsimp only at hSn))
            refine hK.out _ _ ?_ (fun hD4 => ?_)
            · (try dsimp only); first | assumption | exact hSof _ (zbD HBR.out)
            clear hK K hD3; try simp only [Act.put, zl, z0, z1]
            refine wpAnyH_ready (rs := [11]) (by kernel_rfl) (by simp) ?_; refine consL 11 rfl (fun K hK => ?_) AllReadyH.nil
            (refine step_app_Ps rfl (.tmp 61) (.tmp 64) rfl wr.heap.size _ (outs.take a ++ [p]) _ rfl HO7.out (by rw [List.length_append, List.length_take, HOL.out]; simp; omega) _ _ _ (outs.drop a) rfl (by rw [List.length_drop, HOL.out]) ((HHI.out.below hD4.1).mono hD4.1.size) HHN.out (by omega) (by omega) hD4.1.size (m + 1) (by omega) (fun A11 c11 W11 ho11 hg11 => ?_); have hSn := hSof _ (below_own hD4.1 HO7.out hg11); have HO11 := hide ho11; clear ho11 hg11 HO7; (try dsimp only at hSn))
            refine hK.out _ _ ?_ (fun hD5 => ?_)
            · (try dsimp only); first | assumption | exact hSof _ (zbD HBR.out)
            clear hK K hD4; try simp only [Act.put, zl, z0, z1]
            refine tW ?_ 12 rfl (by kernel_rfl) (fun _ _ _ h => h) (by rfl) (by assumption) ?_ ?_; rotate_left; (focus (intro w hSw; (try dsimp only at hSw); go_simp; try with_reducible rfl)); try simp only [Act.put, zl, z0, z1]
            refine wpAnyH_done (by kernel_rfl) ?_ _
            rotate_left 1
            refine consL 6 rfl (fun K hK => ?_) AllReadyH.nil
            (go_simp; (first | refine capA (fun W0 hG hB hk hgr => ?_) | refine capAD (fun W0 hG hB hk hgr => ?_)); have hSn := hSof _ (by first | exact hB _ _ hD0.1 hD0.1.size | exact hB _ _ HBR.out (Nat.le_refl _)); (try have HNE := hide (Nat.ne_of_gt (blk_lt HQ0.out))); have HQ6 := hide (show W0.heap[_]? = some (Obj.cells (pc p).toArray 99 (0, 0)) from hG); (try replace HQ0 := hide (hk _ _ HQ0.out)); (try replace HO4 := hide (HO4.out.kept hgr (Classical.em _))); clear hG hB hk hgr; (try dsimp only at hSn))
            refine hK.out _ _ ?_ (fun hD1 => ?_)
            · (try dsimp only); first | assumption | exact hSof _ (zbD HBR.out)
            clear hK K hD0; try simp only [Act.put, zl, z0, z1]
            refine wpAnyH_ready (rs := [0]) (by kernel_rfl) (by simp) ?_; refine consL 0 rfl (fun K hK => ?_) AllReadyH.nil
            (go_simp; (first | refine capA (fun W0 hG hB hk hgr => ?_) | refine capAD (fun W0 hG hB hk hgr => ?_)); have hSn := hSof _ (by first | exact hB _ _ hD1.1 hD1.1.size | exact hB _ _ HBR.out (Nat.le_refl _)); have HQ0 := hide hG; have HQ0L := hide hD1.1.size; (try have HNE := hide (Nat.ne_of_lt (blk_lt HQ6.out))); (try replace HQ6 := hide (hk _ _ HQ6.out)); clear hG hB hk hgr; (try dsimp only at hSn))
            refine hK.out _ _ ?_ (fun hD2 => ?_)
            · (try dsimp only); first | assumption | exact hSof _ (zbD HBR.out)
            clear hK K hD1; try simp only [Act.put, zl, z0, z1]
            refine wpAnyH_ready (rs := [4]) (by kernel_rfl) (by simp) ?_; refine consL 4 rfl (fun K hK => ?_) AllReadyH.nil
            (refine step_app_Ps rfl (.tmp 54) (.tmp 57) rfl wr.heap.size _ [] 0 rfl (ownsP_empty HQ0.out HQ0L.out) rfl _ _ _ (outs.take a) rfl (by rw [List.length_take, HOL.out]; omega) ((HLO.out.below hD2.1).mono hD2.1.size) (own_nil HO3.out) (by omega) (by omega) hD2.1.size _ (Nat.zero_add _) (fun A4 c4 W4 ho4 hg4 => ?_); have hSn := hSof _ (below_own hD2.1 (ownsP_empty HQ0.out HQ0L.out) hg4); have HO4 := hide ho4; (try replace HQ6 := hide ((hg4.block _ (blk_lt HQ6.out) (fun e => HNE.out (Option.some.inj e))).trans HQ6.out)); clear ho4 hg4 HQ0 HQ0L; (try dsimp only [List.nil_append] at hSn HO4))
            refine hK.out _ _ ?_ (fun hD3 => ?_)
            · (try dsimp only); first | assumption | exact hSof _ (zbD HBR.out)
            clear hK K hD2; try simp only [Act.put, zl, z0, z1]
            refine wpAnyH_ready (rs := [7]) (by kernel_rfl) (by simp) ?_; refine consL 7 rfl (fun K hK => ?_) AllReadyH.nil
            (refine step_app_Ps rfl (.tmp 58) (.tmp 60) rfl wr.heap.size _ (outs.take a) _ rfl HO4.out (by rw [List.length_take, HOL.out]; omega) _ _ _ [p] rfl rfl (rdP_one HQ6.out) (fun e => by cases e) (by omega) (by omega) hD3.1.size (a + 1) rfl (fun A7 c7 W7 ho7 hg7 => ?_); have hSn := hSof _ (below_own hD3.1 HO4.out hg7); have HO7 := hide ho7; clear ho7 hg7 HO4 HQ6; (try dsimp only at hSn))
            refine hK.out _ _ ?_ (fun hD4 => ?_)
            · (try dsimp only); first | assumption | exact hSof _ (zbD HBR.out)
            clear hK K hD3; try simp only [Act.put, zl, z0, z1]
            refine wpAnyH_ready (rs := [11]) (by kernel_rfl) (by simp) ?_; refine consL 11 rfl (fun K hK => ?_) AllReadyH.nil
            (refine step_app_Ps rfl (.tmp 61) (.tmp 64) rfl wr.heap.size _ (outs.take a ++ [p]) _ rfl HO7.out (by rw [List.length_append, List.length_take, HOL.out]; simp; omega) _ _ _ (outs.drop a) rfl (by rw [List.length_drop, HOL.out]) ((HHI.out.below hD4.1).mono hD4.1.size) HHN.out (by omega) (by omega) hD4.1.size (m + 1) (by omega) (fun A11 c11 W11 ho11 hg11 => ?_); have hSn := hSof _ (below_own hD4.1 HO7.out hg11); have HO11 := hide ho11; clear ho11 hg11 HO7; (try dsimp only at hSn))
            refine hK.out _ _ ?_ (fun hD5 => ?_)
            · (try dsimp only); first | assumption | exact hSof _ (zbD HBR.out)
            clear hK K hD4; try simp only [Act.put, zl, z0, z1]
            refine tW ?_ 12 rfl (by kernel_rfl) (fun _ _ _ h => h) (by rfl) (by assumption) ?_ ?_; rotate_left; (focus (intro w hSw; (try dsimp only at hSw); go_simp; try with_reducible rfl)); try simp only [Act.put, zl, z0, z1]
            refine wpAnyH_done (by kernel_rfl) ?_ _
            all_goals
              clear HBR HLO HHI HHN hSof
              (try dsimp only [Act.put, List.getElem_toArray, List.getElem_cons_succ, List.getElem_cons_zero])
              (try simp only [zl, z0, z1])
              have HBL := hide hSn.1
              have HBW := hide (zbT (zbT HB3.out HBk.out HB3.out.size) HBL.out (Nat.le_trans HB3.out.size HBk.out.size))
              have HFW := hide ((HBL.out.block _ (Nat.lt_of_lt_of_le (blk_lt HF3.out) HBk.out.size)).trans ((HBk.out.block _ (blk_lt HF3.out)).trans HF3.out))
              have HRI := hide (show E.rins p outs = outs.take a ++ [p] ++ outs.drop a by rw [HAT.out, List.drop_zero, Nat.zero_add]; unfold E.rins; rw [List.append_assoc]; rfl)
              clear hSn hS
              go_wp2_with fail
              go_roundw
              case rel => exact ⟨i + 1, A11, m + 1, c11, E.rins p outs, by omega, rfl, by go_num, hide (by rw [rins_length, HOL.out]), hide (by rw [HTK.out, ordF_step, if_pos HCP.out]; exact congrArg _ HOE.out), hide (owns_mono (by rw [HRI.out]; exact HO11.out) (Nat.le_trans HB3.out.size HBk.out.size)), HFW, HBW⟩
              case measure => simp [intOf]; omega
          · obtain ⟨k, rfl⟩ : ∃ k, kn = k + 1 := ⟨kn - 1, by omega⟩
            obtain ⟨q, hq⟩ : ∃ q, outs[k]? = some q := ⟨_, List.getElem?_eq_getElem (by have := HOL.out; omega)⟩
            have HQK := hide hq
            clear hq hk0
            have hkm : k < m := by omega
            rw [show (((k + 1 : Nat) : Int) - 1) = (k : Int) from by omega]
            have hk0 : (0 : Int) ≤ (k : Int) := by omega
            have hk1 : (k : Int) < (m : Int) := by omega
            have hkw : IntKind.i64.wrap ((k : Int) - 1) = (k : Int) - 1 := IntWalk.i64_in _ (by omega)
            have HKW := hide hkw
            go_upto_region 11 with fail
            obtain ⟨a1, hba1⟩ : ∃ b, decide (0 < p.rank) = b := ⟨_, rfl⟩
            have Pa1 := hide hba1
            have Pa1' := hide (show decide (0 < p.rank) = a1 from hba1)
            clear hba1
            cases a1
            · obtain ⟨V, hV⟩ : ∃ V, (wr).drew = V := ⟨_, rfl⟩
              have HB4 := hide (show Below w2.heap.size w2 V by rw [← hV]; exact zbD HBk.out)
              have HOV := hide (show V.ownsRow w.heap.size 99 7 (.slice A m c) m (flatP outs) by rw [← hV]; exact HO3.out)
              have HPV := hide (show V.heap[pb]? = some (.cells (pc p).toArray 99 (0, 0)) by rw [← hV]; exact HP3.out)
              have vp1 : V.cell? ⟨pb, 1, none⟩ = some (.int .i64 p.rank) := (blk_cell HPV.out 1).trans rfl
              have lpv := blk_lt HPV.out
              obtain ⟨bq, oq, hAq, _, q0, q1, q2, q3, q4, q5, q6⟩ := (owns_RdP HOV.out HOL.out) k q HQK.out
              subst hAq
              refine wp_region_still_lit (by kernel_rfl) (by kernel_rfl) ?_
              change wpStill _ _ (wr).drew (fun a' => Exit.then _ _ Exit.normal a' (wr).drew) _ _
              rw [hV]
              clear hV
              with_reducible refine stTake (v := ?_) (by kernel_rfl) ?_ ?_; rotate_left
              · (go_simp; (try with_reducible rfl))
              (try simp only [Act.put, zl, List.set_cons_zero, List.set_cons_succ])
              with_reducible refine stTake (v := ?_) (by kernel_rfl) ?_ ?_; rotate_left
              · (go_simp; (try with_reducible rfl))
              (try simp only [Act.put, zl, List.set_cons_zero, List.set_cons_succ])
              with_reducible refine stTake (v := ?_) (by kernel_rfl) ?_ ?_; rotate_left
              · (go_simp; (try simp only [Pa1.out, Pa1'.out]); (try with_reducible rfl))
              (try simp only [Act.put, zl, List.set_cons_zero, List.set_cons_succ])
              with_reducible refine stTake (v := ?_) (by kernel_rfl) ?_ ?_; rotate_left
              · (go_simp; (try with_reducible rfl))
              (try simp only [Act.put, zl, List.set_cons_zero, List.set_cons_succ])
              with_reducible refine stSkip (by kernel_rfl) ?_
              (try simp only [Act.put, zl, List.set_cons_zero, List.set_cons_succ])
              with_reducible refine stSkip (by kernel_rfl) ?_
              (try simp only [Act.put, zl, List.set_cons_zero, List.set_cons_succ])
              with_reducible refine stSkip (by kernel_rfl) ?_
              (try simp only [Act.put, zl, List.set_cons_zero, List.set_cons_succ])
              with_reducible refine stSkip (by kernel_rfl) ?_
              (try simp only [Act.put, zl, List.set_cons_zero, List.set_cons_succ])
              with_reducible refine stSkip (by kernel_rfl) ?_
              (try simp only [Act.put, zl, List.set_cons_zero, List.set_cons_succ])
              with_reducible refine stSkip (by kernel_rfl) ?_
              (try simp only [Act.put, zl, List.set_cons_zero, List.set_cons_succ])
              with_reducible refine stSkip (by kernel_rfl) ?_
              (try simp only [Act.put, zl, List.set_cons_zero, List.set_cons_succ])
              with_reducible refine stSkip (by kernel_rfl) ?_
              (try simp only [Act.put, zl, List.set_cons_zero, List.set_cons_succ])
              with_reducible refine stSkip (by kernel_rfl) ?_
              (try simp only [Act.put, zl, List.set_cons_zero, List.set_cons_succ])
              with_reducible refine stSkip (by kernel_rfl) ?_
              (try simp only [Act.put, zl, List.set_cons_zero, List.set_cons_succ])
              with_reducible refine stSkip (by kernel_rfl) ?_
              (try simp only [Act.put, zl, List.set_cons_zero, List.set_cons_succ])
              with_reducible refine stSkip (by kernel_rfl) ?_
              (try simp only [Act.put, zl, List.set_cons_zero, List.set_cons_succ])
              with_reducible refine stSkip (by kernel_rfl) ?_
              (try simp only [Act.put, zl, List.set_cons_zero, List.set_cons_succ])
              with_reducible refine stSkip (by kernel_rfl) ?_
              (try simp only [Act.put, zl, List.set_cons_zero, List.set_cons_succ])
              with_reducible refine stSkip (by kernel_rfl) ?_
              (try simp only [Act.put, zl, List.set_cons_zero, List.set_cons_succ])
              with_reducible refine stSkip (by kernel_rfl) ?_
              (try simp only [Act.put, zl, List.set_cons_zero, List.set_cons_succ])
              with_reducible refine stTake (v := ?_) (by kernel_rfl) ?_ ?_; rotate_left
              · (go_simp; (try with_reducible rfl))
              (try simp only [Act.put, zl, List.set_cons_zero, List.set_cons_succ])
              refine wpStill_nil ?_
              have hbf : E.before p.rank q = false := by unfold E.before; rw [Pa1.out]; rfl
              clear vp1 lpv q0 q1 q2 q3 q4 q5 q6
              go_wp2_with fail
              go_roundw
              case rel => exact ⟨k, a, by omega, rfl, rfl, hide (by rw [E.scan_step HQK.out, hbf]; exact HAT.out), HOV, HPV, HB4⟩
              case measure => simp [intOf]
            · obtain ⟨a2, hba2⟩ : ∃ b, (q.rank == 0) = b := ⟨_, rfl⟩
              have Pa2 := hide hba2
              have Pa2' := hide (show decide (q.rank = 0) = a2 from hba2)
              clear hba2
              cases a2
              · obtain ⟨a3, hba3⟩ : ∃ b, decide (p.rank < q.rank) = b := ⟨_, rfl⟩
                have Pa3 := hide hba3
                have Pa3' := hide (show decide (p.rank < q.rank) = a3 from hba3)
                clear hba3
                cases a3
                · obtain ⟨V, hV⟩ : ∃ V, (wr).drew = V := ⟨_, rfl⟩
                  have HB4 := hide (show Below w2.heap.size w2 V by rw [← hV]; exact zbD HBk.out)
                  have HOV := hide (show V.ownsRow w.heap.size 99 7 (.slice A m c) m (flatP outs) by rw [← hV]; exact HO3.out)
                  have HPV := hide (show V.heap[pb]? = some (.cells (pc p).toArray 99 (0, 0)) by rw [← hV]; exact HP3.out)
                  have vp1 : V.cell? ⟨pb, 1, none⟩ = some (.int .i64 p.rank) := (blk_cell HPV.out 1).trans rfl
                  have lpv := blk_lt HPV.out
                  obtain ⟨bq, oq, hAq, _, q0, q1, q2, q3, q4, q5, q6⟩ := (owns_RdP HOV.out HOL.out) k q HQK.out
                  subst hAq
                  refine wp_region_still_lit (by kernel_rfl) (by kernel_rfl) ?_
                  change wpStill _ _ (wr).drew (fun a' => Exit.then _ _ Exit.normal a' (wr).drew) _ _
                  rw [hV]
                  clear hV
                  with_reducible refine stTake (v := ?_) (by kernel_rfl) ?_ ?_; rotate_left
                  · (go_simp; (try with_reducible rfl))
                  (try simp only [Act.put, zl, List.set_cons_zero, List.set_cons_succ])
                  with_reducible refine stTake (v := ?_) (by kernel_rfl) ?_ ?_; rotate_left
                  · (go_simp; (try with_reducible rfl))
                  (try simp only [Act.put, zl, List.set_cons_zero, List.set_cons_succ])
                  with_reducible refine stTake (v := ?_) (by kernel_rfl) ?_ ?_; rotate_left
                  · (go_simp; (try simp only [Pa1.out, Pa1'.out]); (try with_reducible rfl))
                  (try simp only [Act.put, zl, List.set_cons_zero, List.set_cons_succ])
                  with_reducible refine stTake (v := ?_) (by kernel_rfl) ?_ ?_; rotate_left
                  · (go_simp; (try with_reducible rfl))
                  (try simp only [Act.put, zl, List.set_cons_zero, List.set_cons_succ])
                  with_reducible refine stTake (v := ?_) (by kernel_rfl) ?_ ?_; rotate_left
                  · (go_simp; (try with_reducible rfl))
                  (try simp only [Act.put, zl, List.set_cons_zero, List.set_cons_succ])
                  with_reducible refine stTake (v := ?_) (by kernel_rfl) ?_ ?_; rotate_left
                  · (go_simp; (try with_reducible rfl))
                  (try simp only [Act.put, zl, List.set_cons_zero, List.set_cons_succ])
                  with_reducible refine stTake (v := ?_) (by kernel_rfl) ?_ ?_; rotate_left
                  · (go_simp; (try with_reducible rfl))
                  (try simp only [Act.put, zl, List.set_cons_zero, List.set_cons_succ])
                  with_reducible refine stTake (v := ?_) (by kernel_rfl) ?_ ?_; rotate_left
                  · (go_simp; (try with_reducible rfl))
                  (try simp only [Act.put, zl, List.set_cons_zero, List.set_cons_succ])
                  with_reducible refine stTake (v := ?_) (by kernel_rfl) ?_ ?_; rotate_left
                  · (go_simp; (try with_reducible rfl))
                  (try simp only [Act.put, zl, List.set_cons_zero, List.set_cons_succ])
                  with_reducible refine stTake (v := ?_) (by kernel_rfl) ?_ ?_; rotate_left
                  · (go_simp; (try simp only [Pa2.out, Pa2'.out]); (try with_reducible rfl))
                  (try simp only [Act.put, zl, List.set_cons_zero, List.set_cons_succ])
                  with_reducible refine stTake (v := ?_) (by kernel_rfl) ?_ ?_; rotate_left
                  · (go_simp; (try with_reducible rfl))
                  (try simp only [Act.put, zl, List.set_cons_zero, List.set_cons_succ])
                  with_reducible refine stTake (v := ?_) (by kernel_rfl) ?_ ?_; rotate_left
                  · (go_simp; (try with_reducible rfl))
                  (try simp only [Act.put, zl, List.set_cons_zero, List.set_cons_succ])
                  with_reducible refine stTake (v := ?_) (by kernel_rfl) ?_ ?_; rotate_left
                  · (go_simp; (try with_reducible rfl))
                  (try simp only [Act.put, zl, List.set_cons_zero, List.set_cons_succ])
                  with_reducible refine stTake (v := ?_) (by kernel_rfl) ?_ ?_; rotate_left
                  · (go_simp; (try with_reducible rfl))
                  (try simp only [Act.put, zl, List.set_cons_zero, List.set_cons_succ])
                  with_reducible refine stTake (v := ?_) (by kernel_rfl) ?_ ?_; rotate_left
                  · (go_simp; (try with_reducible rfl))
                  (try simp only [Act.put, zl, List.set_cons_zero, List.set_cons_succ])
                  with_reducible refine stTake (v := ?_) (by kernel_rfl) ?_ ?_; rotate_left
                  · (go_simp; (try with_reducible rfl))
                  (try simp only [Act.put, zl, List.set_cons_zero, List.set_cons_succ])
                  with_reducible refine stTake (v := ?_) (by kernel_rfl) ?_ ?_; rotate_left
                  · (go_simp; (try with_reducible rfl))
                  (try simp only [Act.put, zl, List.set_cons_zero, List.set_cons_succ])
                  with_reducible refine stTake (v := ?_) (by kernel_rfl) ?_ ?_; rotate_left
                  · (go_simp; (try with_reducible rfl))
                  (try simp only [Act.put, zl, List.set_cons_zero, List.set_cons_succ])
                  with_reducible refine stTake (v := ?_) (by kernel_rfl) ?_ ?_; rotate_left
                  · (go_simp; (try simp only [Pa3.out, Pa3'.out]); (try with_reducible rfl))
                  (try simp only [Act.put, zl, List.set_cons_zero, List.set_cons_succ])
                  with_reducible refine stTake (v := ?_) (by kernel_rfl) ?_ ?_; rotate_left
                  · (go_simp; (try with_reducible rfl))
                  (try simp only [Act.put, zl, List.set_cons_zero, List.set_cons_succ])
                  with_reducible refine stTake (v := ?_) (by kernel_rfl) ?_ ?_; rotate_left
                  · (go_simp; (try with_reducible rfl))
                  (try simp only [Act.put, zl, List.set_cons_zero, List.set_cons_succ])
                  refine wpStill_nil ?_
                  have hbf : E.before p.rank q = false := by unfold E.before; rw [Pa1.out, Pa3.out, show decide (q.rank = 0) = false from Pa2'.out]; rfl
                  clear vp1 lpv q0 q1 q2 q3 q4 q5 q6
                  go_wp2_with fail
                  go_roundw
                  case rel => exact ⟨k, a, by omega, rfl, rfl, hide (by rw [E.scan_step HQK.out, hbf]; exact HAT.out), HOV, HPV, HB4⟩
                  case measure => simp [intOf]
                · obtain ⟨V, hV⟩ : ∃ V, (wr).drew = V := ⟨_, rfl⟩
                  have HB4 := hide (show Below w2.heap.size w2 V by rw [← hV]; exact zbD HBk.out)
                  have HOV := hide (show V.ownsRow w.heap.size 99 7 (.slice A m c) m (flatP outs) by rw [← hV]; exact HO3.out)
                  have HPV := hide (show V.heap[pb]? = some (.cells (pc p).toArray 99 (0, 0)) by rw [← hV]; exact HP3.out)
                  have vp1 : V.cell? ⟨pb, 1, none⟩ = some (.int .i64 p.rank) := (blk_cell HPV.out 1).trans rfl
                  have lpv := blk_lt HPV.out
                  obtain ⟨bq, oq, hAq, _, q0, q1, q2, q3, q4, q5, q6⟩ := (owns_RdP HOV.out HOL.out) k q HQK.out
                  subst hAq
                  refine wp_region_still_lit (by kernel_rfl) (by kernel_rfl) ?_
                  change wpStill _ _ (wr).drew (fun a' => Exit.then _ _ Exit.normal a' (wr).drew) _ _
                  rw [hV]
                  clear hV
                  with_reducible refine stTake (v := ?_) (by kernel_rfl) ?_ ?_; rotate_left
                  · (go_simp; (try with_reducible rfl))
                  (try simp only [Act.put, zl, List.set_cons_zero, List.set_cons_succ])
                  with_reducible refine stTake (v := ?_) (by kernel_rfl) ?_ ?_; rotate_left
                  · (go_simp; (try with_reducible rfl))
                  (try simp only [Act.put, zl, List.set_cons_zero, List.set_cons_succ])
                  with_reducible refine stTake (v := ?_) (by kernel_rfl) ?_ ?_; rotate_left
                  · (go_simp; (try simp only [Pa1.out, Pa1'.out]); (try with_reducible rfl))
                  (try simp only [Act.put, zl, List.set_cons_zero, List.set_cons_succ])
                  with_reducible refine stTake (v := ?_) (by kernel_rfl) ?_ ?_; rotate_left
                  · (go_simp; (try with_reducible rfl))
                  (try simp only [Act.put, zl, List.set_cons_zero, List.set_cons_succ])
                  with_reducible refine stTake (v := ?_) (by kernel_rfl) ?_ ?_; rotate_left
                  · (go_simp; (try with_reducible rfl))
                  (try simp only [Act.put, zl, List.set_cons_zero, List.set_cons_succ])
                  with_reducible refine stTake (v := ?_) (by kernel_rfl) ?_ ?_; rotate_left
                  · (go_simp; (try with_reducible rfl))
                  (try simp only [Act.put, zl, List.set_cons_zero, List.set_cons_succ])
                  with_reducible refine stTake (v := ?_) (by kernel_rfl) ?_ ?_; rotate_left
                  · (go_simp; (try with_reducible rfl))
                  (try simp only [Act.put, zl, List.set_cons_zero, List.set_cons_succ])
                  with_reducible refine stTake (v := ?_) (by kernel_rfl) ?_ ?_; rotate_left
                  · (go_simp; (try with_reducible rfl))
                  (try simp only [Act.put, zl, List.set_cons_zero, List.set_cons_succ])
                  with_reducible refine stTake (v := ?_) (by kernel_rfl) ?_ ?_; rotate_left
                  · (go_simp; (try with_reducible rfl))
                  (try simp only [Act.put, zl, List.set_cons_zero, List.set_cons_succ])
                  with_reducible refine stTake (v := ?_) (by kernel_rfl) ?_ ?_; rotate_left
                  · (go_simp; (try simp only [Pa2.out, Pa2'.out]); (try with_reducible rfl))
                  (try simp only [Act.put, zl, List.set_cons_zero, List.set_cons_succ])
                  with_reducible refine stTake (v := ?_) (by kernel_rfl) ?_ ?_; rotate_left
                  · (go_simp; (try with_reducible rfl))
                  (try simp only [Act.put, zl, List.set_cons_zero, List.set_cons_succ])
                  with_reducible refine stTake (v := ?_) (by kernel_rfl) ?_ ?_; rotate_left
                  · (go_simp; (try with_reducible rfl))
                  (try simp only [Act.put, zl, List.set_cons_zero, List.set_cons_succ])
                  with_reducible refine stTake (v := ?_) (by kernel_rfl) ?_ ?_; rotate_left
                  · (go_simp; (try with_reducible rfl))
                  (try simp only [Act.put, zl, List.set_cons_zero, List.set_cons_succ])
                  with_reducible refine stTake (v := ?_) (by kernel_rfl) ?_ ?_; rotate_left
                  · (go_simp; (try with_reducible rfl))
                  (try simp only [Act.put, zl, List.set_cons_zero, List.set_cons_succ])
                  with_reducible refine stTake (v := ?_) (by kernel_rfl) ?_ ?_; rotate_left
                  · (go_simp; (try with_reducible rfl))
                  (try simp only [Act.put, zl, List.set_cons_zero, List.set_cons_succ])
                  with_reducible refine stTake (v := ?_) (by kernel_rfl) ?_ ?_; rotate_left
                  · (go_simp; (try with_reducible rfl))
                  (try simp only [Act.put, zl, List.set_cons_zero, List.set_cons_succ])
                  with_reducible refine stTake (v := ?_) (by kernel_rfl) ?_ ?_; rotate_left
                  · (go_simp; (try with_reducible rfl))
                  (try simp only [Act.put, zl, List.set_cons_zero, List.set_cons_succ])
                  with_reducible refine stTake (v := ?_) (by kernel_rfl) ?_ ?_; rotate_left
                  · (go_simp; (try with_reducible rfl))
                  (try simp only [Act.put, zl, List.set_cons_zero, List.set_cons_succ])
                  with_reducible refine stTake (v := ?_) (by kernel_rfl) ?_ ?_; rotate_left
                  · (go_simp; (try simp only [Pa3.out, Pa3'.out]); (try with_reducible rfl))
                  (try simp only [Act.put, zl, List.set_cons_zero, List.set_cons_succ])
                  with_reducible refine stTake (v := ?_) (by kernel_rfl) ?_ ?_; rotate_left
                  · (go_simp; (try with_reducible rfl))
                  (try simp only [Act.put, zl, List.set_cons_zero, List.set_cons_succ])
                  with_reducible refine stTake (v := ?_) (by kernel_rfl) ?_ ?_; rotate_left
                  · (go_simp; (try with_reducible rfl))
                  (try simp only [Act.put, zl, List.set_cons_zero, List.set_cons_succ])
                  refine wpStill_nil ?_
                  have hbf : E.before p.rank q = true := by unfold E.before; rw [Pa1.out, Pa3.out]; simp
                  clear vp1 lpv q0 q1 q2 q3 q4 q5 q6
                  go_wp2_with fail
                  go_roundw
                  case rel => exact ⟨k, k, by omega, rfl, by go_num, hide (by rw [E.scan_step HQK.out, hbf]; rfl), HOV, HPV, HB4⟩
                  case measure => simp [intOf]
              · obtain ⟨V, hV⟩ : ∃ V, (wr).drew = V := ⟨_, rfl⟩
                have HB4 := hide (show Below w2.heap.size w2 V by rw [← hV]; exact zbD HBk.out)
                have HOV := hide (show V.ownsRow w.heap.size 99 7 (.slice A m c) m (flatP outs) by rw [← hV]; exact HO3.out)
                have HPV := hide (show V.heap[pb]? = some (.cells (pc p).toArray 99 (0, 0)) by rw [← hV]; exact HP3.out)
                have vp1 : V.cell? ⟨pb, 1, none⟩ = some (.int .i64 p.rank) := (blk_cell HPV.out 1).trans rfl
                have lpv := blk_lt HPV.out
                obtain ⟨bq, oq, hAq, _, q0, q1, q2, q3, q4, q5, q6⟩ := (owns_RdP HOV.out HOL.out) k q HQK.out
                subst hAq
                refine wp_region_still_lit (by kernel_rfl) (by kernel_rfl) ?_
                change wpStill _ _ (wr).drew (fun a' => Exit.then _ _ Exit.normal a' (wr).drew) _ _
                rw [hV]
                clear hV
                with_reducible refine stTake (v := ?_) (by kernel_rfl) ?_ ?_; rotate_left
                · (go_simp; (try with_reducible rfl))
                (try simp only [Act.put, zl, List.set_cons_zero, List.set_cons_succ])
                with_reducible refine stTake (v := ?_) (by kernel_rfl) ?_ ?_; rotate_left
                · (go_simp; (try with_reducible rfl))
                (try simp only [Act.put, zl, List.set_cons_zero, List.set_cons_succ])
                with_reducible refine stTake (v := ?_) (by kernel_rfl) ?_ ?_; rotate_left
                · (go_simp; (try simp only [Pa1.out, Pa1'.out]); (try with_reducible rfl))
                (try simp only [Act.put, zl, List.set_cons_zero, List.set_cons_succ])
                with_reducible refine stTake (v := ?_) (by kernel_rfl) ?_ ?_; rotate_left
                · (go_simp; (try with_reducible rfl))
                (try simp only [Act.put, zl, List.set_cons_zero, List.set_cons_succ])
                with_reducible refine stTake (v := ?_) (by kernel_rfl) ?_ ?_; rotate_left
                · (go_simp; (try with_reducible rfl))
                (try simp only [Act.put, zl, List.set_cons_zero, List.set_cons_succ])
                with_reducible refine stTake (v := ?_) (by kernel_rfl) ?_ ?_; rotate_left
                · (go_simp; (try with_reducible rfl))
                (try simp only [Act.put, zl, List.set_cons_zero, List.set_cons_succ])
                with_reducible refine stTake (v := ?_) (by kernel_rfl) ?_ ?_; rotate_left
                · (go_simp; (try with_reducible rfl))
                (try simp only [Act.put, zl, List.set_cons_zero, List.set_cons_succ])
                with_reducible refine stTake (v := ?_) (by kernel_rfl) ?_ ?_; rotate_left
                · (go_simp; (try with_reducible rfl))
                (try simp only [Act.put, zl, List.set_cons_zero, List.set_cons_succ])
                with_reducible refine stTake (v := ?_) (by kernel_rfl) ?_ ?_; rotate_left
                · (go_simp; (try with_reducible rfl))
                (try simp only [Act.put, zl, List.set_cons_zero, List.set_cons_succ])
                with_reducible refine stTake (v := ?_) (by kernel_rfl) ?_ ?_; rotate_left
                · (go_simp; (try simp only [Pa2.out, Pa2'.out]); (try with_reducible rfl))
                (try simp only [Act.put, zl, List.set_cons_zero, List.set_cons_succ])
                with_reducible refine stTake (v := ?_) (by kernel_rfl) ?_ ?_; rotate_left
                · (go_simp; (try with_reducible rfl))
                (try simp only [Act.put, zl, List.set_cons_zero, List.set_cons_succ])
                with_reducible refine stSkip (by kernel_rfl) ?_
                (try simp only [Act.put, zl, List.set_cons_zero, List.set_cons_succ])
                with_reducible refine stSkip (by kernel_rfl) ?_
                (try simp only [Act.put, zl, List.set_cons_zero, List.set_cons_succ])
                with_reducible refine stSkip (by kernel_rfl) ?_
                (try simp only [Act.put, zl, List.set_cons_zero, List.set_cons_succ])
                with_reducible refine stSkip (by kernel_rfl) ?_
                (try simp only [Act.put, zl, List.set_cons_zero, List.set_cons_succ])
                with_reducible refine stSkip (by kernel_rfl) ?_
                (try simp only [Act.put, zl, List.set_cons_zero, List.set_cons_succ])
                with_reducible refine stSkip (by kernel_rfl) ?_
                (try simp only [Act.put, zl, List.set_cons_zero, List.set_cons_succ])
                with_reducible refine stSkip (by kernel_rfl) ?_
                (try simp only [Act.put, zl, List.set_cons_zero, List.set_cons_succ])
                with_reducible refine stSkip (by kernel_rfl) ?_
                (try simp only [Act.put, zl, List.set_cons_zero, List.set_cons_succ])
                with_reducible refine stTake (v := ?_) (by kernel_rfl) ?_ ?_; rotate_left
                · (go_simp; (try with_reducible rfl))
                (try simp only [Act.put, zl, List.set_cons_zero, List.set_cons_succ])
                with_reducible refine stTake (v := ?_) (by kernel_rfl) ?_ ?_; rotate_left
                · (go_simp; (try with_reducible rfl))
                (try simp only [Act.put, zl, List.set_cons_zero, List.set_cons_succ])
                refine wpStill_nil ?_
                have hbf : E.before p.rank q = true := by unfold E.before; rw [Pa1.out, show decide (q.rank = 0) = true from Pa2'.out]; rfl
                clear vp1 lpv q0 q1 q2 q3 q4 q5 q6
                go_wp2_with fail
                go_roundw
                case rel => exact ⟨k, k, by omega, rfl, by go_num, hide (by rw [E.scan_step HQK.out, hbf]; rfl), HOV, HPV, HB4⟩
                case measure => simp [intOf]
    · have hin2 : i = nn := by omega
      subst hin2
      go_wp2_with fail
      go_ret
      exact ⟨A, m, c, rfl, by rw [← HOL.out, HOE.out, List.take_of_length_le (by rw [HN.out]; exact Nat.le_refl _)], by have h := HO1.out; rw [HOE.out, List.take_of_length_le (by rw [HN.out]; exact Nat.le_refl _)] at h; exact h, HB1.out⟩
theorem orderP_holds : OrderP := fun An nn cn ps A2 n2 c2 bk A3 n3 c3 w hn hr hm => order_ref An nn cn ps A2 n2 c2 bk A3 n3 c3 w hn hr hm
end Go.Proofs.Ytdhaalonnmajkaa

namespace Go.Proofs.Ytdhaalonnmajkaa
open Go.RowKit Go.Sort
attribute [local go_sem ↓] Go.wp_at_zero Go.wp_at_succ

theorem any_take_step {os : List E.Rp} {k : Nat} {q : E.Rp} {v : Int} (h : os[k]? = some q) : ((os.take (k + 1)).any fun p => p.player == v) = (((os.take k).any fun p => p.player == v) || decide (q.player = v)) := by
  rw [List.take_add_one, h, List.any_append]
  show (_ || ([q].any _)) = _
  rw [List.any_cons, List.any_nil, Bool.or_false]
  rfl
theorem any_take_no {os : List E.Rp} {k : Nat} {q : E.Rp} {v : Int} (hn : (os.map E.Rp.player).Nodup) (h : os[k]? = some q) (hq : q.player = v) : ((os.take k).any fun p => p.player == v) = false := by
  rw [Bool.eq_false_iff]
  intro e
  obtain ⟨p, hp, e2⟩ := List.any_eq_true.1 e
  obtain ⟨j, hj⟩ := List.mem_iff_getElem?.1 hp
  rw [List.getElem?_take] at hj
  split at hj
  · rename_i hjk
    have h1 : (os.map E.Rp.player)[j]? = some v := by rw [List.getElem?_map, hj]; simp [beq_iff_eq.1 e2]
    have h2 : (os.map E.Rp.player)[k]? = some v := by rw [List.getElem?_map, h]; simp [hq]
    have hl : j < (os.map E.Rp.player).length := (List.getElem?_eq_some_iff.1 h1).1
    have := (List.getElem?_inj hl hn).1 (h1.trans h2.symm)
    omega
  · cases hj
def insF (os : List E.Rp) (ins : List Int) : List Int := ins.filter fun k => os.any fun p => p.player == k
theorem insF_length (os : List E.Rp) (ins : List Int) : (insF os ins).length ≤ ins.length := List.length_filter_le _ _
theorem insF_step {os : List E.Rp} {ins : List Int} {i : Nat} {v : Int} (h : ins[i]? = some v) : insF os (ins.take (i + 1)) = insF os (ins.take i) ++ (if (os.any fun p => p.player == v) = true then [v] else []) := by
  unfold insF
  rw [List.take_add_one, h, List.filter_append]
  congr 1
  show List.filter _ [v] = _
  rw [List.filter_cons, List.filter_nil]
def slLen : Value → Nat
  | .slice _ n _ => n
  | _ => 0
theorem rguards_step {os : List E.Rp} {k : Nat} {q : E.Rp} {m : List Int} (h : os[k]? = some q) : E.rguards (os.take (k + 1)) m = E.rguards (os.take k) m + (if (q.grd && m.contains q.player) = true then 1 else 0) := by
  unfold E.rguards
  rw [List.take_add_one, h, List.filter_append, List.length_append]
  show ((_ + (List.filter _ [q]).length : Nat) : Int) = _
  rw [List.filter_cons, List.filter_nil]
  cases (q.grd && m.contains q.player) <;> simp
theorem rguards_le (l : List E.Rp) (m : List Int) : 0 ≤ E.rguards l m ∧ E.rguards l m ≤ (l.length : Int) := by
  unfold E.rguards
  have := List.length_filter_le (fun p : E.Rp => p.grd && m.contains p.player) l
  omega
def nextP (f : E.Fd) (l : List E.Rp) (m : List Int) (p : E.Rp) : Bool := p.sgn && !m.contains p.player && (!p.grd || decide (E.rguards l m < f.guards))
def nextV (f : E.Fd) (l : List E.Rp) (m : List Int) (k : Nat) : Int := match (l.drop k).find? (nextP f l m) with | some p => p.player | none => -1
theorem nextV_step {f : E.Fd} {l : List E.Rp} {m : List Int} {k : Nat} {q : E.Rp} (h : l[k]? = some q) : nextV f l m k = if nextP f l m q = true then q.player else nextV f l m (k + 1) := by
  obtain ⟨h1, h2⟩ := List.getElem?_eq_some_iff.1 h
  unfold nextV
  rw [List.drop_eq_getElem_cons h1, h2, List.find?_cons]
  cases nextP f l m q <;> rfl
theorem nextV_zero (f : E.Fd) (l : List E.Rp) (m : List Int) : nextV f l m 0 = match E.rnext f l m with | some p => p.player | none => -1 := rfl
theorem filter_less {α : Type} (P Q : α → Bool) (hQ : ∀ a, Q a = true → P a = true) : ∀ (l : List α) (x : α), x ∈ l → P x = true → Q x = false → (l.filter Q).length + 1 ≤ (l.filter P).length
  | a :: l, x, hx, h1, h2 => by
    have hle : ∀ l : List α, (l.filter Q).length ≤ (l.filter P).length := by
      intro l
      induction l with
      | nil => exact Nat.le_refl _
      | cons b r ih =>
        rw [List.filter_cons, List.filter_cons]
        by_cases hb : Q b = true
        · rw [if_pos hb, if_pos (hQ b hb), List.length_cons, List.length_cons]; omega
        · rw [if_neg hb]
          split <;> (try simp only [List.length_cons]) <;> omega
    rw [List.filter_cons, List.filter_cons]
    rcases List.mem_cons.1 hx with e | e
    · subst e
      rw [if_pos h1, if_neg (by rw [h2]; decide)]
      have := hle l
      rw [List.length_cons]; omega
    · have := filter_less P Q hQ l x e h1 h2
      by_cases hb : Q a = true
      · rw [if_pos hb, if_pos (hQ a hb), List.length_cons, List.length_cons]; omega
      · rw [if_neg hb]
        split <;> (try simp only [List.length_cons]) <;> omega
theorem rnext_spec {f : E.Fd} {l : List E.Rp} {m : List Int} {p : E.Rp} (h : E.rnext f l m = some p) : p ∈ l ∧ m.contains p.player = false := by
  unfold E.rnext at h
  refine ⟨List.mem_of_find?_eq_some h, ?_⟩
  have h2 := List.find?_some h
  simp only [Bool.and_eq_true, Bool.not_eq_true'] at h2
  exact h2.1.2
theorem left_less {f : E.Fd} {l : List E.Rp} {m : List Int} {p : E.Rp} (h : E.rnext f l m = some p) : (l.filter fun q => !(m ++ [p.player]).contains q.player).length + 1 ≤ (l.filter fun q => !m.contains q.player).length := by
  obtain ⟨h1, h2⟩ := rnext_spec h
  refine filter_less _ _ (fun a ha => ?_) l p h1 (by simp only [h2]; rfl) (by simp)
  simp only [Bool.not_eq_true', List.contains_eq_mem, decide_eq_false_iff_not, List.mem_append] at ha ⊢
  exact fun c => ha (.inl c)

set_option maxHeartbeats 6400000 in
set_option maxRecDepth 100000 in
theorem later_ref (f : E.Fd) (An : Option Addr) (nn cn : Nat) (ps : List E.Rp) (A2 : Option Addr) (n2 c2 : Nat) (bk : Int) (A3 : Option Addr) (n3 c3 : Nat) (ins : List Int) (w : World) (hn : ps.length = nn) (hr : RdP w w.heap.size An ps) (hm : nn ≤ 200) (hn3 : ins.length = n3) (hr3 : RdI w w.heap.size A3 ins) (hm3 : n3 ≤ 400)
    (hnd : ((ordF ps).map E.Rp.player).Nodup) (hpos : ∀ p ∈ ordF ps, 0 ≤ p.player) (hp : 0 ≤ f.places ∧ f.places ≤ 1000) (hb : 0 ≤ bk ∧ bk ≤ 1000) :
    Calls Try.prog 70 #[.agg #[.int .i64 f.places, .int .i64 f.wilds, .int .i64 f.guards, .int .i64 f.close, .int .i64 f.freeze], .agg #[.slice An nn cn, .slice A2 n2 c2, .int .i64 bk, .slice A3 n3 c3]] w fun e w' => ∃ A m c, e = .returned (.agg #[.slice An nn cn, .slice A2 n2 c2, .int .i64 bk, .slice A m c]) ∧ (E.rlater f bk (ordF ps) 200 (insF (ordF ps) ins)).length = m ∧ w'.ownsRow w.heap.size 3 1 (.slice A m c) m (flatI (E.rlater f bk (ordF ps) 200 (insF (ordF ps) ins))) ∧ Below w.heap.size w w' := by
  have HN := hide hn
  have HR := hide hr
  have HM := hide hm
  have HN3 := hide hn3
  have HR3 := hide hr3
  have HM3 := hide hm3
  have HND0 := hide hnd
  have HPOS0 := hide hpos
  clear hn hr hm hn3 hr3 hm3 hnd hpos
  have hwp : IntKind.i64.wrap (f.places + bk) = f.places + bk := IntWalk.i64_in _ (by omega)
  have HWP := hide hwp
  clear hwp
  go_enter Try.func70, Try.ntmps70
  go_upto_region 1 with fail
  obtain ⟨w0, hw0⟩ : ∃ q, ((w.alloc (.cells #[.int .i64 f.places, .int .i64 f.wilds, .int .i64 f.guards, .int .i64 f.close, .int .i64 f.freeze] 23)).alloc (.cells #[.slice An nn cn, .slice A2 n2 c2, .int .i64 bk, .slice A3 n3 c3] 78)).alloc (.cells #[.slice none 0 0, .slice none 0 0, .int .i64 0, .slice none 0 0] 78) = q := ⟨_, rfl⟩
  have HB0 := hide (show Below w.heap.size w w0 by rw [← hw0]; (repeat' first | exact zbR _ _ | assumption | refine zbD ?_ | refine zbA ?_ ?_ _ | refine zbS ?_ ?_ _ | refine zbT ?_ (by assumption) ?_ | (simp; done) | (simp; omega) | omega))
  have HF0 := hide (show w0.heap[w.heap.size]? = some (.cells #[.int .i64 f.places, .int .i64 f.wilds, .int .i64 f.guards, .int .i64 f.close, .int .i64 f.freeze] 23 (0, 0)) by rw [← hw0]; exact (Below.heap_alloc _ _ _ (by first | (simp; done) | (simp; omega) | omega)).trans ((Below.heap_alloc _ _ _ (by first | (simp; done) | (simp; omega) | omega)).trans (World.alloc_heap_new _ _)))
  have HS0 := hide (show w0.heap[w.heap.size + 1]? = some (.cells #[.slice An nn cn, .slice A2 n2 c2, .int .i64 bk, .slice A3 n3 c3] 78 (0, 0)) by rw [← hw0]; exact (Below.heap_alloc _ _ _ (by first | (simp; done) | (simp; omega) | omega)).trans ((congrArg _ (by simp)).trans (World.alloc_heap_new _ _)))
  have HT0 := hide (show w0.heap[w.heap.size + 1 + 1]? = some (.cells #[.slice none 0 0, .slice none 0 0, .int .i64 0, .slice none 0 0] 78 (0, 0)) by rw [← hw0]; exact (congrArg _ (by simp)).trans (World.alloc_heap_new _ _))
  rw [hw0]
  clear hw0
  have HR0 := hide ((HR.out.below HB0.out).mono HB0.out.size)
  have s0 : w0.cell? ⟨w.heap.size + 1, 0, none⟩ = some (.slice An nn cn) := (blk_cell HS0.out 0).trans rfl
  have s1 : w0.cell? ⟨w.heap.size + 1, 1, none⟩ = some (.slice A2 n2 c2) := (blk_cell HS0.out 1).trans rfl
  have s2 : w0.cell? ⟨w.heap.size + 1, 2, none⟩ = some (.int .i64 bk) := (blk_cell HS0.out 2).trans rfl
  have s3 : w0.cell? ⟨w.heap.size + 1, 3, none⟩ = some (.slice A3 n3 c3) := (blk_cell HS0.out 3).trans rfl
  have ls := blk_lt HS0.out
  have hm4' := HM.out
  go_upto_region 3 with (go_at_call 49; refine (order_ref An nn cn ps A2 n2 c2 bk A3 n3 c3 w0 HN.out HR0.out (by omega)).mono ?_; rintro e w1 ⟨B0, m, c, rfl, hlen, hown, hb1⟩; have HLO := hide hlen; have HOO := hide hown; have HB1 := hide hb1; clear hlen hown hb1)
  clear s0 s1 s2 s3 ls
  obtain ⟨os, hos⟩ : ∃ q, ordF ps = q := ⟨_, rfl⟩
  have HOS := hide hos
  have HND := hide (show (os.map E.Rp.player).Nodup by rw [← hos]; exact HND0.out)
  have HPOS := hide (show ∀ p ∈ os, 0 ≤ p.player by rw [← hos]; exact HPOS0.out)
  rw [hos] at HLO HOO
  clear hos HND0 HPOS0
  have HM4 := hide (show m ≤ 200 by have h1 := ordF_length ps; rw [HOS.out, HLO.out, HN.out] at h1; omega)
  have HRO := hide (owns_RdP HOO.out HLO.out)
  have HB01 := hide (zbT HB0.out HB1.out HB0.out.size)
  have HF1 := hide ((HB1.out.block _ (blk_lt HF0.out)).trans HF0.out)
  have HS1 := hide ((HB1.out.block _ (blk_lt HS0.out)).trans HS0.out)
  have HT1 := hide ((HB1.out.block _ (blk_lt HT0.out)).trans HT0.out)
  have HR31 := hide ((HR3.out.below HB01.out).mono HB01.out.size)
  clear HF0 HS0 HT0 HR0 HM HR3
  go_wp2_with fail
  go_loopw [6, 7] (fun bf i wr => ∃ (i' : Nat) (B : Option Addr) (k c4 : Nat) (outs : List Int), i' ≤ n3 ∧ bf = .slice B k c4 ∧ i = .int .i64 i' ∧ Hid (outs.length = k) ∧ Hid (outs = insF os (ins.take i')) ∧ Hid (wr.ownsRow w1.heap.size 3 1 (.slice B k c4) k (flatI outs)) ∧ Hid (Below w1.heap.size w1 wr)) (fun _ i _ => n3 - (intOf i).toNat)
  case atStart => exact ⟨0, none, 0, 0, [], by omega, rfl, rfl, hide rfl, hide rfl, hide ⟨rfl, .inl ⟨rfl, rfl⟩⟩, hide (Below.refl _ _)⟩
  case round =>
    obtain ⟨i, B, k, c4, outs, hi, rfl, rfl, HL, HEo, HO, HBR⟩ := hrel
    have hm4 := HM4.out
    have hn3 := HM3.out
    have hk4 : k ≤ i := by have h := insF_length os (ins.take i); rw [← HEo.out, HL.out, List.length_take] at h; omega
    have HSR := hide ((HBR.out.block _ (blk_lt HS1.out)).trans HS1.out)
    have y3 : wr.cell? ⟨w.heap.size + 1, 3, none⟩ = some (.slice A3 n3 c3) := (blk_cell HSR.out 3).trans rfl
    have ly := blk_lt HSR.out
    by_cases hin : i < n3
    · obtain ⟨v, hv⟩ : ∃ q, ins[i]? = some q := ⟨_, List.getElem?_eq_getElem (by have := HN3.out; omega)⟩
      have HVK := hide hv
      have HIS := hide (insF_step (os := os) hv)
      obtain ⟨b3, o3, hA3, hb3, cv3⟩ := HR31.out i v hv
      subst hA3
      have HB3L := hide hb3
      have HV3 := hide cv3
      clear hv hb3 cv3
      have hi1 : (i : Int) < (n3 : Int) := by omega
      have hi0 : (0 : Int) ≤ (i : Int) := by omega
      go_wp2_with fail
      clear y3 ly HSR
      obtain ⟨outs0, hou⟩ : ∃ q, outs = q := ⟨_, rfl⟩
      have HK0 := hide (show outs0.length = k by rw [← hou]; exact HL.out)
      rw [hou] at HL HEo HO
      clear hou outs
      go_loopw [6, 8] (fun bf kk wr => ∃ (kk' : Nat) (B : Option Addr) (k c4 : Nat) (outs : List Int), kk' ≤ m ∧ bf = .slice B k c4 ∧ kk = .int .i64 kk' ∧ Hid (outs.length = k) ∧ Hid (outs = outs0 ++ (if ((os.take kk').any fun p => p.player == v) = true then [v] else [])) ∧ Hid (wr.ownsRow w1.heap.size 3 1 (.slice B k c4) k (flatI outs)) ∧ Hid (Below w1.heap.size w1 wr)) (fun _ kk _ => m - (intOf kk).toNat)
      case atStart => exact ⟨0, B, k, c4, outs0, by omega, rfl, rfl, HL, hide (by simp), HO, HBR⟩
      case round =>
        clear HO HBR HL
        obtain ⟨kk, B, k, c4, outs, hkk, rfl, rfl, HL, HE, HO, HBR⟩ := hrel
        have hk5 : k ≤ 401 := by have h := congrArg List.length HE.out; rw [List.length_append, HL.out, HK0.out] at h; split at h <;> simp at h <;> omega
        by_cases hkn : kk < m
        · obtain ⟨q, hq⟩ : ∃ q, os[kk]? = some q := ⟨_, List.getElem?_eq_getElem (by have := HLO.out; omega)⟩
          have HQK := hide hq
          clear hq
          have hk1 : (kk : Int) < (m : Int) := by omega
          have hk0 : (0 : Int) ≤ (kk : Int) := by omega
          go_upto_region 9 with fail
          obtain ⟨a1, hba1⟩ : ∃ b, (q.player == v) = b := ⟨_, rfl⟩
          have Pa1 := hide hba1
          have Pa1' := hide (show decide (q.player = v) = a1 from hba1)
          clear hba1
          cases a1
          · obtain ⟨V, hV⟩ : ∃ V, (wr).drew = V := ⟨_, rfl⟩
            have HBV := hide (show Below w1.heap.size w1 V by rw [← hV]; exact zbD HBR.out)
            have HOV := hide (show V.ownsRow w1.heap.size 3 1 (.slice B k c4) k (flatI outs) by rw [← hV]; exact HO.out)
            have HSV := hide ((HBV.out.block _ (blk_lt HS1.out)).trans HS1.out)
            have vs3 : V.cell? ⟨w.heap.size + 1, 3, none⟩ = some (.slice (some ⟨b3, o3, none⟩) n3 c3) := (blk_cell HSV.out 3).trans rfl
            have lvs := blk_lt HSV.out
            have v3 := (HBV.out.cell (p := ⟨b3, _, none⟩) HB3L.out).trans HV3.out
            have lv3 := Nat.lt_of_lt_of_le HB3L.out HBV.out.size
            obtain ⟨bq, oq, hAq, lbq, q0, q1, q2, q3, q4, q5, q6⟩ := (HRO.out.below HBV.out) kk q HQK.out
            subst hAq
            have lbv := Nat.lt_of_lt_of_le lbq HBV.out.size
            clear q1 q2 q3 q4 q5 q6
            refine wp_region_still_lit (by kernel_rfl) (by kernel_rfl) ?_
            change wpStill _ _ (wr).drew (fun a' => Exit.then _ _ Exit.normal a' (wr).drew) _ _
            rw [hV]
            clear hV
            with_reducible refine stTake (v := ?_) (by kernel_rfl) ?_ ?_; rotate_left
            · (go_simp; (try with_reducible rfl))
            (try simp only [Act.put, zl, List.set_cons_zero, List.set_cons_succ])
            with_reducible refine stTake (v := ?_) (by kernel_rfl) ?_ ?_; rotate_left
            · (go_simp; (try with_reducible rfl))
            (try simp only [Act.put, zl, List.set_cons_zero, List.set_cons_succ])
            with_reducible refine stTake (v := ?_) (by kernel_rfl) ?_ ?_; rotate_left
            · (go_simp; (try with_reducible rfl))
            (try simp only [Act.put, zl, List.set_cons_zero, List.set_cons_succ])
            with_reducible refine stTake (v := ?_) (by kernel_rfl) ?_ ?_; rotate_left
            · (go_simp; (try with_reducible rfl))
            (try simp only [Act.put, zl, List.set_cons_zero, List.set_cons_succ])
            with_reducible refine stTake (v := ?_) (by kernel_rfl) ?_ ?_; rotate_left
            · (go_simp; (try with_reducible rfl))
            (try simp only [Act.put, zl, List.set_cons_zero, List.set_cons_succ])
            with_reducible refine stTake (v := ?_) (by kernel_rfl) ?_ ?_; rotate_left
            · (go_simp; (try with_reducible rfl))
            (try simp only [Act.put, zl, List.set_cons_zero, List.set_cons_succ])
            with_reducible refine stTake (v := ?_) (by kernel_rfl) ?_ ?_; rotate_left
            · (go_simp; (try with_reducible rfl))
            (try simp only [Act.put, zl, List.set_cons_zero, List.set_cons_succ])
            with_reducible refine stTake (v := ?_) (by kernel_rfl) ?_ ?_; rotate_left
            · (go_simp; (try with_reducible rfl))
            (try simp only [Act.put, zl, List.set_cons_zero, List.set_cons_succ])
            with_reducible refine stTake (v := ?_) (by kernel_rfl) ?_ ?_; rotate_left
            · (go_simp; (try with_reducible rfl))
            (try simp only [Act.put, zl, List.set_cons_zero, List.set_cons_succ])
            with_reducible refine stTake (v := ?_) (by kernel_rfl) ?_ ?_; rotate_left
            · (go_simp; (try with_reducible rfl))
            (try simp only [Act.put, zl, List.set_cons_zero, List.set_cons_succ])
            with_reducible refine stTake (v := ?_) (by kernel_rfl) ?_ ?_; rotate_left
            · (go_simp; (try simp only [Pa1.out, Pa1'.out]); (try with_reducible rfl))
            (try simp only [Act.put, zl, List.set_cons_zero, List.set_cons_succ])
            refine wpStill_nil ?_
            clear vs3 lvs v3 lv3 q0 lbv
            go_wp2_with fail
            go_roundw
            case rel => exact ⟨kk + 1, B, k, c4, outs, by omega, rfl, by go_num, HL, hide (by rw [any_take_step HQK.out, Pa1'.out, Bool.or_false]; exact HE.out), HOV, HBV⟩
            case measure => simp [intOf]; omega
          · obtain ⟨V, hV⟩ : ∃ V, (wr).drew = V := ⟨_, rfl⟩
            have HBV := hide (show Below w1.heap.size w1 V by rw [← hV]; exact zbD HBR.out)
            have HOV := hide (show V.ownsRow w1.heap.size 3 1 (.slice B k c4) k (flatI outs) by rw [← hV]; exact HO.out)
            have HSV := hide ((HBV.out.block _ (blk_lt HS1.out)).trans HS1.out)
            have vs3 : V.cell? ⟨w.heap.size + 1, 3, none⟩ = some (.slice (some ⟨b3, o3, none⟩) n3 c3) := (blk_cell HSV.out 3).trans rfl
            have lvs := blk_lt HSV.out
            have v3 := (HBV.out.cell (p := ⟨b3, _, none⟩) HB3L.out).trans HV3.out
            have lv3 := Nat.lt_of_lt_of_le HB3L.out HBV.out.size
            obtain ⟨bq, oq, hAq, lbq, q0, q1, q2, q3, q4, q5, q6⟩ := (HRO.out.below HBV.out) kk q HQK.out
            subst hAq
            have lbv := Nat.lt_of_lt_of_le lbq HBV.out.size
            clear q1 q2 q3 q4 q5 q6
            refine wp_region_still_lit (by kernel_rfl) (by kernel_rfl) ?_
            change wpStill _ _ (wr).drew (fun a' => Exit.then _ _ Exit.normal a' (wr).drew) _ _
            rw [hV]
            clear hV
            with_reducible refine stTake (v := ?_) (by kernel_rfl) ?_ ?_; rotate_left
            · (go_simp; (try with_reducible rfl))
            (try simp only [Act.put, zl, List.set_cons_zero, List.set_cons_succ])
            with_reducible refine stTake (v := ?_) (by kernel_rfl) ?_ ?_; rotate_left
            · (go_simp; (try with_reducible rfl))
            (try simp only [Act.put, zl, List.set_cons_zero, List.set_cons_succ])
            with_reducible refine stTake (v := ?_) (by kernel_rfl) ?_ ?_; rotate_left
            · (go_simp; (try with_reducible rfl))
            (try simp only [Act.put, zl, List.set_cons_zero, List.set_cons_succ])
            with_reducible refine stTake (v := ?_) (by kernel_rfl) ?_ ?_; rotate_left
            · (go_simp; (try with_reducible rfl))
            (try simp only [Act.put, zl, List.set_cons_zero, List.set_cons_succ])
            with_reducible refine stTake (v := ?_) (by kernel_rfl) ?_ ?_; rotate_left
            · (go_simp; (try with_reducible rfl))
            (try simp only [Act.put, zl, List.set_cons_zero, List.set_cons_succ])
            with_reducible refine stTake (v := ?_) (by kernel_rfl) ?_ ?_; rotate_left
            · (go_simp; (try with_reducible rfl))
            (try simp only [Act.put, zl, List.set_cons_zero, List.set_cons_succ])
            with_reducible refine stTake (v := ?_) (by kernel_rfl) ?_ ?_; rotate_left
            · (go_simp; (try with_reducible rfl))
            (try simp only [Act.put, zl, List.set_cons_zero, List.set_cons_succ])
            with_reducible refine stTake (v := ?_) (by kernel_rfl) ?_ ?_; rotate_left
            · (go_simp; (try with_reducible rfl))
            (try simp only [Act.put, zl, List.set_cons_zero, List.set_cons_succ])
            with_reducible refine stTake (v := ?_) (by kernel_rfl) ?_ ?_; rotate_left
            · (go_simp; (try with_reducible rfl))
            (try simp only [Act.put, zl, List.set_cons_zero, List.set_cons_succ])
            with_reducible refine stTake (v := ?_) (by kernel_rfl) ?_ ?_; rotate_left
            · (go_simp; (try with_reducible rfl))
            (try simp only [Act.put, zl, List.set_cons_zero, List.set_cons_succ])
            with_reducible refine stTake (v := ?_) (by kernel_rfl) ?_ ?_; rotate_left
            · (go_simp; (try simp only [Pa1.out, Pa1'.out]); (try with_reducible rfl))
            (try simp only [Act.put, zl, List.set_cons_zero, List.set_cons_succ])
            refine wpStill_nil ?_
            clear q0
            go_wp2_with (at_builtin; refine wpList_app_at rfl (.tmp 39) (.tmp 45) rfl w1.heap.size (.slice B k c4) outs k rfl (HOV.out.alloc _) (some ⟨_, 0, none⟩) 1 1 [v] rfl rfl (rdI_one (World.alloc_heap_new _ _)) (fun e => by cases e) (by omega) (by omega) (by have := HBV.out.size; simp; omega) ?_; intro B5 c5 w9 hown2 hgrow; have HO5 := hide hown2; have HB9 := hide ((zbA HBV.out HBV.out.size _).trans (grown_below (B := w1.heap.size) hgrow (by have := HBV.out.size; simp; omega) (fun g hg => (HOV.out.lt g hg).1))); clear hown2 hgrow)
            go_roundw
            case rel => exact ⟨kk + 1, B5, k + 1, c5, outs ++ [v], by omega, rfl, by go_num, hide (by simp [HL.out]), hide (by have h := HE.out; rw [any_take_step HQK.out, Pa1'.out]; rw [any_take_no HND.out HQK.out (of_decide_eq_true Pa1'.out)] at h; rw [h]; simp), HO5, HB9⟩
            case measure => simp [intOf]; omega
        · have hkm : kk = m := by omega
          subst hkm
          go_wp2_with fail
          go_roundw
          case rel => exact ⟨i + 1, B, k, c4, outs, by omega, rfl, by go_num, HL, hide (by rw [HIS.out, ← HEo.out, HE.out, List.take_of_length_le (by rw [HLO.out]; exact Nat.le_refl _)]), HO, HBR⟩
          case measure => simp [intOf]; omega
    · have hin2 : n3 = i := by omega
      subst hin2
      have HE1 := hide (show outs = insF os ins by rw [HEo.out, List.take_of_length_le (by rw [HN3.out]; exact Nat.le_refl _)])
      have hi2 : (n3 : Int) ≤ (n3 : Int) := Int.le_refl _
      go_wp2_with fail
      clear y3 ly HSR
      go_loopw [6] (fun bf wr => ∃ (n : Nat) (B : Option Addr) (k c4 : Nat) (outs : List Int), bf = .slice B k c4 ∧ Hid (outs.length = k ∧ k + n ≤ 600) ∧ Hid (E.rlater f bk os n outs = E.rlater f bk os 200 (insF os ins)) ∧ Hid ((os.filter fun p => !outs.contains p.player).length ≤ n) ∧ Hid (wr.ownsRow w1.heap.size 3 1 (.slice B k c4) k (flatI outs)) ∧ Hid (Below w1.heap.size w1 wr)) (fun bf _ => 600 - slLen bf)
      case atStart => exact ⟨200, B, k, c4, outs, rfl, hide ⟨HL.out, by omega⟩, hide (by rw [HE1.out]), hide (by have h := List.length_filter_le (fun p : E.Rp => !outs.contains p.player) os; rw [HLO.out] at h; omega), HO, HBR⟩
      case round =>
        clear HL HEo HO HBR HE1 hk4
        obtain ⟨n, B, k, c4, outs, rfl, HL, HE, HLT, HO, HBR⟩ := hrel
        have hk4 : k ≤ 600 := by have := HL.out; omega
        have HFR := hide ((HBR.out.block _ (blk_lt HF1.out)).trans HF1.out)
        have HSR := hide ((HBR.out.block _ (blk_lt HS1.out)).trans HS1.out)
        have x0 : wr.cell? ⟨w.heap.size, 0, none⟩ = some (.int .i64 f.places) := (blk_cell HFR.out 0).trans rfl
        have lx := blk_lt HFR.out
        have y2 : wr.cell? ⟨w.heap.size + 1, 2, none⟩ = some (.int .i64 bk) := (blk_cell HSR.out 2).trans rfl
        have ly := blk_lt HSR.out
        have hwp := HWP.out
        by_cases hpl : (k : Int) < f.places + bk
        · go_wp2_with fail
          clear x0 y2 lx ly hwp HFR HSR
          go_loopw [9, 10] (fun gg kk wr => ∃ (kk' : Nat) (g : Int), kk' ≤ m ∧ gg = .int .i64 g ∧ kk = .int .i64 kk' ∧ Hid (g = E.rguards (os.take kk') outs) ∧ Hid (wr.ownsRow w1.heap.size 3 1 (.slice B k c4) k (flatI outs)) ∧ Hid (Below w1.heap.size w1 wr)) (fun _ kk _ => m - (intOf kk).toNat)
          case atStart => exact ⟨0, 0, by omega, rfl, rfl, hide rfl, HO, HBR⟩
          case round =>
            clear HO HBR
            obtain ⟨kk, g, hkk, rfl, rfl, HG, HO, HBR⟩ := hrel
            have hgb : 0 ≤ g ∧ g ≤ 200 := by have h := rguards_le (os.take kk) outs; rw [← HG.out, List.length_take] at h; omega
            by_cases hkn : kk < m
            · obtain ⟨q, hq⟩ : ∃ q, os[kk]? = some q := ⟨_, List.getElem?_eq_getElem (by have := HLO.out; omega)⟩
              have HQK := hide hq
              have HGS := hide (rguards_step (m := outs) hq)
              clear hq
              have hk1 : (kk : Int) < (m : Int) := by omega
              have hk0 : (0 : Int) ≤ (kk : Int) := by omega
              obtain ⟨bq, oq, hA, hbq, d0, d1, d2, d3, d4, d5, d6⟩ := (HRO.out.below HBR.out) kk q HQK.out
              subst hA
              have hlq : bq < wr.heap.size := Nat.lt_of_lt_of_le hbq HBR.out.size
              cases hgx : q.grd
              · have HGF := hide hgx
                have d2' : wr.cell? ⟨bq, oq + kk * 7 + 2, none⟩ = some (.bool false) := by rw [d2, hgx]
                clear d2 hgx
                go_wp2_with fail
                go_roundw
                case rel => exact ⟨kk + 1, g, by omega, rfl, by go_num, hide (by rw [HGS.out, ← HG.out, HGF.out, Bool.false_and]; simp), HO, HBR⟩
                case measure => simp [intOf]; omega
              · have HGF := hide hgx
                have d2' : wr.cell? ⟨bq, oq + kk * 7 + 2, none⟩ = some (.bool true) := by rw [d2, hgx]
                clear d2 hgx
                cases hc : outs.contains q.player
                · have HC := hide hc
                  clear hc
                  go_wp2_with (go_at_call 50; refine (In_any B k c4 outs q.player _ HL.out.1 (owns_RdI HO.out HL.out.1) (by omega)).mono ?_; rintro e w7 ⟨rfl, rfl⟩; rw [HC.out])
                  go_roundw
                  case rel => exact ⟨kk + 1, g, by omega, rfl, by go_num, hide (by rw [HGS.out, ← HG.out, HGF.out, HC.out]; simp), HO, HBR⟩
                  case measure => simp [intOf]; omega
                · have HC := hide hc
                  clear hc
                  go_wp2_with (go_at_call 50; refine (In_any B k c4 outs q.player _ HL.out.1 (owns_RdI HO.out HL.out.1) (by omega)).mono ?_; rintro e w7 ⟨rfl, rfl⟩; rw [HC.out])
                  go_roundw
                  case rel => exact ⟨kk + 1, g + 1, by omega, by go_num, by go_num, hide (by rw [HGS.out, ← HG.out, HGF.out, HC.out]; simp), HO, HBR⟩
                  case measure => simp [intOf]; omega
            · have hkm : m = kk := by omega
              subst hkm
              have HGG := hide (show g = E.rguards os outs by rw [HG.out, List.take_of_length_le (by rw [HLO.out]; exact Nat.le_refl _)])
              have hm0 : (0 : Int) ≤ (m : Int) := by omega
              have hwm : IntKind.i64.wrap ((m : Int) - 1) = (m : Int) - 1 := IntWalk.i64_in _ (by omega)
              go_wp2_with fail
              clear hwm
              go_loopw [11, 12] (fun ff kk wr => ∃ (kn : Nat) (x : Int), kn ≤ m ∧ ff = .int .i64 x ∧ kk = .int .i64 ((kn : Int) - 1) ∧ Hid (x = nextV f os outs kn) ∧ Hid (wr.ownsRow w1.heap.size 3 1 (.slice B k c4) k (flatI outs)) ∧ Hid (Below w1.heap.size w1 wr)) (fun _ kk _ => (intOf kk + 1).toNat)
              case atStart => exact ⟨m, -1, Nat.le_refl _, rfl, rfl, hide (by unfold nextV; rw [List.drop_eq_nil_of_le (by rw [HLO.out]; exact Nat.le_refl _)]; rfl), HO, HBR⟩
              case round =>
                clear HO HBR
                obtain ⟨kn, x, hkn2, rfl, rfl, HX, HO, HBR⟩ := hrel
                by_cases hk0 : kn = 0
                · subst hk0
                  obtain ⟨rn, hrn⟩ : ∃ q, E.rnext f os outs = q := ⟨_, rfl⟩
                  cases rn with
                  | none =>
                    have hx1 : x = -1 := by rw [HX.out, nextV_zero, hrn]
                    subst hx1
                    have HRES := hide (show outs = E.rlater f bk os 200 (insF os ins) by
                      rw [← HE.out]
                      cases n with
                      | zero => rfl
                      | succ n => rw [E.rlater, if_pos (by have := HL.out; omega), hrn])
                    clear hrn HX
                    have HSR := hide ((HBR.out.block _ (blk_lt HS1.out)).trans HS1.out)
                    have HTR := hide ((HBR.out.block _ (blk_lt HT1.out)).trans HT1.out)
                    have y3 : wr.cell? ⟨w.heap.size + 1, 3, none⟩ = some (.slice A3 n3 c3) := (blk_cell HSR.out 3).trans rfl
                    have ly := blk_lt HSR.out
                    have fz := blk_frozen HSR.out 3
                    go_upto_region 27 with fail
                    obtain ⟨w8, hw8⟩ : ∃ q, wr.setCell ⟨w.heap.size + 1, 3, none⟩ (.slice B k c4) = q := ⟨_, rfl⟩
                    have HS8 := hide (show w8.heap[w.heap.size + 1]? = some (.cells #[.slice An nn cn, .slice A2 n2 c2, .int .i64 bk, .slice B k c4] 78 (0, 0)) by rw [← hw8]; exact blk_set HSR.out 3 _)
                    have HG8 := hide (show wr.grownBy w8 (some (w.heap.size + 1)) by rw [← hw8]; exact gr_set _ _ _ _)
                    have HT8 := hide ((HG8.out.block _ (blk_lt HTR.out) (fun e => by have := Option.some.inj e; omega)).trans HTR.out)
                    have HO8 := hide (HO.out.kept HG8.out (.inr (row_ne HO.out HSR.out (by decide))))
                    have HBW := hide (zbT HB01.out HBR.out HB01.out.size)
                    have HB8 := hide (HBW.out.trans (grown_below HG8.out HBW.out.size (fun g hg => by cases hg; omega)))
                    rw [hw8]
                    clear hw8 y3 ly fz
                    have s0 : w8.cell? ⟨w.heap.size + 1, 0, none⟩ = some (.slice An nn cn) := (blk_cell HS8.out 0).trans rfl
                    have s1 : w8.cell? ⟨w.heap.size + 1, 1, none⟩ = some (.slice A2 n2 c2) := (blk_cell HS8.out 1).trans rfl
                    have s2 : w8.cell? ⟨w.heap.size + 1, 2, none⟩ = some (.int .i64 bk) := (blk_cell HS8.out 2).trans rfl
                    have s3 : w8.cell? ⟨w.heap.size + 1, 3, none⟩ = some (.slice B k c4) := (blk_cell HS8.out 3).trans rfl
                    have ls := blk_lt HS8.out
                    have t0 : w8.cell? ⟨w.heap.size + 1 + 1, 0, none⟩ = some (.slice none 0 0) := (blk_cell HT8.out 0).trans rfl
                    have t1 : w8.cell? ⟨w.heap.size + 1 + 1, 1, none⟩ = some (.slice none 0 0) := (blk_cell HT8.out 1).trans rfl
                    have t2 : w8.cell? ⟨w.heap.size + 1 + 1, 2, none⟩ = some (.int .i64 0) := (blk_cell HT8.out 2).trans rfl
                    have t3 : w8.cell? ⟨w.heap.size + 1 + 1, 3, none⟩ = some (.slice none 0 0) := (blk_cell HT8.out 3).trans rfl
                    have lt := blk_lt HT8.out
                    have fz0 := blk_frozen HT8.out 0
                    have fz1 := blk_frozen HT8.out 1
                    have fz2 := blk_frozen HT8.out 2
                    have fz3 := blk_frozen HT8.out 3
                    go_wp2_with fail
                    obtain ⟨w9, hw9⟩ : ∃ q, (((w8.setCell ⟨w.heap.size + 1 + 1, 0, none⟩ (.slice An nn cn)).setCell ⟨w.heap.size + 1 + 1, 1, none⟩ (.slice A2 n2 c2)).setCell ⟨w.heap.size + 1 + 1, 2, none⟩ (.int .i64 bk)).setCell ⟨w.heap.size + 1 + 1, 3, none⟩ (.slice B k c4) = q := ⟨_, rfl⟩
                    have HT9 := hide (show w9.heap[w.heap.size + 1 + 1]? = some (.cells #[.slice An nn cn, .slice A2 n2 c2, .int .i64 bk, .slice B k c4] 78 (0, 0)) by rw [← hw9]; exact blk_set (blk_set (blk_set (blk_set HT8.out 0 _) 1 _) 2 _) 3 _)
                    have HG9 := hide (show w8.grownBy w9 (some (w.heap.size + 1 + 1)) by rw [← hw9]; exact gr_trans (gr_trans (gr_trans (gr_set _ _ _ _) (gr_set _ _ _ _)) (gr_set _ _ _ _)) (gr_set _ _ _ _))
                    have HO9 := hide (HO8.out.kept HG9.out (.inr (row_ne HO8.out HT8.out (by decide))))
                    have HB9 := hide (HB8.out.trans (grown_below HG9.out HB8.out.size (fun g hg => by cases hg; omega)))
                    rw [hw9]
                    clear hw9 s0 s1 s2 s3 t0 t1 t2 t3 fz0 fz1 fz2 fz3 ls lt
                    have r0 : w9.cell? ⟨w.heap.size + 1 + 1, 0, none⟩ = some (.slice An nn cn) := (blk_cell HT9.out 0).trans rfl
                    have r1 : w9.cell? ⟨w.heap.size + 1 + 1, 1, none⟩ = some (.slice A2 n2 c2) := (blk_cell HT9.out 1).trans rfl
                    have r2 : w9.cell? ⟨w.heap.size + 1 + 1, 2, none⟩ = some (.int .i64 bk) := (blk_cell HT9.out 2).trans rfl
                    have r3 : w9.cell? ⟨w.heap.size + 1 + 1, 3, none⟩ = some (.slice B k c4) := (blk_cell HT9.out 3).trans rfl
                    exact bodyPost_ret (v := .agg #[.slice An nn cn, .slice A2 n2 c2, .int .i64 bk, .slice B k c4]) (by simp [results, Try.results70, go_sem, r0, r1, r2, r3]) rfl ⟨B, k, c4, rfl, by rw [HOS.out, ← HRES.out]; exact HL.out.1, by rw [HOS.out, ← HRES.out]; exact owns_mono HO9.out HB01.out.size, HB9.out⟩
                  | some p =>
                    have hx1 : x = p.player := by rw [HX.out, nextV_zero, hrn]
                    subst hx1
                    have hp0 : 0 ≤ p.player := HPOS.out p (rnext_spec hrn).1
                    have hll := left_less hrn
                    obtain ⟨n', rfl⟩ : ∃ n', n = n' + 1 := ⟨n - 1, by have := HLT.out; omega⟩
                    have HE3 := hide (show E.rlater f bk os n' (outs ++ [p.player]) = E.rlater f bk os 200 (insF os ins) by
                      rw [← HE.out, E.rlater.eq_2, if_pos (by have := HL.out; omega), hrn])
                    have HLL := hide hll
                    clear hrn hll
                    go_wp2_with (at_builtin; refine wpList_app_at rfl (.tmp 120) (.tmp 122) rfl w1.heap.size (.slice B k c4) outs k rfl (HO.out.alloc _) (some ⟨_, 0, none⟩) 1 1 [p.player] rfl rfl (rdI_one (World.alloc_heap_new _ _)) (fun e => by cases e) (by omega) (by omega) (by have := HBR.out.size; simp; omega) ?_; intro B5 c5 w9 hown2 hgrow; have HO5 := hide hown2; have HB9 := hide ((zbA HBR.out HBR.out.size _).trans (grown_below (B := w1.heap.size) hgrow (by have := HBR.out.size; simp; omega) (fun g hg => (HO.out.lt g hg).1))); clear hown2 hgrow)
                    go_roundw
                    case rel => exact ⟨n', B5, k + 1, c5, outs ++ [p.player], rfl, hide ⟨by simp [HL.out.1], by have := HL.out; omega⟩, HE3, hide (by have h1 := HLL.out; have h2 := HLT.out; omega), HO5, HB9⟩
                    case measure => have := HL.out; simp [slLen]; omega
                · obtain ⟨kj, rfl⟩ : ∃ k, kn = k + 1 := ⟨kn - 1, by omega⟩
                  obtain ⟨q, hq⟩ : ∃ q, os[kj]? = some q := ⟨_, List.getElem?_eq_getElem (by have := HLO.out; omega)⟩
                  have HQK := hide hq
                  have HNS := hide (nextV_step (f := f) (m := outs) hq)
                  clear hq hk0
                  have hkm : kj < m := by omega
                  rw [show (((kj + 1 : Nat) : Int) - 1) = (kj : Int) from by omega]
                  have hk0 : (0 : Int) ≤ (kj : Int) := by omega
                  have hk1 : (kj : Int) < (m : Int) := by omega
                  have hkw : IntKind.i64.wrap ((kj : Int) - 1) = (kj : Int) - 1 := IntWalk.i64_in _ (by omega)
                  have HFR := hide ((HBR.out.block _ (blk_lt HF1.out)).trans HF1.out)
                  have x2 : wr.cell? ⟨w.heap.size, 2, none⟩ = some (.int .i64 f.guards) := (blk_cell HFR.out 2).trans rfl
                  have lx := blk_lt HFR.out
                  obtain ⟨bq, oq, hA, hbq, d0, d1, d2, d3, d4, d5, d6⟩ := (HRO.out.below HBR.out) kj q HQK.out
                  subst hA
                  have hlq : bq < wr.heap.size := Nat.lt_of_lt_of_le hbq HBR.out.size
                  cases hs : q.sgn
                  · have Hs := hide hs
                    have d5' : wr.cell? ⟨bq, oq + kj * 7 + 5, none⟩ = some (.bool false) := by rw [d5, hs]
                    clear d5 hs
                    have HP := hide (show nextP f os outs q = false by unfold nextP; rw [Hs.out]; rfl)
                    go_wp2_with fail
                    go_roundw
                    case rel => exact ⟨kj, x, by omega, rfl, rfl, hide (by rw [HNS.out, if_neg (by rw [HP.out]; decide)]; exact HX.out), HO, HBR⟩
                    case measure => simp [intOf]
                  · have Hs := hide hs
                    have d5' : wr.cell? ⟨bq, oq + kj * 7 + 5, none⟩ = some (.bool true) := by rw [d5, hs]
                    clear d5 hs
                    cases hc : outs.contains q.player
                    · have HC := hide hc
                      clear hc
                      cases hgx : q.grd
                      · have Hgx := hide hgx
                        have d2' : wr.cell? ⟨bq, oq + kj * 7 + 2, none⟩ = some (.bool false) := by rw [d2, hgx]
                        clear d2 hgx
                        have HP := hide (show nextP f os outs q = true by unfold nextP; rw [Hs.out, HC.out, Hgx.out]; rfl)
                        go_wp2_with (go_at_call 50; refine (In_any B k c4 outs q.player _ HL.out.1 (owns_RdI HO.out HL.out.1) (by omega)).mono ?_; rintro e w7 ⟨rfl, rfl⟩; rw [HC.out])
                        go_roundw
                        case rel => exact ⟨kj, q.player, by omega, rfl, rfl, hide (by rw [HNS.out, if_pos HP.out]), HO, HBR⟩
                        case measure => simp [intOf]
                      · have Hgx := hide hgx
                        have d2' : wr.cell? ⟨bq, oq + kj * 7 + 2, none⟩ = some (.bool true) := by rw [d2, hgx]
                        clear d2 hgx
                        by_cases hlt : g < f.guards
                        · have HP := hide (show nextP f os outs q = true by unfold nextP; rw [Hs.out, HC.out, Hgx.out, ← HGG.out, decide_eq_true hlt]; rfl)
                          go_wp2_with (go_at_call 50; refine (In_any B k c4 outs q.player _ HL.out.1 (owns_RdI HO.out HL.out.1) (by omega)).mono ?_; rintro e w7 ⟨rfl, rfl⟩; rw [HC.out])
                          go_roundw
                          case rel => exact ⟨kj, q.player, by omega, rfl, rfl, hide (by rw [HNS.out, if_pos HP.out]), HO, HBR⟩
                          case measure => simp [intOf]
                        · have hlt' : f.guards ≤ g := by omega
                          have HP := hide (show nextP f os outs q = false by unfold nextP; rw [Hs.out, HC.out, Hgx.out, ← HGG.out, decide_eq_false hlt]; rfl)
                          clear hlt
                          go_wp2_with (first | (go_at_call 50; refine (In_any B k c4 outs q.player _ HL.out.1 (owns_RdI HO.out HL.out.1) (by omega)).mono ?_; rintro e w7 ⟨rfl, rfl⟩; rw [HC.out]) | fail)
                          go_roundw
                          case rel => exact ⟨kj, x, by omega, rfl, rfl, hide (by rw [HNS.out, if_neg (by rw [HP.out]; decide)]; exact HX.out), HO, HBR⟩
                          case measure => simp [intOf]
                    · have HC := hide hc
                      clear hc
                      have HP := hide (show nextP f os outs q = false by unfold nextP; rw [Hs.out, HC.out]; rfl)
                      go_wp2_with (go_at_call 50; refine (In_any B k c4 outs q.player _ HL.out.1 (owns_RdI HO.out HL.out.1) (by omega)).mono ?_; rintro e w7 ⟨rfl, rfl⟩; rw [HC.out])
                      go_roundw
                      case rel => exact ⟨kj, x, by omega, rfl, rfl, hide (by rw [HNS.out, if_neg (by rw [HP.out]; decide)]; exact HX.out), HO, HBR⟩
                      case measure => simp [intOf]
        · have hpl' : f.places + bk ≤ (k : Int) := by omega
          clear hpl
          have HRES := hide (show outs = E.rlater f bk os 200 (insF os ins) by
            rw [← HE.out]
            cases n with
            | zero => rfl
            | succ n => rw [E.rlater, if_neg (by have := HL.out; omega)])
          have HSR := hide ((HBR.out.block _ (blk_lt HS1.out)).trans HS1.out)
          have HTR := hide ((HBR.out.block _ (blk_lt HT1.out)).trans HT1.out)
          have y3 : wr.cell? ⟨w.heap.size + 1, 3, none⟩ = some (.slice A3 n3 c3) := (blk_cell HSR.out 3).trans rfl
          have ly := blk_lt HSR.out
          have fz := blk_frozen HSR.out 3
          go_upto_region 27 with fail
          obtain ⟨w8, hw8⟩ : ∃ q, wr.setCell ⟨w.heap.size + 1, 3, none⟩ (.slice B k c4) = q := ⟨_, rfl⟩
          have HS8 := hide (show w8.heap[w.heap.size + 1]? = some (.cells #[.slice An nn cn, .slice A2 n2 c2, .int .i64 bk, .slice B k c4] 78 (0, 0)) by rw [← hw8]; exact blk_set HSR.out 3 _)
          have HG8 := hide (show wr.grownBy w8 (some (w.heap.size + 1)) by rw [← hw8]; exact gr_set _ _ _ _)
          have HT8 := hide ((HG8.out.block _ (blk_lt HTR.out) (fun e => by have := Option.some.inj e; omega)).trans HTR.out)
          have HO8 := hide (HO.out.kept HG8.out (.inr (row_ne HO.out HSR.out (by decide))))
          have HBW := hide (zbT HB01.out HBR.out HB01.out.size)
          have HB8 := hide (HBW.out.trans (grown_below HG8.out HBW.out.size (fun g hg => by cases hg; omega)))
          rw [hw8]
          clear hw8 y3 ly fz
          have s0 : w8.cell? ⟨w.heap.size + 1, 0, none⟩ = some (.slice An nn cn) := (blk_cell HS8.out 0).trans rfl
          have s1 : w8.cell? ⟨w.heap.size + 1, 1, none⟩ = some (.slice A2 n2 c2) := (blk_cell HS8.out 1).trans rfl
          have s2 : w8.cell? ⟨w.heap.size + 1, 2, none⟩ = some (.int .i64 bk) := (blk_cell HS8.out 2).trans rfl
          have s3 : w8.cell? ⟨w.heap.size + 1, 3, none⟩ = some (.slice B k c4) := (blk_cell HS8.out 3).trans rfl
          have ls := blk_lt HS8.out
          have t0 : w8.cell? ⟨w.heap.size + 1 + 1, 0, none⟩ = some (.slice none 0 0) := (blk_cell HT8.out 0).trans rfl
          have t1 : w8.cell? ⟨w.heap.size + 1 + 1, 1, none⟩ = some (.slice none 0 0) := (blk_cell HT8.out 1).trans rfl
          have t2 : w8.cell? ⟨w.heap.size + 1 + 1, 2, none⟩ = some (.int .i64 0) := (blk_cell HT8.out 2).trans rfl
          have t3 : w8.cell? ⟨w.heap.size + 1 + 1, 3, none⟩ = some (.slice none 0 0) := (blk_cell HT8.out 3).trans rfl
          have lt := blk_lt HT8.out
          have fz0 := blk_frozen HT8.out 0
          have fz1 := blk_frozen HT8.out 1
          have fz2 := blk_frozen HT8.out 2
          have fz3 := blk_frozen HT8.out 3
          go_wp2_with fail
          obtain ⟨w9, hw9⟩ : ∃ q, (((w8.setCell ⟨w.heap.size + 1 + 1, 0, none⟩ (.slice An nn cn)).setCell ⟨w.heap.size + 1 + 1, 1, none⟩ (.slice A2 n2 c2)).setCell ⟨w.heap.size + 1 + 1, 2, none⟩ (.int .i64 bk)).setCell ⟨w.heap.size + 1 + 1, 3, none⟩ (.slice B k c4) = q := ⟨_, rfl⟩
          have HT9 := hide (show w9.heap[w.heap.size + 1 + 1]? = some (.cells #[.slice An nn cn, .slice A2 n2 c2, .int .i64 bk, .slice B k c4] 78 (0, 0)) by rw [← hw9]; exact blk_set (blk_set (blk_set (blk_set HT8.out 0 _) 1 _) 2 _) 3 _)
          have HG9 := hide (show w8.grownBy w9 (some (w.heap.size + 1 + 1)) by rw [← hw9]; exact gr_trans (gr_trans (gr_trans (gr_set _ _ _ _) (gr_set _ _ _ _)) (gr_set _ _ _ _)) (gr_set _ _ _ _))
          have HO9 := hide (HO8.out.kept HG9.out (.inr (row_ne HO8.out HT8.out (by decide))))
          have HB9 := hide (HB8.out.trans (grown_below HG9.out HB8.out.size (fun g hg => by cases hg; omega)))
          rw [hw9]
          clear hw9 s0 s1 s2 s3 t0 t1 t2 t3 fz0 fz1 fz2 fz3 ls lt
          have r0 : w9.cell? ⟨w.heap.size + 1 + 1, 0, none⟩ = some (.slice An nn cn) := (blk_cell HT9.out 0).trans rfl
          have r1 : w9.cell? ⟨w.heap.size + 1 + 1, 1, none⟩ = some (.slice A2 n2 c2) := (blk_cell HT9.out 1).trans rfl
          have r2 : w9.cell? ⟨w.heap.size + 1 + 1, 2, none⟩ = some (.int .i64 bk) := (blk_cell HT9.out 2).trans rfl
          have r3 : w9.cell? ⟨w.heap.size + 1 + 1, 3, none⟩ = some (.slice B k c4) := (blk_cell HT9.out 3).trans rfl
          exact bodyPost_ret (v := .agg #[.slice An nn cn, .slice A2 n2 c2, .int .i64 bk, .slice B k c4]) (by simp [results, Try.results70, go_sem, r0, r1, r2, r3]) rfl ⟨B, k, c4, rfl, by rw [HOS.out, ← HRES.out]; exact HL.out.1, by rw [HOS.out, ← HRES.out]; exact owns_mono HO9.out HB01.out.size, HB9.out⟩
end Go.Proofs.Ytdhaalonnmajkaa

namespace Go.Proofs.Ytdhaalonnmajkaa
open Go.RowKit Go.Sort
attribute [local go_sem ↓] Go.wp_at_zero Go.wp_at_succ

set_option maxHeartbeats 6400000 in
set_option maxRecDepth 100000 in
theorem filled_ref (hO : OrderP) (f : E.Fd) (An : Option Addr) (nn cn : Nat) (ps : List E.Rp) (A2 : Option Addr) (n2 c2 : Nat) (bk : Int) (A3 : Option Addr) (n3 c3 : Nat) (w : World) (hn : ps.length = nn) (hr : RdP w w.heap.size An ps) (hm : nn ≤ 400) :
    Calls Try.prog 71 #[.agg #[.int .i64 f.places, .int .i64 f.wilds, .int .i64 f.guards, .int .i64 f.close, .int .i64 f.freeze], .agg #[.slice An nn cn, .slice A2 n2 c2, .int .i64 bk, .slice A3 n3 c3]] w fun e w' => ∃ A m c, e = .returned (.slice A m c) ∧ (E.rfill f (ordF ps) [] 0).length = m ∧ w'.ownsRow w.heap.size 3 1 (.slice A m c) m (flatI (E.rfill f (ordF ps) [] 0)) ∧ Below w.heap.size w w' := by
  have HN := hide hn
  have HR := hide hr
  have HM := hide hm
  clear hn hr hm
  go_enter Try.func71, Try.ntmps71
  go_upto_region 1 with fail
  obtain ⟨w0, hw0⟩ : ∃ q, (w.alloc (.cells #[.int .i64 f.places, .int .i64 f.wilds, .int .i64 f.guards, .int .i64 f.close, .int .i64 f.freeze] 23)).alloc (.cells #[.slice An nn cn, .slice A2 n2 c2, .int .i64 bk, .slice A3 n3 c3] 78) = q := ⟨_, rfl⟩
  have HB0 := hide (show Below w.heap.size w w0 by rw [← hw0]; (repeat' first | exact zbR _ _ | assumption | refine zbD ?_ | refine zbA ?_ ?_ _ | refine zbS ?_ ?_ _ | refine zbT ?_ (by assumption) ?_ | (simp; done) | (simp; omega) | omega))
  have HF0 := hide (show w0.heap[w.heap.size]? = some (.cells #[.int .i64 f.places, .int .i64 f.wilds, .int .i64 f.guards, .int .i64 f.close, .int .i64 f.freeze] 23 (0, 0)) by rw [← hw0]; exact (Below.heap_alloc _ _ _ (by first | (simp; done) | (simp; omega) | omega)).trans (World.alloc_heap_new _ _))
  have HS0 := hide (show w0.heap[w.heap.size + 1]? = some (.cells #[.slice An nn cn, .slice A2 n2 c2, .int .i64 bk, .slice A3 n3 c3] 78 (0, 0)) by rw [← hw0]; exact (congrArg _ (by simp)).trans (World.alloc_heap_new _ _))
  rw [hw0]
  clear hw0
  have HR0 := hide ((HR.out.below HB0.out).mono HB0.out.size)
  have s0 : w0.cell? ⟨w.heap.size + 1, 0, none⟩ = some (.slice An nn cn) := (blk_cell HS0.out 0).trans rfl
  have s1 : w0.cell? ⟨w.heap.size + 1, 1, none⟩ = some (.slice A2 n2 c2) := (blk_cell HS0.out 1).trans rfl
  have s2 : w0.cell? ⟨w.heap.size + 1, 2, none⟩ = some (.int .i64 bk) := (blk_cell HS0.out 2).trans rfl
  have s3 : w0.cell? ⟨w.heap.size + 1, 3, none⟩ = some (.slice A3 n3 c3) := (blk_cell HS0.out 3).trans rfl
  have ls := blk_lt HS0.out
  go_wp2_with (go_at_call 49; refine (hO An nn cn ps A2 n2 c2 bk A3 n3 c3 w0 HN.out HR0.out HM.out).mono ?_; rintro e w1 ⟨B0, m, c, rfl, hlen, hown, hb1⟩; have HLO := hide hlen; have HOO := hide hown; have HB1 := hide hb1; clear hlen hown hb1)
  clear s0 s1 s2 s3 ls
  obtain ⟨os, hos⟩ : ∃ q, ordF ps = q := ⟨_, rfl⟩
  have HOS := hide hos
  rw [hos] at HLO HOO
  clear hos
  have HM4 := hide (show m ≤ 400 by have h1 := ordF_length ps; rw [HOS.out, HLO.out, HN.out] at h1; have := HM.out; omega)
  have HRO := hide (owns_RdP HOO.out HLO.out)
  have HB01 := hide (zbT HB0.out HB1.out HB0.out.size)
  have HF1 := hide ((HB1.out.block _ (blk_lt HF0.out)).trans HF0.out)
  go_loopw [5, 7, 8] (fun bf gg i wr => ∃ (i' : Nat) (B : Option Addr) (k c4 : Nat) (outs : List Int) (g : Int), i' ≤ m ∧ bf = .slice B k c4 ∧ gg = .int .i64 g ∧ i = .int .i64 i' ∧ Hid (E.rfill f (os.drop i') outs g = E.rfill f os [] 0) ∧ Hid (wr.ownsRow w1.heap.size 3 1 (.slice B k c4) k (flatI outs)) ∧ Hid (outs.length = k ∧ k ≤ i' ∧ 0 ≤ g ∧ g ≤ (i' : Int)) ∧ Hid (Below w1.heap.size w1 wr)) (fun _ _ i _ => m - (intOf i).toNat)
  case atStart => exact ⟨0, none, 0, 0, [], 0, by omega, rfl, rfl, rfl, hide rfl, hide ⟨rfl, .inl ⟨rfl, rfl⟩⟩, hide ⟨rfl, by omega, by omega, by omega⟩, hide (Below.refl _ _)⟩
  case round =>
    obtain ⟨i, B, k, c4, outs, g, hi, rfl, rfl, rfl, HE, HO, HL, HBR⟩ := hrel
    have hm4 := HM4.out
    have hk4 : k ≤ 400 := by have := HL.out; omega
    have hg0 : 0 ≤ g := HL.out.2.2.1
    have hg4 : g ≤ 400 := by have := HL.out; omega
    by_cases hin : i < m
    · obtain ⟨x, hx⟩ : ∃ q, os[i]? = some q := ⟨_, List.getElem?_eq_getElem (by have := HLO.out; omega)⟩
      have HX := hide hx
      have HDR := hide (show os.drop i = x :: os.drop (i + 1) by
        obtain ⟨h1, h2⟩ := List.getElem?_eq_some_iff.1 hx
        rw [List.drop_eq_getElem_cons h1, h2])
      obtain ⟨bq, oq, hA, hbq, d0, d1, d2, d3, d4, d5, d6⟩ := (HRO.out.below HBR.out) i x hx
      subst hA
      have hlq : bq < wr.heap.size := Nat.lt_of_lt_of_le hbq HBR.out.size
      have HFR := hide ((HBR.out.block _ (blk_lt HF1.out)).trans HF1.out)
      have x0 : wr.cell? ⟨w.heap.size, 0, none⟩ = some (.int .i64 f.places) := (blk_cell HFR.out 0).trans rfl
      have x2 : wr.cell? ⟨w.heap.size, 2, none⟩ = some (.int .i64 f.guards) := (blk_cell HFR.out 2).trans rfl
      have lx := blk_lt HFR.out
      clear hx
      have hi1 : (i : Int) < (m : Int) := by omega
      have hi0 : (0 : Int) ≤ (i : Int) := by omega
      by_cases hp : (k : Int) < f.places
      · cases hgx : x.grd
        · have HG := hide hgx
          have d2' : wr.cell? ⟨bq, oq + i * 7 + 2, none⟩ = some (.bool false) := by rw [d2, hgx]
          clear d2 hgx
          go_wp2_with (at_builtin; refine wpList_app_at rfl (.tmp 36) (.tmp 42) rfl w1.heap.size (.slice B k c4) outs k rfl (HO.out.alloc _) (some ⟨_, 0, none⟩) 1 1 [x.player] rfl rfl (rdI_one (World.alloc_heap_new _ _)) (fun e => by cases e) (by omega) (by omega) (by have := HBR.out.size; simp; omega) ?_; intro B5 c5 w9 hown2 hgrow; have HO5 := hide hown2; have HB9 := hide ((zbA HBR.out HBR.out.size _).trans (grown_below (B := w1.heap.size) hgrow (by have := HBR.out.size; simp; omega) (fun g hg => (HO.out.lt g hg).1))); have HF9 := hide ((HB9.out.block _ (blk_lt HF1.out)).trans HF1.out); have HR9 := hide (HRO.out.below HB9.out); clear hown2 hgrow; obtain ⟨b9, o9, hA9, _, e0, e1, e2, e3, e4, e5, e6⟩ := HR9.out i x HX.out; injection hA9 with hA9; injection hA9 with hA91 hA92; subst hA91 hA92; rw [HG.out] at e2)
          go_roundw
          case rel => exact ⟨i + 1, B5, k + 1, c5, outs ++ [x.player], g, by omega, rfl, rfl, by go_num, hide (by rw [← HE.out, HDR.out, E.rfill, if_pos ⟨by have := HL.out; omega, .inl HG.out⟩, HG.out]; rfl), HO5, hide (by have := HL.out; simp; omega), HB9⟩
          case measure => simp [intOf]; omega
        · have HG := hide hgx
          have d2' : wr.cell? ⟨bq, oq + i * 7 + 2, none⟩ = some (.bool true) := by rw [d2, hgx]
          clear d2 hgx
          by_cases hg : g < f.guards
          · go_wp2_with (at_builtin; refine wpList_app_at rfl (.tmp 36) (.tmp 42) rfl w1.heap.size (.slice B k c4) outs k rfl (HO.out.alloc _) (some ⟨_, 0, none⟩) 1 1 [x.player] rfl rfl (rdI_one (World.alloc_heap_new _ _)) (fun e => by cases e) (by omega) (by omega) (by have := HBR.out.size; simp; omega) ?_; intro B5 c5 w9 hown2 hgrow; have HO5 := hide hown2; have HB9 := hide ((zbA HBR.out HBR.out.size _).trans (grown_below (B := w1.heap.size) hgrow (by have := HBR.out.size; simp; omega) (fun g hg => (HO.out.lt g hg).1))); have HF9 := hide ((HB9.out.block _ (blk_lt HF1.out)).trans HF1.out); have HR9 := hide (HRO.out.below HB9.out); clear hown2 hgrow; obtain ⟨b9, o9, hA9, _, e0, e1, e2, e3, e4, e5, e6⟩ := HR9.out i x HX.out; injection hA9 with hA9; injection hA9 with hA91 hA92; subst hA91 hA92; rw [HG.out] at e2)
            go_roundw
            case rel => exact ⟨i + 1, B5, k + 1, c5, outs ++ [x.player], g + 1, by omega, rfl, by go_num, by go_num, hide (by rw [← HE.out, HDR.out, E.rfill, if_pos ⟨by have := HL.out; omega, .inr hg⟩, HG.out]; rfl), HO5, hide (by have := HL.out; simp; omega), HB9⟩
            case measure => simp [intOf]; omega
          · have hg' : f.guards ≤ g := by omega
            clear hg
            go_wp2_with fail
            go_roundw
            case rel => exact ⟨i + 1, B, k, c4, outs, g, by omega, rfl, rfl, by go_num, hide (by rw [← HE.out, HDR.out, E.rfill, if_neg (by rintro ⟨_, e | e⟩; (rw [HG.out] at e; cases e); omega)]), HO, hide (by have := HL.out; omega), HBR⟩
            case measure => simp [intOf]; omega
      · have hp' : f.places ≤ (k : Int) := by omega
        clear hp
        go_wp2_with fail
        go_roundw
        case rel => exact ⟨i + 1, B, k, c4, outs, g, by omega, rfl, rfl, by go_num, hide (by rw [← HE.out, HDR.out, E.rfill, if_neg (by have := HL.out; omega)]), HO, hide (by have := HL.out; omega), HBR⟩
        case measure => simp [intOf]; omega
    · have hin2 : i = m := by omega
      subst hin2
      have hE := HE.out
      rw [List.drop_eq_nil_of_le (by have := HLO.out; omega)] at hE
      have HE2 := hide (show outs = E.rfill f os [] 0 from hE)
      clear hE
      go_wp2_with fail
      go_ret
      exact ⟨B, k, c4, rfl, by rw [HOS.out, ← HE2.out]; exact HL.out.1, by rw [HOS.out, ← HE2.out]; exact owns_mono HO.out HB01.out.size, HB01.out.trans (HBR.out.mono HB01.out.size)⟩
end Go.Proofs.Ytdhaalonnmajkaa

namespace Go.Proofs.Ytdhaalonnmajkaa
open Go.RowKit Go.Sort
attribute [local go_sem ↓] Go.wp_at_zero Go.wp_at_succ

def StW (w : World) (ok : Nat → Prop) (v : Value) (s : E.Rs) : Prop := ∃ (An : Option Addr) (nn cn : Nat) (A2 : Option Addr) (n2 c2 : Nat) (A3 : Option Addr) (n3 c3 : Nat), v = .agg #[.slice An nn cn, .slice A2 n2 c2, .int .i64 s.back, .slice A3 n3 c3] ∧ s.people.length = nn ∧ (An = none → cn = 0) ∧ s.wilds.length = n2 ∧ (A2 = none → c2 = 0) ∧ s.ins.length = n3 ∧
  (∀ W : World, w.heap.size ≤ W.heap.size → (∀ b, b < w.heap.size → ok b → W.heap[b]? = w.heap[b]?) → RdP W W.heap.size An s.people ∧ RdI W W.heap.size A2 s.wilds ∧ RdI W W.heap.size A3 s.ins)
theorem StW.to {w w' : World} {ok ok' : Nat → Prop} {v : Value} {s : E.Rs} (h : StW w ok v s) (hb : w.heap.size ≤ w'.heap.size) (hk : ∀ b, b < w.heap.size → ok b → w'.heap[b]? = w.heap[b]?) (ho : ∀ b, b < w.heap.size → ok b → ok' b) : StW w' ok' v s := by
  obtain ⟨An, nn, cn, A2, n2, c2, A3, n3, c3, e, h1, h3, h4, h6, h7, h8⟩ := h
  exact ⟨An, nn, cn, A2, n2, c2, A3, n3, c3, e, h1, h3, h4, h6, h7, fun W hW hWb => h8 W (Nat.le_trans hb hW) (fun b hb2 hok => (hWb b (Nat.lt_of_lt_of_le hb2 hb) (ho b hb2 hok)).trans (hk b hb2 hok))⟩
theorem owns_agree {w W : World} {base : Nat} {e : TypeId} {n size : Nat} {xs : List Value} {v : Value} (h : w.ownsRow base e size v n xs) (hk : ∀ b, b < w.heap.size → base ≤ b → W.heap[b]? = w.heap[b]?) : W.ownsRow base e size v n xs := by
  refine ⟨h.1, h.2.imp id ?_⟩
  rintro ⟨g, cap, cur, e1, hg, hh, r⟩
  exact ⟨g, cap, cur, e1, hg, (hk g (blk_lt hh) hg).trans hh, r⟩
theorem ordF_perm (ps : List E.Rp) : (ordF ps).Perm (ps.filter E.Rp.counts) := by
  have key : ∀ (l out : List E.Rp), (l.foldl (fun out p => E.rins p out) out).Perm (out ++ l) := by
    intro l
    induction l with
    | nil => intro out; rw [List.append_nil]; exact List.Perm.refl _
    | cons a r ih =>
      intro out
      rw [List.foldl_cons]
      refine (ih _).trans ?_
      refine ((E.rins_perm a out).append_right r).trans ?_
      rw [List.append_assoc]
      exact List.Perm.refl _
  have := key (ps.filter E.Rp.counts) []
  rw [List.nil_append] at this
  exact this
theorem ordF_nd {ps : List E.Rp} (h : (ps.map E.Rp.player).Nodup) : ((ordF ps).map E.Rp.player).Nodup :=
  ((ordF_perm ps).map _).nodup_iff.2 (List.Nodup.sublist (List.Sublist.map _ List.filter_sublist) h)
theorem ordF_mem {ps : List E.Rp} {p : E.Rp} (h : p ∈ ordF ps) : p ∈ ps := (List.mem_filter.1 ((ordF_perm ps).mem_iff.1 h)).1
def TakeP : Prop := ∀ (f : E.Fd) (v : Value) (s : E.Rs) (x : E.Nt) (ok : Nat → Prop) (w : World), StW w ok v s → s.people.length ≤ 199 → s.wilds.length ≤ 199 → 0 ≤ s.back → s.back ≤ 200 →
    Calls Try.prog 69 #[.agg #[.int .i64 f.places, .int .i64 f.wilds, .int .i64 f.guards, .int .i64 f.close, .int .i64 f.freeze], v, .agg #[.int .i64 x.id, .int .i64 x.hour, .int .i64 x.kind, .int .i64 x.player, .int .i64 x.rank]] w fun e w' => ∃ v', e = .returned v' ∧ StW w' (fun b => ok b ∨ w.heap.size ≤ b) v' (E.rtake f s x) ∧ Below w.heap.size w w'
set_option maxHeartbeats 6400000 in
set_option maxRecDepth 100000 in
theorem one_ref (hT : TakeP) (f : E.Fd) (v : Value) (s : E.Rs) (x : E.Nt) (ok : Nat → Prop) (w : World) (hs : StW w ok v s) (h1 : s.people.length ≤ 199) (h2 : s.wilds.length ≤ 199) (h3 : 0 ≤ s.back) (h4 : s.back ≤ 200)
    (hnd : ((E.rtake f s x).people.map E.Rp.player).Nodup) (hpos : ∀ p ∈ (E.rtake f s x).people, 0 ≤ p.player) (hlen : (E.rtake f s x).people.length ≤ 200) (hins : (E.rtake f s x).ins.length ≤ 400) (hbk : 0 ≤ (E.rtake f s x).back ∧ (E.rtake f s x).back ≤ 1000) (hp : 0 ≤ f.places ∧ f.places ≤ 1000) :
    Calls Try.prog 52 #[.agg #[.int .i64 f.places, .int .i64 f.wilds, .int .i64 f.guards, .int .i64 f.close, .int .i64 f.freeze], v, .agg #[.int .i64 x.id, .int .i64 x.hour, .int .i64 x.kind, .int .i64 x.player, .int .i64 x.rank]] w fun e w' => ∃ v', e = .returned v' ∧ StW w' (fun b => ok b ∨ w.heap.size ≤ b) v' (E.rone f s x) ∧ Below w.heap.size w w' := by
  have HS00 := hide hs
  obtain ⟨An, nn, cn, A2, n2, c2, A3, n3, c3, rfl, s1⟩ := hs
  have HS0 := hide (show StW w (fun b => ok b ∧ b < w.heap.size) (.agg #[.slice An nn cn, .slice A2 n2 c2, .int .i64 s.back, .slice A3 n3 c3]) s from HS00.out.to (Nat.le_refl _) (fun _ _ _ => rfl) (fun b hb hk => ⟨hk, hb⟩))
  clear s1 HS00
  obtain ⟨u, hu⟩ : ∃ u, E.rtake f s x = u := ⟨_, rfl⟩
  obtain ⟨r, hr⟩ : ∃ r, E.rone f s x = r := ⟨_, rfl⟩
  have HRU := hide (show r = if f.freeze < x.hour then { u with ins := E.rlater f u.back (ordF u.people) 200 (insF (ordF u.people) u.ins) } else { u with ins := E.rfill f (ordF u.people) [] 0 } by rw [← hr, ← hu]; rfl)
  rw [hu] at hnd hpos hlen hins hbk
  rw [hr]
  have HTK := hide (show ∀ (ok : Nat → Prop) (w : World), StW w ok (.agg #[.slice An nn cn, .slice A2 n2 c2, .int .i64 s.back, .slice A3 n3 c3]) s → Calls Try.prog 69 #[.agg #[.int .i64 f.places, .int .i64 f.wilds, .int .i64 f.guards, .int .i64 f.close, .int .i64 f.freeze], .agg #[.slice An nn cn, .slice A2 n2 c2, .int .i64 s.back, .slice A3 n3 c3], .agg #[.int .i64 x.id, .int .i64 x.hour, .int .i64 x.kind, .int .i64 x.player, .int .i64 x.rank]] w fun e w' => ∃ v', e = .returned v' ∧ StW w' (fun b => ok b ∨ w.heap.size ≤ b) v' u ∧ Below w.heap.size w w' from fun ok w h => by rw [← hu]; exact hT f _ s x ok w h h1 h2 h3 h4)
  have HND := hide (ordF_nd hnd)
  have HPOS := hide (show ∀ p ∈ ordF u.people, 0 ≤ p.player from fun p hp => hpos p (ordF_mem hp))
  have HLEN := hide hlen
  have HINS := hide hins
  have HBK := hide hbk
  have HPL := hide hp
  clear hu hr hnd hpos hlen hins hbk hp h1 h2 h3 h4 hT
  go_enter Try.func52, Try.ntmps52
  go_upto_region 1 with fail
  obtain ⟨w0, hw0⟩ : ∃ q, (((w.alloc (.cells #[.int .i64 f.places, .int .i64 f.wilds, .int .i64 f.guards, .int .i64 f.close, .int .i64 f.freeze] 23)).alloc (.cells #[.slice An nn cn, .slice A2 n2 c2, .int .i64 s.back, .slice A3 n3 c3] 78)).alloc (.cells #[.int .i64 x.id, .int .i64 x.hour, .int .i64 x.kind, .int .i64 x.player, .int .i64 x.rank] 40)).alloc (.cells #[.slice none 0 0, .slice none 0 0, .int .i64 0, .slice none 0 0] 78) = q := ⟨_, rfl⟩
  have HB0 := hide (show Below w.heap.size w w0 by rw [← hw0]; (repeat' first | exact zbR _ _ | assumption | refine zbD ?_ | refine zbA ?_ ?_ _ | refine zbS ?_ ?_ _ | refine zbT ?_ (by assumption) ?_ | (simp; done) | (simp; omega) | omega))
  have HF0 := hide (show w0.heap[w.heap.size]? = some (.cells #[.int .i64 f.places, .int .i64 f.wilds, .int .i64 f.guards, .int .i64 f.close, .int .i64 f.freeze] 23 (0, 0)) by rw [← hw0]; exact (Below.heap_alloc _ _ _ (by first | (simp; done) | (simp; omega) | omega)).trans ((Below.heap_alloc _ _ _ (by first | (simp; done) | (simp; omega) | omega)).trans ((Below.heap_alloc _ _ _ (by first | (simp; done) | (simp; omega) | omega)).trans (World.alloc_heap_new _ _))))
  have HA0 := hide (show w0.heap[w.heap.size + 1]? = some (.cells #[.slice An nn cn, .slice A2 n2 c2, .int .i64 s.back, .slice A3 n3 c3] 78 (0, 0)) by rw [← hw0]; exact (Below.heap_alloc _ _ _ (by first | (simp; done) | (simp; omega) | omega)).trans ((Below.heap_alloc _ _ _ (by first | (simp; done) | (simp; omega) | omega)).trans ((congrArg _ (by simp)).trans (World.alloc_heap_new _ _))))
  have HN0 := hide (show w0.heap[w.heap.size + 1 + 1]? = some (.cells #[.int .i64 x.id, .int .i64 x.hour, .int .i64 x.kind, .int .i64 x.player, .int .i64 x.rank] 40 (0, 0)) by rw [← hw0]; exact (Below.heap_alloc _ _ _ (by first | (simp; done) | (simp; omega) | omega)).trans ((congrArg _ (by simp)).trans (World.alloc_heap_new _ _)))
  have HT0 := hide (show w0.heap[w.heap.size + 1 + 1 + 1]? = some (.cells #[.slice none 0 0, .slice none 0 0, .int .i64 0, .slice none 0 0] 78 (0, 0)) by rw [← hw0]; exact (congrArg _ (by simp)).trans (World.alloc_heap_new _ _))
  rw [hw0]
  clear hw0
  have HS1 := hide (show StW w0 (fun b => ok b ∧ b < w.heap.size) (.agg #[.slice An nn cn, .slice A2 n2 c2, .int .i64 s.back, .slice A3 n3 c3]) s from HS0.out.to HB0.out.size (fun b hb _ => HB0.out.block b hb) (fun b hb hk => hk))
  have HZ0 := hide (show w.heap.size + 1 + 1 + 1 < w0.heap.size from blk_lt HT0.out)
  have yf0 : w0.cell? ⟨w.heap.size, 0, none⟩ = some (.int .i64 f.places) := (blk_cell HF0.out 0).trans rfl
  have yf1 : w0.cell? ⟨w.heap.size, 1, none⟩ = some (.int .i64 f.wilds) := (blk_cell HF0.out 1).trans rfl
  have yf2 : w0.cell? ⟨w.heap.size, 2, none⟩ = some (.int .i64 f.guards) := (blk_cell HF0.out 2).trans rfl
  have yf3 : w0.cell? ⟨w.heap.size, 3, none⟩ = some (.int .i64 f.close) := (blk_cell HF0.out 3).trans rfl
  have yf4 : w0.cell? ⟨w.heap.size, 4, none⟩ = some (.int .i64 f.freeze) := (blk_cell HF0.out 4).trans rfl
  have lyf := blk_lt HF0.out
  have yn0 : w0.cell? ⟨w.heap.size + 1 + 1, 0, none⟩ = some (.int .i64 x.id) := (blk_cell HN0.out 0).trans rfl
  have yn1 : w0.cell? ⟨w.heap.size + 1 + 1, 1, none⟩ = some (.int .i64 x.hour) := (blk_cell HN0.out 1).trans rfl
  have yn2 : w0.cell? ⟨w.heap.size + 1 + 1, 2, none⟩ = some (.int .i64 x.kind) := (blk_cell HN0.out 2).trans rfl
  have yn3 : w0.cell? ⟨w.heap.size + 1 + 1, 3, none⟩ = some (.int .i64 x.player) := (blk_cell HN0.out 3).trans rfl
  have yn4 : w0.cell? ⟨w.heap.size + 1 + 1, 4, none⟩ = some (.int .i64 x.rank) := (blk_cell HN0.out 4).trans rfl
  have lyn := blk_lt HN0.out
  have ya0 : w0.cell? ⟨w.heap.size + 1, 0, none⟩ = some (.slice An nn cn) := (blk_cell HA0.out 0).trans rfl
  have ya1 : w0.cell? ⟨w.heap.size + 1, 1, none⟩ = some (.slice A2 n2 c2) := (blk_cell HA0.out 1).trans rfl
  have ya2 : w0.cell? ⟨w.heap.size + 1, 2, none⟩ = some (.int .i64 s.back) := (blk_cell HA0.out 2).trans rfl
  have ya3 : w0.cell? ⟨w.heap.size + 1, 3, none⟩ = some (.slice A3 n3 c3) := (blk_cell HA0.out 3).trans rfl
  have lya := blk_lt HA0.out
  have fa0 := blk_frozen HA0.out 0
  have fa1 := blk_frozen HA0.out 1
  have fa2 := blk_frozen HA0.out 2
  have fa3 := blk_frozen HA0.out 3
  go_upto_region 2 with (go_at_call 69; refine (HTK.out _ w0 HS1.out).mono ?_; rintro e w1 ⟨v1, rfl, hst, hb1⟩; obtain ⟨Anu, nnu, cnu, A2u, n2u, c2u, A3u, n3u, c3u, rfl, u1, u3, u4, u6, u7, u8⟩ := hst; have HU := hide u8; have HUL := hide (And.intro u1 (And.intro u3 (And.intro u4 (And.intro u6 u7)))); have HB1 := hide hb1; have HF1 := hide ((HB1.out.block _ (blk_lt HF0.out)).trans HF0.out); have HA1 := hide ((HB1.out.block _ (blk_lt HA0.out)).trans HA0.out); have HN1 := hide ((HB1.out.block _ (blk_lt HN0.out)).trans HN0.out); have HT1 := hide ((HB1.out.block _ (blk_lt HT0.out)).trans HT0.out); clear hb1 u1 u3 u4 u6 u7 u8; have yb0 : w1.cell? ⟨w.heap.size + 1, 0, none⟩ = some (.slice An nn cn) := (blk_cell HA1.out 0).trans rfl; have yb1 : w1.cell? ⟨w.heap.size + 1, 1, none⟩ = some (.slice A2 n2 c2) := (blk_cell HA1.out 1).trans rfl; have yb2 : w1.cell? ⟨w.heap.size + 1, 2, none⟩ = some (.int .i64 s.back) := (blk_cell HA1.out 2).trans rfl; have yb3 : w1.cell? ⟨w.heap.size + 1, 3, none⟩ = some (.slice A3 n3 c3) := (blk_cell HA1.out 3).trans rfl; have lyb := blk_lt HA1.out; have fb0 := blk_frozen HA1.out 0; have fb1 := blk_frozen HA1.out 1; have fb2 := blk_frozen HA1.out 2; have fb3 := blk_frozen HA1.out 3)
  obtain ⟨w2, hw2⟩ : ∃ q, (((w1.setCell ⟨w.heap.size + 1, 0, none⟩ (.slice Anu nnu cnu)).setCell ⟨w.heap.size + 1, 1, none⟩ (.slice A2u n2u c2u)).setCell ⟨w.heap.size + 1, 2, none⟩ (.int .i64 u.back)).setCell ⟨w.heap.size + 1, 3, none⟩ (.slice A3u n3u c3u) = q := ⟨_, rfl⟩
  have HA2 := hide (show w2.heap[w.heap.size + 1]? = some (.cells #[.slice Anu nnu cnu, .slice A2u n2u c2u, .int .i64 u.back, .slice A3u n3u c3u] 78 (0, 0)) by rw [← hw2]; exact blk_set (blk_set (blk_set (blk_set HA1.out 0 _) 1 _) 2 _) 3 _)
  have HG2 := hide (show w1.grownBy w2 (some (w.heap.size + 1)) by rw [← hw2]; exact gr_trans (gr_trans (gr_trans (gr_set _ _ _ _) (gr_set _ _ _ _)) (gr_set _ _ _ _)) (gr_set _ _ _ _))
  rw [hw2]
  clear hw2
  clear ya0 ya1 ya2 ya3 lya yf0 yf1 yf2 yf3 yf4 lyf yn0 yn1 yn2 yn3 yn4 lyn fa0 fa1 fa2 fa3 yb0 yb1 yb2 yb3 lyb fb0 fb1 fb2 fb3
  have HF2 := hide ((HG2.out.block _ (blk_lt HF1.out) (fun e => by have := Option.some.inj e; omega)).trans HF1.out)
  have HN2 := hide ((HG2.out.block _ (blk_lt HN1.out) (fun e => by have := Option.some.inj e; omega)).trans HN1.out)
  have HT2 := hide ((HG2.out.block _ (blk_lt HT1.out) (fun e => by have := Option.some.inj e; omega)).trans HT1.out)
  have HBW1 := hide (zbT HB0.out HB1.out HB0.out.size)
  have HBW2 := hide (HBW1.out.trans (grown_below HG2.out HBW1.out.size (fun g hg => by cases hg; omega)))
  have HK12 := hide (show ∀ b, b < w1.heap.size → ((ok b ∧ b < w.heap.size) ∨ w0.heap.size ≤ b) → w2.heap[b]? = w1.heap[b]? from fun b hb hk => HG2.out.block b hb (fun e => by have := Option.some.inj e; have := HZ0.out; omega))
  have HU2 := hide (HU.out w2 HG2.out.size HK12.out)
  have HU3 := hide (And.intro HUL.out.1 (And.intro HUL.out.2.2.1 HUL.out.2.2.2.2))
  clear HF1 HA1 HN1 HT1 HF0 HA0 HN0 HT0 HS1 HTK
  have yn0 : w2.cell? ⟨w.heap.size + 1 + 1, 0, none⟩ = some (.int .i64 x.id) := (blk_cell HN2.out 0).trans rfl
  have yn1 : w2.cell? ⟨w.heap.size + 1 + 1, 1, none⟩ = some (.int .i64 x.hour) := (blk_cell HN2.out 1).trans rfl
  have yn2 : w2.cell? ⟨w.heap.size + 1 + 1, 2, none⟩ = some (.int .i64 x.kind) := (blk_cell HN2.out 2).trans rfl
  have yn3 : w2.cell? ⟨w.heap.size + 1 + 1, 3, none⟩ = some (.int .i64 x.player) := (blk_cell HN2.out 3).trans rfl
  have yn4 : w2.cell? ⟨w.heap.size + 1 + 1, 4, none⟩ = some (.int .i64 x.rank) := (blk_cell HN2.out 4).trans rfl
  have lyn := blk_lt HN2.out
  have yf0 : w2.cell? ⟨w.heap.size, 0, none⟩ = some (.int .i64 f.places) := (blk_cell HF2.out 0).trans rfl
  have yf1 : w2.cell? ⟨w.heap.size, 1, none⟩ = some (.int .i64 f.wilds) := (blk_cell HF2.out 1).trans rfl
  have yf2 : w2.cell? ⟨w.heap.size, 2, none⟩ = some (.int .i64 f.guards) := (blk_cell HF2.out 2).trans rfl
  have yf3 : w2.cell? ⟨w.heap.size, 3, none⟩ = some (.int .i64 f.close) := (blk_cell HF2.out 3).trans rfl
  have yf4 : w2.cell? ⟨w.heap.size, 4, none⟩ = some (.int .i64 f.freeze) := (blk_cell HF2.out 4).trans rfl
  have lyf := blk_lt HF2.out
  by_cases c : f.freeze < x.hour
  · have HC := hide c
    have yc0 : w2.cell? ⟨w.heap.size + 1, 0, none⟩ = some (.slice Anu nnu cnu) := (blk_cell HA2.out 0).trans rfl
    have yc1 : w2.cell? ⟨w.heap.size + 1, 1, none⟩ = some (.slice A2u n2u c2u) := (blk_cell HA2.out 1).trans rfl
    have yc2 : w2.cell? ⟨w.heap.size + 1, 2, none⟩ = some (.int .i64 u.back) := (blk_cell HA2.out 2).trans rfl
    have yc3 : w2.cell? ⟨w.heap.size + 1, 3, none⟩ = some (.slice A3u n3u c3u) := (blk_cell HA2.out 3).trans rfl
    have lyc := blk_lt HA2.out
    go_wp2_with (go_at_call 70; refine (later_ref f Anu nnu cnu u.people A2u n2u c2u u.back A3u n3u c3u u.ins w2 HU3.out.1 HU2.out.1 (by have h1 := HU3.out.1; have h2 := HLEN.out; omega) HU3.out.2.2 HU2.out.2.2 (by have h1 := HU3.out.2.2; have h2 := HINS.out; omega) HND.out HPOS.out HPL.out HBK.out).mono ?_; rintro e w3 ⟨B, k, c4, rfl, hlen, hown, hb3⟩; have HL := hide hlen; have HO3 := hide hown; have HB3 := hide hb3; have HT3 := hide ((HB3.out.block _ (blk_lt HT2.out)).trans HT2.out); clear hlen hown hb3; have z0 : w3.cell? ⟨w.heap.size + 1 + 1 + 1, 0, none⟩ = some (.slice none 0 0) := (blk_cell HT3.out 0).trans rfl; have z1 : w3.cell? ⟨w.heap.size + 1 + 1 + 1, 1, none⟩ = some (.slice none 0 0) := (blk_cell HT3.out 1).trans rfl; have z2 : w3.cell? ⟨w.heap.size + 1 + 1 + 1, 2, none⟩ = some (.int .i64 0) := (blk_cell HT3.out 2).trans rfl; have z3 : w3.cell? ⟨w.heap.size + 1 + 1 + 1, 3, none⟩ = some (.slice none 0 0) := (blk_cell HT3.out 3).trans rfl; have lz := blk_lt HT3.out; have fc0 := blk_frozen HT3.out 0; have fc1 := blk_frozen HT3.out 1; have fc2 := blk_frozen HT3.out 2; have fc3 := blk_frozen HT3.out 3)
    obtain ⟨w4, hw4⟩ : ∃ q, (((w3.setCell ⟨w.heap.size + 1 + 1 + 1, 0, none⟩ (.slice Anu nnu cnu)).setCell ⟨w.heap.size + 1 + 1 + 1, 1, none⟩ (.slice A2u n2u c2u)).setCell ⟨w.heap.size + 1 + 1 + 1, 2, none⟩ (.int .i64 u.back)).setCell ⟨w.heap.size + 1 + 1 + 1, 3, none⟩ (.slice B k c4) = q := ⟨_, rfl⟩
    have HT4 := hide (show w4.heap[w.heap.size + 1 + 1 + 1]? = some (.cells #[.slice Anu nnu cnu, .slice A2u n2u c2u, .int .i64 u.back, .slice B k c4] 78 (0, 0)) by rw [← hw4]; exact blk_set (blk_set (blk_set (blk_set HT3.out 0 _) 1 _) 2 _) 3 _)
    have HG4 := hide (show w3.grownBy w4 (some (w.heap.size + 1 + 1 + 1)) by rw [← hw4]; exact gr_trans (gr_trans (gr_trans (gr_set _ _ _ _) (gr_set _ _ _ _)) (gr_set _ _ _ _)) (gr_set _ _ _ _))
    rw [hw4]
    clear hw4
    have HK14 := hide (show ∀ b, b < w1.heap.size → ((ok b ∧ b < w.heap.size) ∨ w0.heap.size ≤ b) → w4.heap[b]? = w1.heap[b]? from fun b hb hk => (HG4.out.block b (Nat.lt_of_lt_of_le hb (Nat.le_trans HG2.out.size HB3.out.size)) (fun e => by have := Option.some.inj e; have := HZ0.out; omega)).trans ((HB3.out.block b (Nat.lt_of_lt_of_le hb HG2.out.size)).trans (HK12.out b hb hk)))
    have HO4 := hide (HO3.out.kept HG4.out (.inr (row_ne HO3.out HT3.out (by decide))))
    have HSZ := hide (show w1.heap.size ≤ w4.heap.size from Nat.le_trans HG2.out.size (Nat.le_trans HB3.out.size HG4.out.size))
    have HBW3 := hide (zbT HBW2.out HB3.out HBW2.out.size)
    have HB4 := hide (HBW3.out.trans (grown_below HG4.out HBW3.out.size (fun g hg => by cases hg; omega)))
    have HSV := hide (show r = { u with ins := E.rlater f u.back (ordF u.people) 200 (insF (ordF u.people) u.ins) } by rw [HRU.out, if_pos HC.out])
    have HST := hide (show StW w4 (fun b => ok b ∨ w.heap.size ≤ b) (.agg #[.slice Anu nnu cnu, .slice A2u n2u c2u, .int .i64 u.back, .slice B k c4]) r by
      rw [HSV.out]
      refine ⟨Anu, nnu, cnu, A2u, n2u, c2u, B, k, c4, rfl, HUL.out.1, HUL.out.2.1, HUL.out.2.2.1, HUL.out.2.2.2.1, HL.out, fun W hW hk => ?_⟩
      have h := HU.out W (Nat.le_trans HSZ.out hW) (fun b hb ho => (hk b (Nat.lt_of_lt_of_le hb HSZ.out) (ho.elim (fun h => .inl h.1) (fun h => .inr (Nat.le_trans HB0.out.size h)))).trans (HK14.out b hb ho))
      exact ⟨h.1, h.2.1, owns_RdI (owns_agree HO4.out (fun b hb hbase => hk b hb (.inr (Nat.le_trans HBW2.out.size hbase)))) HL.out⟩)
    have r0 : w4.cell? ⟨w.heap.size + 1 + 1 + 1, 0, none⟩ = some (.slice Anu nnu cnu) := (blk_cell HT4.out 0).trans rfl
    have r1 : w4.cell? ⟨w.heap.size + 1 + 1 + 1, 1, none⟩ = some (.slice A2u n2u c2u) := (blk_cell HT4.out 1).trans rfl
    have r2 : w4.cell? ⟨w.heap.size + 1 + 1 + 1, 2, none⟩ = some (.int .i64 u.back) := (blk_cell HT4.out 2).trans rfl
    have r3 : w4.cell? ⟨w.heap.size + 1 + 1 + 1, 3, none⟩ = some (.slice B k c4) := (blk_cell HT4.out 3).trans rfl
    have lr := blk_lt HT4.out
    exact bodyPost_ret (v := .agg #[.slice Anu nnu cnu, .slice A2u n2u c2u, .int .i64 u.back, .slice B k c4]) (by simp [results, Try.results52, go_sem, r0, r1, r2, r3]) rfl ⟨_, rfl, HST.out, HB4.out⟩
  · have hc : x.hour ≤ f.freeze := by omega
    have HC := hide hc
    clear c
    have yc0 : w2.cell? ⟨w.heap.size + 1, 0, none⟩ = some (.slice Anu nnu cnu) := (blk_cell HA2.out 0).trans rfl
    have yc1 : w2.cell? ⟨w.heap.size + 1, 1, none⟩ = some (.slice A2u n2u c2u) := (blk_cell HA2.out 1).trans rfl
    have yc2 : w2.cell? ⟨w.heap.size + 1, 2, none⟩ = some (.int .i64 u.back) := (blk_cell HA2.out 2).trans rfl
    have yc3 : w2.cell? ⟨w.heap.size + 1, 3, none⟩ = some (.slice A3u n3u c3u) := (blk_cell HA2.out 3).trans rfl
    have lyc := blk_lt HA2.out
    go_upto_region 5 with (go_at_call 71; refine (filled_ref orderP_holds f Anu nnu cnu u.people A2u n2u c2u u.back A3u n3u c3u w2 HU3.out.1 HU2.out.1 (by have h1 := HU3.out.1; have h2 := HLEN.out; omega)).mono ?_; rintro e w3 ⟨B, k, c4, rfl, hlen, hown, hb3⟩; have HL := hide hlen; have HO3 := hide hown; have HB3 := hide hb3; have HT3 := hide ((HB3.out.block _ (blk_lt HT2.out)).trans HT2.out); have HA3 := hide ((HB3.out.block _ (blk_lt HA2.out)).trans HA2.out); clear hlen hown hb3; have yd0 : w3.cell? ⟨w.heap.size + 1, 0, none⟩ = some (.slice Anu nnu cnu) := (blk_cell HA3.out 0).trans rfl; have yd1 : w3.cell? ⟨w.heap.size + 1, 1, none⟩ = some (.slice A2u n2u c2u) := (blk_cell HA3.out 1).trans rfl; have yd2 : w3.cell? ⟨w.heap.size + 1, 2, none⟩ = some (.int .i64 u.back) := (blk_cell HA3.out 2).trans rfl; have yd3 : w3.cell? ⟨w.heap.size + 1, 3, none⟩ = some (.slice A3u n3u c3u) := (blk_cell HA3.out 3).trans rfl; have lyd := blk_lt HA3.out; have fd0 := blk_frozen HA3.out 0; have fd1 := blk_frozen HA3.out 1; have fd2 := blk_frozen HA3.out 2; have fd3 := blk_frozen HA3.out 3)
    obtain ⟨w5, hw5⟩ : ∃ q, w3.setCell ⟨w.heap.size + 1, 3, none⟩ (.slice B k c4) = q := ⟨_, rfl⟩
    have HA5 := hide (show w5.heap[w.heap.size + 1]? = some (.cells #[.slice Anu nnu cnu, .slice A2u n2u c2u, .int .i64 u.back, .slice B k c4] 78 (0, 0)) by rw [← hw5]; exact blk_set HA3.out 3 _)
    have HG5 := hide (show w3.grownBy w5 (some (w.heap.size + 1)) by rw [← hw5]; exact gr_set _ _ _ _)
    have HT5 := hide ((HG5.out.block _ (blk_lt HT3.out) (fun e => by have := Option.some.inj e; omega)).trans HT3.out)
    have HO5 := hide (HO3.out.kept HG5.out (.inr (row_ne HO3.out HA3.out (by decide))))
    rw [hw5]
    clear hw5
    have ye0 : w5.cell? ⟨w.heap.size + 1, 0, none⟩ = some (.slice Anu nnu cnu) := (blk_cell HA5.out 0).trans rfl
    have ye1 : w5.cell? ⟨w.heap.size + 1, 1, none⟩ = some (.slice A2u n2u c2u) := (blk_cell HA5.out 1).trans rfl
    have ye2 : w5.cell? ⟨w.heap.size + 1, 2, none⟩ = some (.int .i64 u.back) := (blk_cell HA5.out 2).trans rfl
    have ye3 : w5.cell? ⟨w.heap.size + 1, 3, none⟩ = some (.slice B k c4) := (blk_cell HA5.out 3).trans rfl
    have lye := blk_lt HA5.out
    have z0 : w5.cell? ⟨w.heap.size + 1 + 1 + 1, 0, none⟩ = some (.slice none 0 0) := (blk_cell HT5.out 0).trans rfl
    have z1 : w5.cell? ⟨w.heap.size + 1 + 1 + 1, 1, none⟩ = some (.slice none 0 0) := (blk_cell HT5.out 1).trans rfl
    have z2 : w5.cell? ⟨w.heap.size + 1 + 1 + 1, 2, none⟩ = some (.int .i64 0) := (blk_cell HT5.out 2).trans rfl
    have z3 : w5.cell? ⟨w.heap.size + 1 + 1 + 1, 3, none⟩ = some (.slice none 0 0) := (blk_cell HT5.out 3).trans rfl
    have lz := blk_lt HT5.out
    have fe0 := blk_frozen HT5.out 0
    have fe1 := blk_frozen HT5.out 1
    have fe2 := blk_frozen HT5.out 2
    have fe3 := blk_frozen HT5.out 3
    go_wp2_with fail
    obtain ⟨w4, hw4⟩ : ∃ q, (((w5.setCell ⟨w.heap.size + 1 + 1 + 1, 0, none⟩ (.slice Anu nnu cnu)).setCell ⟨w.heap.size + 1 + 1 + 1, 1, none⟩ (.slice A2u n2u c2u)).setCell ⟨w.heap.size + 1 + 1 + 1, 2, none⟩ (.int .i64 u.back)).setCell ⟨w.heap.size + 1 + 1 + 1, 3, none⟩ (.slice B k c4) = q := ⟨_, rfl⟩
    have HT4 := hide (show w4.heap[w.heap.size + 1 + 1 + 1]? = some (.cells #[.slice Anu nnu cnu, .slice A2u n2u c2u, .int .i64 u.back, .slice B k c4] 78 (0, 0)) by rw [← hw4]; exact blk_set (blk_set (blk_set (blk_set HT5.out 0 _) 1 _) 2 _) 3 _)
    have HG4 := hide (show w5.grownBy w4 (some (w.heap.size + 1 + 1 + 1)) by rw [← hw4]; exact gr_trans (gr_trans (gr_trans (gr_set _ _ _ _) (gr_set _ _ _ _)) (gr_set _ _ _ _)) (gr_set _ _ _ _))
    rw [hw4]
    clear hw4
    have HK14 := hide (show ∀ b, b < w1.heap.size → ((ok b ∧ b < w.heap.size) ∨ w0.heap.size ≤ b) → w4.heap[b]? = w1.heap[b]? from fun b hb hk => (HG4.out.block b (Nat.lt_of_lt_of_le hb (Nat.le_trans HG2.out.size (Nat.le_trans HB3.out.size HG5.out.size))) (fun e => by have := Option.some.inj e; have := HZ0.out; omega)).trans ((HG5.out.block b (Nat.lt_of_lt_of_le hb (Nat.le_trans HG2.out.size HB3.out.size)) (fun e => by have := Option.some.inj e; have := HZ0.out; omega)).trans ((HB3.out.block b (Nat.lt_of_lt_of_le hb HG2.out.size)).trans (HK12.out b hb hk))))
    have HO4 := hide (HO5.out.kept HG4.out (.inr (row_ne HO5.out HT5.out (by decide))))
    have HSZ := hide (show w1.heap.size ≤ w4.heap.size from Nat.le_trans HG2.out.size (Nat.le_trans HB3.out.size (Nat.le_trans HG5.out.size HG4.out.size)))
    have HBW3 := hide (zbT HBW2.out HB3.out HBW2.out.size)
    have HBW5 := hide (HBW3.out.trans (grown_below HG5.out HBW3.out.size (fun g hg => by cases hg; omega)))
    have HB4 := hide (HBW5.out.trans (grown_below HG4.out HBW5.out.size (fun g hg => by cases hg; omega)))
    have HSV := hide (show r = { u with ins := E.rfill f (ordF u.people) [] 0 } by rw [HRU.out, if_neg (by have := HC.out; omega)])
    have HST := hide (show StW w4 (fun b => ok b ∨ w.heap.size ≤ b) (.agg #[.slice Anu nnu cnu, .slice A2u n2u c2u, .int .i64 u.back, .slice B k c4]) r by
      rw [HSV.out]
      refine ⟨Anu, nnu, cnu, A2u, n2u, c2u, B, k, c4, rfl, HUL.out.1, HUL.out.2.1, HUL.out.2.2.1, HUL.out.2.2.2.1, HL.out, fun W hW hk => ?_⟩
      have h := HU.out W (Nat.le_trans HSZ.out hW) (fun b hb ho => (hk b (Nat.lt_of_lt_of_le hb HSZ.out) (ho.elim (fun h => .inl h.1) (fun h => .inr (Nat.le_trans HB0.out.size h)))).trans (HK14.out b hb ho))
      exact ⟨h.1, h.2.1, owns_RdI (owns_agree HO4.out (fun b hb hbase => hk b hb (.inr (Nat.le_trans HBW2.out.size hbase)))) HL.out⟩)
    have r0 : w4.cell? ⟨w.heap.size + 1 + 1 + 1, 0, none⟩ = some (.slice Anu nnu cnu) := (blk_cell HT4.out 0).trans rfl
    have r1 : w4.cell? ⟨w.heap.size + 1 + 1 + 1, 1, none⟩ = some (.slice A2u n2u c2u) := (blk_cell HT4.out 1).trans rfl
    have r2 : w4.cell? ⟨w.heap.size + 1 + 1 + 1, 2, none⟩ = some (.int .i64 u.back) := (blk_cell HT4.out 2).trans rfl
    have r3 : w4.cell? ⟨w.heap.size + 1 + 1 + 1, 3, none⟩ = some (.slice B k c4) := (blk_cell HT4.out 3).trans rfl
    have lr := blk_lt HT4.out
    exact bodyPost_ret (v := .agg #[.slice Anu nnu cnu, .slice A2u n2u c2u, .int .i64 u.back, .slice B k c4]) (by simp [results, Try.results52, go_sem, r0, r1, r2, r3]) rfl ⟨_, rfl, HST.out, HB4.out⟩
end Go.Proofs.Ytdhaalonnmajkaa
