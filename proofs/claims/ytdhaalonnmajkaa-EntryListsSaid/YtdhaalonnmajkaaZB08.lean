/-
  Part of a claim's texts: contracts of the program's functions and the plain functions that they compute, in build order.
-/
import Derived.Test.YtdhaalonnmajkaaZB02
import Derived.Test.YtdhaalonnmajkaaZB06
import Derived.Test.YtdhaalonnmajkaaZB07
namespace Go.Proofs.Ytdhaalonnmajkaa
open Go.RowKit Go.Sort
attribute [local go_sem ↓] Go.wp_at_zero Go.wp_at_succ

theorem gr_none_drew (u : World) (row : Option Nat) : u.grownBy u.drew row := ⟨(World.grownBy.refl u row).os, (World.grownBy.refl u row).tape, (World.grownBy.refl u row).output, (World.grownBy.refl u row).size, (World.grownBy.refl u row).block⟩
theorem gr_wide {u v : World} {row : Option Nat} (h : u.grownBy v none) : u.grownBy v row := ⟨h.os, h.tape, h.output, h.size, fun k hk _ => h.block k hk (by simp)⟩
def outF (os : List E.Rp) (ins : List Int) : List Int := (os.filter fun p => !ins.contains p.player).map E.Rp.player
theorem outF_step {os : List E.Rp} {ins : List Int} {i : Nat} {p : E.Rp} (h : os[i]? = some p) : outF (os.take (i + 1)) ins = outF (os.take i) ins ++ (if ins.contains p.player = true then [] else [p.player]) := by
  unfold outF
  rw [List.take_add_one, h, List.filter_append, List.map_append]
  congr 1
  show List.map _ (List.filter _ [p]) = _
  rw [List.filter_cons, List.filter_nil]
  cases ins.contains p.player <;> rfl
theorem outF_length (os : List E.Rp) (ins : List Int) : (outF os ins).length ≤ os.length := by
  unfold outF
  rw [List.length_map]
  exact List.length_filter_le _ _
theorem rows_apart {w : World} {b1 b2 s1 s2 n1 n2 : Nat} {e1 e2 : TypeId} {v1 v2 : Value} {xs1 xs2 : List Value} (h1 : w.ownsRow b1 e1 s1 v1 n1 xs1) (h2 : w.ownsRow b2 e2 s2 v2 n2 xs2) (he : e1 ≠ e2) : v1.ownBlock = none ∨ v1.ownBlock ≠ v2.ownBlock := by
  rcases h1.2 with ⟨rfl, _⟩ | ⟨g, cap, cur, rfl, _, hb, _⟩
  · exact .inl rfl
  · refine .inr fun e => ?_
    rcases h2.2 with ⟨rfl, _⟩ | ⟨g', cap', cur', rfl, _, hb2, _⟩
    · cases e
    · have e' : g = g' := Option.some.inj e
      subst e'
      rw [hb] at hb2
      have := Option.some.inj hb2
      injection this with _ h3
      exact he h3
set_option maxHeartbeats 6400000 in
set_option maxRecDepth 100000 in
theorem entries_ref (f : E.Fd) (An : Option Addr) (nn cn : Nat) (ps : List E.Rp) (A2 : Option Addr) (n2 c2 : Nat) (bk : Int) (A3 : Option Addr) (n3 c3 : Nat) (ins : List Int) (w : World) (hn : ps.length = nn) (hr : RdP w w.heap.size An ps) (hm : nn ≤ 200) (hn3 : ins.length = n3) (hr3 : RdI w w.heap.size A3 ins) (hm3 : n3 ≤ 400)
    (hp : 0 ≤ f.places ∧ f.places ≤ 1000) (hb : 0 ≤ bk ∧ bk ≤ 1000) :
    Calls Try.prog 35 #[.agg #[.int .i64 f.places, .int .i64 f.wilds, .int .i64 f.guards, .int .i64 f.close, .int .i64 f.freeze], .agg #[.slice An nn cn, .slice A2 n2 c2, .int .i64 bk, .slice A3 n3 c3]] w fun e w' => ∃ A m c, e = .returned (.agg #[.slice A3 n3 c3, .slice A2 n2 c2, .slice A m c, .int .i64 (f.places + bk - (n3 : Int))]) ∧ (outF (ordF ps) ins).length = m ∧ w'.ownsRow w.heap.size 3 1 (.slice A m c) m (flatI (outF (ordF ps) ins)) ∧ Below w.heap.size w w' := by
  have HN := hide hn
  have HR := hide hr
  have HM := hide hm
  have HN3 := hide hn3
  have HR3 := hide hr3
  have HM3 := hide hm3
  clear hn hr hm hn3 hr3
  have hwp : IntKind.i64.wrap (f.places + bk) = f.places + bk := IntWalk.i64_in _ (by omega)
  have hwq : IntKind.i64.wrap (f.places + bk - (n3 : Int)) = f.places + bk - (n3 : Int) := IntWalk.i64_in _ (by omega)
  go_enter Try.func35, Try.ntmps35
  go_upto_region 1 with fail
  obtain ⟨w0, hw0⟩ : ∃ q, ((w.alloc (.cells #[.int .i64 f.places, .int .i64 f.wilds, .int .i64 f.guards, .int .i64 f.close, .int .i64 f.freeze] 23)).alloc (.cells #[.slice An nn cn, .slice A2 n2 c2, .int .i64 bk, .slice A3 n3 c3] 78)).alloc (.cells #[.slice none 0 0, .slice none 0 0, .slice none 0 0, .int .i64 0] 33) = q := ⟨_, rfl⟩
  have HB0 := hide (show Below w.heap.size w w0 by rw [← hw0]; (repeat' first | exact zbR _ _ | assumption | refine zbD ?_ | refine zbA ?_ ?_ _ | refine zbS ?_ ?_ _ | refine zbT ?_ (by assumption) ?_ | (simp; done) | (simp; omega) | omega))
  have HF0 := hide (show w0.heap[w.heap.size]? = some (.cells #[.int .i64 f.places, .int .i64 f.wilds, .int .i64 f.guards, .int .i64 f.close, .int .i64 f.freeze] 23 (0, 0)) by rw [← hw0]; exact (Below.heap_alloc _ _ _ (by first | (simp; done) | (simp; omega) | omega)).trans ((Below.heap_alloc _ _ _ (by first | (simp; done) | (simp; omega) | omega)).trans (World.alloc_heap_new _ _)))
  have HS0 := hide (show w0.heap[w.heap.size + 1]? = some (.cells #[.slice An nn cn, .slice A2 n2 c2, .int .i64 bk, .slice A3 n3 c3] 78 (0, 0)) by rw [← hw0]; exact (Below.heap_alloc _ _ _ (by first | (simp; done) | (simp; omega) | omega)).trans ((congrArg _ (by simp)).trans (World.alloc_heap_new _ _)))
  have HT0 := hide (show w0.heap[w.heap.size + 1 + 1]? = some (.cells #[.slice none 0 0, .slice none 0 0, .slice none 0 0, .int .i64 0] 33 (0, 0)) by rw [← hw0]; exact (congrArg _ (by simp)).trans (World.alloc_heap_new _ _))
  rw [hw0]
  clear hw0
  have x0 : w0.cell? ⟨w.heap.size, 0, none⟩ = some (.int .i64 f.places) := (blk_cell HF0.out 0).trans rfl
  have lx := blk_lt HF0.out
  have s0 : w0.cell? ⟨w.heap.size + 1, 0, none⟩ = some (.slice An nn cn) := (blk_cell HS0.out 0).trans rfl
  have s1 : w0.cell? ⟨w.heap.size + 1, 1, none⟩ = some (.slice A2 n2 c2) := (blk_cell HS0.out 1).trans rfl
  have s2 : w0.cell? ⟨w.heap.size + 1, 2, none⟩ = some (.int .i64 bk) := (blk_cell HS0.out 2).trans rfl
  have s3 : w0.cell? ⟨w.heap.size + 1, 3, none⟩ = some (.slice A3 n3 c3) := (blk_cell HS0.out 3).trans rfl
  have ls := blk_lt HS0.out
  go_upto_region 2 with fail
  obtain ⟨wq, hwq2⟩ : ∃ x, w0.alloc (.cells #[.slice A3 n3 c3, .slice A2 n2 c2, .slice none 0 0, .int .i64 (f.places + bk - (n3 : Int))] 33) = x := ⟨_, rfl⟩
  have HBQ := hide (show Below w.heap.size w wq by rw [← hwq2]; exact zbA HB0.out HB0.out.size _)
  have HFQ := hide (show wq.heap[w.heap.size]? = some (.cells #[.int .i64 f.places, .int .i64 f.wilds, .int .i64 f.guards, .int .i64 f.close, .int .i64 f.freeze] 23 (0, 0)) by rw [← hwq2]; exact (Below.heap_alloc _ _ _ (blk_lt HF0.out)).trans HF0.out)
  have HSQ := hide (show wq.heap[w.heap.size + 1]? = some (.cells #[.slice An nn cn, .slice A2 n2 c2, .int .i64 bk, .slice A3 n3 c3] 78 (0, 0)) by rw [← hwq2]; exact (Below.heap_alloc _ _ _ (blk_lt HS0.out)).trans HS0.out)
  have HTQ := hide (show wq.heap[w.heap.size + 1 + 1]? = some (.cells #[.slice none 0 0, .slice none 0 0, .slice none 0 0, .int .i64 0] 33 (0, 0)) by rw [← hwq2]; exact (Below.heap_alloc _ _ _ (blk_lt HT0.out)).trans HT0.out)
  have HQ0 := hide (show wq.heap[w0.heap.size]? = some (.cells #[.slice A3 n3 c3, .slice A2 n2 c2, .slice none 0 0, .int .i64 (f.places + bk - (n3 : Int))] 33 (0, 0)) by rw [← hwq2]; exact World.alloc_heap_new _ _)
  have hql : w.heap.size + 1 + 1 < w0.heap.size := blk_lt HT0.out
  rw [hwq2]
  clear hwq2 s0 s1 s2 s3 ls x0 lx hwp hwq
  obtain ⟨q, hq⟩ : ∃ q, w0.heap.size = q := ⟨_, rfl⟩
  rw [hq] at HQ0 hql ⊢
  have HQL := hide (show w.heap.size ≤ q by omega)
  clear hq
  have HR0 := hide ((HR.out.below HBQ.out).mono HBQ.out.size)
  have s0 : wq.cell? ⟨w.heap.size + 1, 0, none⟩ = some (.slice An nn cn) := (blk_cell HSQ.out 0).trans rfl
  have s1 : wq.cell? ⟨w.heap.size + 1, 1, none⟩ = some (.slice A2 n2 c2) := (blk_cell HSQ.out 1).trans rfl
  have s2 : wq.cell? ⟨w.heap.size + 1, 2, none⟩ = some (.int .i64 bk) := (blk_cell HSQ.out 2).trans rfl
  have s3 : wq.cell? ⟨w.heap.size + 1, 3, none⟩ = some (.slice A3 n3 c3) := (blk_cell HSQ.out 3).trans rfl
  have ls := blk_lt HSQ.out
  have hm4' := HM.out
  go_wp2_with (go_at_call 49; refine (order_ref An nn cn ps A2 n2 c2 bk A3 n3 c3 wq HN.out HR0.out (by omega)).mono ?_; rintro e w1 ⟨B0, m, c, rfl, hlen, hown, hb1⟩; have HLO := hide hlen; have HOO := hide hown; have HB1 := hide hb1; clear hlen hown hb1)
  clear s0 s1 s2 s3 ls
  obtain ⟨os, hos⟩ : ∃ q, ordF ps = q := ⟨_, rfl⟩
  have HOS := hide hos
  rw [hos] at HLO HOO
  clear hos
  have HM4 := hide (show m ≤ 200 by have h1 := ordF_length ps; rw [HOS.out, HLO.out, HN.out] at h1; omega)
  have HB01 := hide (zbT HBQ.out HB1.out HBQ.out.size)
  have HS1 := hide ((HB1.out.block _ (blk_lt HSQ.out)).trans HSQ.out)
  have HT1 := hide ((HB1.out.block _ (blk_lt HTQ.out)).trans HTQ.out)
  have HQ1 := hide ((HB1.out.block _ (blk_lt HQ0.out)).trans HQ0.out)
  clear HF0 HS0 HT0 HR0 HFQ HSQ HTQ HQ0 HM hm4'
  go_loopw [7] (fun i wr => ∃ (i' : Nat) (B : Option Addr) (k c4 : Nat) (outs : List Int), i' ≤ m ∧ i = .int .i64 i' ∧ Hid (outs.length = k) ∧ Hid (outs = outF (os.take i') ins) ∧ Hid (wr.ownsRow w1.heap.size 3 1 (.slice B k c4) k (flatI outs)) ∧ Hid (wr.heap[q]? = some (.cells #[.slice A3 n3 c3, .slice A2 n2 c2, .slice B k c4, .int .i64 (f.places + bk - (n3 : Int))] 33 (0, 0))) ∧ Hid (w1.grownBy wr (some q))) (fun i _ => m - (intOf i).toNat)
  case atStart => exact ⟨0, none, 0, 0, [], by omega, rfl, hide rfl, hide rfl, hide ⟨rfl, .inl ⟨rfl, rfl⟩⟩, HQ1, hide (World.grownBy.refl _ _)⟩
  case round =>
    obtain ⟨i, B, k, c4, outs, hi, rfl, HL, HE, HO, HQR, HGR⟩ := hrel
    have hm4 := HM4.out
    have hk4 : k ≤ i := by have h := outF_length (os.take i) ins; rw [← HE.out, HL.out, List.length_take] at h; omega
    by_cases hin : i < m
    · obtain ⟨p, hp⟩ : ∃ q, os[i]? = some q := ⟨_, List.getElem?_eq_getElem (by have := HLO.out; omega)⟩
      have HPK := hide hp
      have HST := hide (outF_step (ins := ins) hp)
      clear hp
      have hi1 : (i : Int) < (m : Int) := by omega
      have hi0 : (0 : Int) ≤ (i : Int) := by omega
      go_upto_region 6 with fail
      cases hc : ins.contains p.player
      · have HC := hide hc
        clear hc
        obtain ⟨V, hV⟩ : ∃ V, (wr).drew = V := ⟨_, rfl⟩
        have HGV := hide (show w1.grownBy V (some q) by rw [← hV]; exact gr_trans HGR.out (gr_none_drew _ _))
        have HOV := hide (show V.ownsRow w1.heap.size 3 1 (.slice B k c4) k (flatI outs) by rw [← hV]; exact HO.out)
        have HQV := hide (show V.heap[q]? = some (.cells #[.slice A3 n3 c3, .slice A2 n2 c2, .slice B k c4, .int .i64 (f.places + bk - (n3 : Int))] 33 (0, 0)) by rw [← hV]; exact HQR.out)
        have HWV := hide (HB01.out.trans (grown_below HGV.out HB01.out.size (fun g hg => by cases hg; exact HQL.out)))
        have HSV := hide ((HGV.out.block _ (blk_lt HS1.out) (fun e => by have := Option.some.inj e; omega)).trans HS1.out)
        have vs3 : V.cell? ⟨w.heap.size + 1, 3, none⟩ = some (.slice A3 n3 c3) := (blk_cell HSV.out 3).trans rfl
        have lvs := blk_lt HSV.out
        have HPV := hide (owns_RdP (HOO.out.kept HGV.out (.inr (row_ne HOO.out HQ1.out (by decide)))) HLO.out)
        obtain ⟨bq, oq, hAq, lbv, q0, q1, q2, q3, q4, q5, q6⟩ := HPV.out i p HPK.out
        subst hAq
        clear q1 q2 q3 q4 q5 q6
        refine wp_region_still_lit (by kernel_rfl) (by kernel_rfl) ?_
        change wpStill _ _ (wr).drew (fun a' => Exit.then _ _ Exit.normal a' (wr).drew) _ _
        rw [hV]
        clear hV
        with_reducible refine stTake (v := ?_) (by kernel_rfl) ?_ ?_; rotate_left
        · (go_simp; (try with_reducible rfl))
        (try simp only [Act.put, zl, List.set_cons_zero, List.set_cons_succ])
        with_reducible refine stTake (v := ?_) (by kernel_rfl) ?_ ?_; rotate_left
        · (go_simp; (try with_reducible rfl))
        (try simp only [Act.put, zl, List.set_cons_zero, List.set_cons_succ])
        with_reducible refine stTake (v := ?_) (by kernel_rfl) ?_ ?_; rotate_left
        · (go_simp; (try with_reducible rfl))
        (try simp only [Act.put, zl, List.set_cons_zero, List.set_cons_succ])
        with_reducible refine stTake (v := ?_) (by kernel_rfl) ?_ ?_; rotate_left
        · (go_simp; (try with_reducible rfl))
        (try simp only [Act.put, zl, List.set_cons_zero, List.set_cons_succ])
        with_reducible refine stTake (v := ?_) (by kernel_rfl) ?_ ?_; rotate_left
        · (go_simp; (try with_reducible rfl))
        (try simp only [Act.put, zl, List.set_cons_zero, List.set_cons_succ])
        with_reducible refine stTake (v := ?_) (by kernel_rfl) ?_ ?_; rotate_left
        · (go_simp; (try with_reducible rfl))
        (try simp only [Act.put, zl, List.set_cons_zero, List.set_cons_succ])
        with_reducible refine stTake (v := ?_) (by kernel_rfl) ?_ ?_; rotate_left
        · (go_simp; (try with_reducible rfl))
        (try simp only [Act.put, zl, List.set_cons_zero, List.set_cons_succ])
        with_reducible refine stCall (v := .bool false) (f := 50) (args := #[.slice A3 n3 c3, .int .i64 p.player]) (by kernel_rfl) (by go_simp) ((In_any A3 n3 c3 ins p.player V HN3.out ((HR3.out.below HWV.out).mono HWV.out.size) (by omega)).mono (fun e w h => ⟨h.1.trans (by rw [HC.out]), h.2.symm⟩)) ?_
        (try simp only [Act.put, zl, List.set_cons_zero, List.set_cons_succ])
        with_reducible refine stTake (v := ?_) (by kernel_rfl) ?_ ?_; rotate_left
        · (go_simp; (try with_reducible rfl))
        (try simp only [Act.put, zl, List.set_cons_zero, List.set_cons_succ])
        refine wpStill_nil ?_
        clear vs3 lvs
        go_upto_region 7 with fail
        have hSof : ∀ w', V.grownBy w' (Value.slice B k c4).ownBlock → V.grownBy w' (Value.slice B k c4).ownBlock ∧ w'.cell? ⟨q, 2, none⟩ = some (.slice B k c4) ∧ w'.frozen? ⟨q, 2, none⟩ = false ∧ w'.cell? ⟨bq, oq + i * 7, none⟩ = some (.int .i64 p.player) ∧ bq < w'.heap.size := fun w' hg => by
          have hQ := (hg.block q (blk_lt HQV.out) (fun e => row_ne HOV.out HQV.out (by decide) e.symm)).trans HQV.out
          have hP := owns_RdP ((HOO.out.kept HGV.out (.inr (row_ne HOO.out HQ1.out (by decide)))).kept hg (rows_apart (HOO.out.kept HGV.out (.inr (row_ne HOO.out HQ1.out (by decide)))) HOV.out (by decide))) HLO.out
          obtain ⟨b9, o9, h9, l9, c9, _⟩ := hP i p HPK.out
          simp only [Option.some.injEq, Addr.mk.injEq, and_true] at h9
          obtain ⟨rfl, rfl⟩ := h9
          exact ⟨hg, (blk_cell hQ 2).trans rfl, blk_frozen hQ 2, c9, l9⟩
        have hS : (fun w' => V.grownBy w' (Value.slice B k c4).ownBlock ∧ w'.cell? ⟨q, 2, none⟩ = some (.slice B k c4) ∧ w'.frozen? ⟨q, 2, none⟩ = false ∧ w'.cell? ⟨bq, oq + i * 7, none⟩ = some (.int .i64 p.player) ∧ bq < w'.heap.size) V := hSof _ (World.grownBy.refl _ _)
        (try dsimp only at hS)
        refine wp_region_T_drew (S := (fun w' => V.grownBy w' (Value.slice B k c4).ownBlock ∧ w'.cell? ⟨q, 2, none⟩ = some (.slice B k c4) ∧ w'.frozen? ⟨q, 2, none⟩ = false ∧ w'.cell? ⟨bq, oq + i * 7, none⟩ = some (.int .i64 p.player) ∧ bq < w'.heap.size)) 10 (by kernel_rfl) ?_ (fun hD0 => ?_)
        · (try dsimp only); first | assumption | exact hSof _ (gr_none_drew _ _)
        refine takeT (v := ?_) 0 rfl (by kernel_rfl) (by kernel_rfl) (by kernel_rfl) (by kernel_rfl) (fun _ _ _ h => h) (Or.inl ⟨by rfl, ?_⟩) (by assumption) ?_; rotate_left
        · (intro w hSw; (try dsimp only at hSw); go_simp; try with_reducible rfl)
        try simp only [Act.put, zl, z0, z1]
        refine takeT (v := ?_) 1 rfl (by kernel_rfl) (by kernel_rfl) (by kernel_rfl) (by kernel_rfl) (fun _ _ _ h => h) (Or.inl ⟨by rfl, ?_⟩) (by assumption) ?_; rotate_left
        · (intro w hSw; (try dsimp only at hSw); go_simp; try with_reducible rfl)
        try simp only [Act.put, zl, z0, z1]
        refine takeT (v := ?_) 2 rfl (by kernel_rfl) (by kernel_rfl) (by kernel_rfl) (by kernel_rfl) (fun _ _ _ h => h) (Or.inl ⟨by rfl, ?_⟩) (by assumption) ?_; rotate_left
        · (intro w hSw; (try dsimp only at hSw); go_simp; try with_reducible rfl)
        try simp only [Act.put, zl, z0, z1]
        refine takeT (v := ?_) 3 rfl (by kernel_rfl) (by kernel_rfl) (by kernel_rfl) (by kernel_rfl) (fun _ _ _ h => h) (Or.inl ⟨by rfl, ?_⟩) (by assumption) ?_; rotate_left
        · (intro w hSw; (try dsimp only at hSw); go_simp; try with_reducible rfl)
        try simp only [Act.put, zl, z0, z1]
        refine takeT (v := ?_) 4 rfl (by kernel_rfl) (by kernel_rfl) (by kernel_rfl) (by kernel_rfl) (fun _ _ _ h => h) (Or.inl ⟨by rfl, ?_⟩) (by assumption) ?_; rotate_left
        · (intro w hSw; (try dsimp only at hSw); go_simp; try with_reducible rfl)
        try simp only [Act.put, zl, z0, z1]
        refine takeT (v := ?_) 5 rfl (by kernel_rfl) (by kernel_rfl) (by kernel_rfl) (by kernel_rfl) (fun _ _ _ h => h) (Or.inl ⟨by rfl, ?_⟩) (by assumption) ?_; rotate_left
        · (intro w hSw; (try dsimp only at hSw); go_simp; try with_reducible rfl)
        try simp only [Act.put, zl, z0, z1]
        refine takeT (v := ?_) 6 rfl (by kernel_rfl) (by kernel_rfl) (by kernel_rfl) (by kernel_rfl) (fun _ _ _ h => h) (Or.inl ⟨by rfl, ?_⟩) (by assumption) ?_; rotate_left
        · (intro w hSw; (try dsimp only at hSw); go_simp; try with_reducible rfl)
        try simp only [Act.put, zl, z0, z1]
        refine wpAnyT_ready (rs := [7]) (by kernel_rfl) (by simp) ?_; refine consT 7 rfl (fun K hK => ?_) AllReadyT.nil
        (go_simp; (first | refine capA (fun W0 hG hB hk hgr => ?_) | refine capAD (fun W0 hG hB hk hgr => ?_)); have hSn := hSof _ (by first | exact gr_trans hD0.1 (gr_wide hgr) | exact gr_trans (World.grownBy.refl _ _) (gr_wide hgr)); have HQ7 := hide (show W0.heap[_]? = some (Obj.cells #[.int .i64 p.player] 3 (0, 0)) from hG); have HO7 := hide (HOV.out.kept hgr (Classical.em _)); have HG7 := hide (show V.grownBy W0 none from hgr); clear hG hB hk hgr; (try dsimp only at hSn))
        refine hK.out _ _ ?_ (fun hD1 => ?_)
        · (try dsimp only); first | assumption | exact hSof _ (gr_none_drew _ _)
        clear hK K hD0; try simp only [Act.put, zl, z0, z1]
        refine wpAnyT_ready (rs := [8]) (by kernel_rfl) (by simp) ?_; refine consT 8 rfl (fun K hK => ?_) AllReadyT.nil
        (refine step_app_loc rfl (.tmp 40) (.tmp 46) rfl w1.heap.size _ outs k rfl HO7.out _ p.player rfl HQ7.out (by omega) (Nat.le_trans HGV.out.size HG7.out.size) (k + 1) rfl (fun B5 c5 W8 ho8 hg8 hl8 => ?_); have hSn := hSof _ (gr_trans hD1.1 hg8); have HO8 := hide ho8; clear ho8 hg8 hl8 HO7 HQ7 HG7; (try dsimp only at hSn))
        refine hK.out _ _ ?_ (fun hD2 => ?_)
        · (try dsimp only); first | assumption | exact hSof _ (gr_none_drew _ _)
        clear hK K hD1; try simp only [Act.put, zl, z0, z1]
        refine takeT (v := ?_) 9 rfl (by kernel_rfl) (by kernel_rfl) (by kernel_rfl) (by kernel_rfl) (fun _ _ _ h => h) (Or.inl ⟨by rfl, ?_⟩) (by assumption) ?_; rotate_left
        · (intro w hSw; (try dsimp only at hSw); go_simp; try with_reducible rfl)
        try simp only [Act.put, zl, z0, z1]
        refine wpAnyT_ready (rs := [10]) (by kernel_rfl) (by simp) ?_
        refine lastT rfl (fun K hK => ?_)
        (try dsimp only at hD2)
        go_simp
        refine hK.out _ _ ?_
        clear hK K
        try simp only [Act.put, zl, z0, z1]
        refine wpAnyT_done (by kernel_rfl) ?_ _
        (try dsimp only [Act.put, List.getElem_toArray, List.getElem_cons_succ, List.getElem_cons_zero])
        (try simp only [zl, z0, z1])
        have HG8 := hide hSn.1
        have HQ8 := hide ((HG8.out.block q (blk_lt HQV.out) (fun e => row_ne HOV.out HQV.out (by decide) e.symm)).trans HQV.out)
        clear hSn hS hSof
        obtain ⟨W9, hW9⟩ : ∃ x, W8.setCell ⟨q, 2, none⟩ (.slice B5 (k + 1) c5) = x := ⟨_, rfl⟩
        have HQ9 := hide (show W9.heap[q]? = some (.cells #[.slice A3 n3 c3, .slice A2 n2 c2, .slice B5 (k + 1) c5, .int .i64 (f.places + bk - (n3 : Int))] 33 (0, 0)) by rw [← hW9]; exact blk_set HQ8.out 2 _)
        have HG9 := hide (show W8.grownBy W9 (some q) by rw [← hW9]; exact gr_set _ _ _ _)
        have HO9 := hide (HO8.out.kept HG9.out (.inr (row_ne HO8.out HQ8.out (by decide))))
        have HGW := hide (gr_trans (HGV.out.andThen HG8.out (fun j hj => .inl (HOV.out.lt j hj).1)) HG9.out)
        rw [hW9]
        clear hW9
        go_wp2_with fail
        go_roundw
        case rel => exact ⟨i + 1, B5, k + 1, c5, outs ++ [p.player], by omega, by go_num, hide (by simp [HL.out]), hide (by rw [HST.out, HC.out, HE.out]; rfl), HO9, HQ9, HGW⟩
        case measure => simp [intOf]; omega
      · have HC := hide hc
        clear hc
        obtain ⟨V, hV⟩ : ∃ V, (wr).drew = V := ⟨_, rfl⟩
        have HGV := hide (show w1.grownBy V (some q) by rw [← hV]; exact gr_trans HGR.out (gr_none_drew _ _))
        have HOV := hide (show V.ownsRow w1.heap.size 3 1 (.slice B k c4) k (flatI outs) by rw [← hV]; exact HO.out)
        have HQV := hide (show V.heap[q]? = some (.cells #[.slice A3 n3 c3, .slice A2 n2 c2, .slice B k c4, .int .i64 (f.places + bk - (n3 : Int))] 33 (0, 0)) by rw [← hV]; exact HQR.out)
        have HWV := hide (HB01.out.trans (grown_below HGV.out HB01.out.size (fun g hg => by cases hg; exact HQL.out)))
        have HSV := hide ((HGV.out.block _ (blk_lt HS1.out) (fun e => by have := Option.some.inj e; omega)).trans HS1.out)
        have vs3 : V.cell? ⟨w.heap.size + 1, 3, none⟩ = some (.slice A3 n3 c3) := (blk_cell HSV.out 3).trans rfl
        have lvs := blk_lt HSV.out
        have HPV := hide (owns_RdP (HOO.out.kept HGV.out (.inr (row_ne HOO.out HQ1.out (by decide)))) HLO.out)
        obtain ⟨bq, oq, hAq, lbv, q0, q1, q2, q3, q4, q5, q6⟩ := HPV.out i p HPK.out
        subst hAq
        clear q1 q2 q3 q4 q5 q6
        refine wp_region_still_lit (by kernel_rfl) (by kernel_rfl) ?_
        change wpStill _ _ (wr).drew (fun a' => Exit.then _ _ Exit.normal a' (wr).drew) _ _
        rw [hV]
        clear hV
        with_reducible refine stTake (v := ?_) (by kernel_rfl) ?_ ?_; rotate_left
        · (go_simp; (try with_reducible rfl))
        (try simp only [Act.put, zl, List.set_cons_zero, List.set_cons_succ])
        with_reducible refine stTake (v := ?_) (by kernel_rfl) ?_ ?_; rotate_left
        · (go_simp; (try with_reducible rfl))
        (try simp only [Act.put, zl, List.set_cons_zero, List.set_cons_succ])
        with_reducible refine stTake (v := ?_) (by kernel_rfl) ?_ ?_; rotate_left
        · (go_simp; (try with_reducible rfl))
        (try simp only [Act.put, zl, List.set_cons_zero, List.set_cons_succ])
        with_reducible refine stTake (v := ?_) (by kernel_rfl) ?_ ?_; rotate_left
        · (go_simp; (try with_reducible rfl))
        (try simp only [Act.put, zl, List.set_cons_zero, List.set_cons_succ])
        with_reducible refine stTake (v := ?_) (by kernel_rfl) ?_ ?_; rotate_left
        · (go_simp; (try with_reducible rfl))
        (try simp only [Act.put, zl, List.set_cons_zero, List.set_cons_succ])
        with_reducible refine stTake (v := ?_) (by kernel_rfl) ?_ ?_; rotate_left
        · (go_simp; (try with_reducible rfl))
        (try simp only [Act.put, zl, List.set_cons_zero, List.set_cons_succ])
        with_reducible refine stTake (v := ?_) (by kernel_rfl) ?_ ?_; rotate_left
        · (go_simp; (try with_reducible rfl))
        (try simp only [Act.put, zl, List.set_cons_zero, List.set_cons_succ])
        with_reducible refine stCall (v := .bool true) (f := 50) (args := #[.slice A3 n3 c3, .int .i64 p.player]) (by kernel_rfl) (by go_simp) ((In_any A3 n3 c3 ins p.player V HN3.out ((HR3.out.below HWV.out).mono HWV.out.size) (by omega)).mono (fun e w h => ⟨h.1.trans (by rw [HC.out]), h.2.symm⟩)) ?_
        (try simp only [Act.put, zl, List.set_cons_zero, List.set_cons_succ])
        with_reducible refine stTake (v := ?_) (by kernel_rfl) ?_ ?_; rotate_left
        · (go_simp; (try with_reducible rfl))
        (try simp only [Act.put, zl, List.set_cons_zero, List.set_cons_succ])
        refine wpStill_nil ?_
        clear vs3 lvs
        go_wp2_with fail
        go_roundw
        case rel => exact ⟨i + 1, B, k, c4, outs, by omega, by go_num, HL, hide (by rw [HST.out, HC.out, if_pos rfl, List.append_nil]; exact HE.out), HOV, HQV, HGV⟩
        case measure => simp [intOf]; omega
    · have him : m = i := by omega
      subst him
      have HE1 := hide (show outs = outF os ins by rw [HE.out, List.take_of_length_le (by rw [HLO.out]; exact Nat.le_refl _)])
      have HTR := hide ((HGR.out.block _ (blk_lt HT1.out) (fun e => by have := Option.some.inj e; omega)).trans HT1.out)
      have HBW := hide (HB01.out.trans (grown_below HGR.out HB01.out.size (fun g hg => by cases hg; exact HQL.out)))
      have s0 : wr.cell? ⟨q, 0, none⟩ = some (.slice A3 n3 c3) := (blk_cell HQR.out 0).trans rfl
      have s1 : wr.cell? ⟨q, 1, none⟩ = some (.slice A2 n2 c2) := (blk_cell HQR.out 1).trans rfl
      have s2 : wr.cell? ⟨q, 2, none⟩ = some (.slice B k c4) := (blk_cell HQR.out 2).trans rfl
      have s3 : wr.cell? ⟨q, 3, none⟩ = some (.int .i64 (f.places + bk - (n3 : Int))) := (blk_cell HQR.out 3).trans rfl
      have ls := blk_lt HQR.out
      have t0 : wr.cell? ⟨w.heap.size + 1 + 1, 0, none⟩ = some (.slice none 0 0) := (blk_cell HTR.out 0).trans rfl
      have t1 : wr.cell? ⟨w.heap.size + 1 + 1, 1, none⟩ = some (.slice none 0 0) := (blk_cell HTR.out 1).trans rfl
      have t2 : wr.cell? ⟨w.heap.size + 1 + 1, 2, none⟩ = some (.slice none 0 0) := (blk_cell HTR.out 2).trans rfl
      have t3 : wr.cell? ⟨w.heap.size + 1 + 1, 3, none⟩ = some (.int .i64 0) := (blk_cell HTR.out 3).trans rfl
      have lt := blk_lt HTR.out
      have fz0 := blk_frozen HTR.out 0
      have fz1 := blk_frozen HTR.out 1
      have fz2 := blk_frozen HTR.out 2
      have fz3 := blk_frozen HTR.out 3
      go_wp2_with fail
      obtain ⟨w9, hw9⟩ : ∃ q, (((wr.setCell ⟨w.heap.size + 1 + 1, 0, none⟩ (.slice A3 n3 c3)).setCell ⟨w.heap.size + 1 + 1, 1, none⟩ (.slice A2 n2 c2)).setCell ⟨w.heap.size + 1 + 1, 2, none⟩ (.slice B k c4)).setCell ⟨w.heap.size + 1 + 1, 3, none⟩ (.int .i64 (f.places + bk - (n3 : Int))) = q := ⟨_, rfl⟩
      have HT9 := hide (show w9.heap[w.heap.size + 1 + 1]? = some (.cells #[.slice A3 n3 c3, .slice A2 n2 c2, .slice B k c4, .int .i64 (f.places + bk - (n3 : Int))] 33 (0, 0)) by rw [← hw9]; exact blk_set (blk_set (blk_set (blk_set HTR.out 0 _) 1 _) 2 _) 3 _)
      have HG9 := hide (show wr.grownBy w9 (some (w.heap.size + 1 + 1)) by rw [← hw9]; exact gr_trans (gr_trans (gr_trans (gr_set _ _ _ _) (gr_set _ _ _ _)) (gr_set _ _ _ _)) (gr_set _ _ _ _))
      have HO9 := hide (HO.out.kept HG9.out (.inr (row_ne HO.out HTR.out (by decide))))
      have HB9 := hide (HBW.out.trans (grown_below HG9.out HBW.out.size (fun g hg => by cases hg; omega)))
      rw [hw9]
      clear hw9 s0 s1 s2 s3 t0 t1 t2 t3 fz0 fz1 fz2 fz3 ls lt
      have r0 : w9.cell? ⟨w.heap.size + 1 + 1, 0, none⟩ = some (.slice A3 n3 c3) := (blk_cell HT9.out 0).trans rfl
      have r1 : w9.cell? ⟨w.heap.size + 1 + 1, 1, none⟩ = some (.slice A2 n2 c2) := (blk_cell HT9.out 1).trans rfl
      have r2 : w9.cell? ⟨w.heap.size + 1 + 1, 2, none⟩ = some (.slice B k c4) := (blk_cell HT9.out 2).trans rfl
      have r3 : w9.cell? ⟨w.heap.size + 1 + 1, 3, none⟩ = some (.int .i64 (f.places + bk - (n3 : Int))) := (blk_cell HT9.out 3).trans rfl
      exact bodyPost_ret (v := .agg #[.slice A3 n3 c3, .slice A2 n2 c2, .slice B k c4, .int .i64 (f.places + bk - (n3 : Int))]) (by simp [results, Try.results35, go_sem, r0, r1, r2, r3]) rfl ⟨B, k, c4, rfl, by rw [HOS.out, ← HE1.out]; exact HL.out, by rw [HOS.out, ← HE1.out]; exact owns_mono HO9.out HB01.out.size, HB9.out⟩
end Go.Proofs.Ytdhaalonnmajkaa

namespace Go.Proofs.Ytdhaalonnmajkaa
open Go.RowKit Go.Sort
attribute [local go_sem ↓] Go.wp_at_zero Go.wp_at_succ

def TakenP : Prop := ∀ (A : Option Addr) (n c : Nat) (l d : List E.Nt) (w : World), l.length = n → RdN w w.heap.size A l → E.diffs l = some d →
    Calls Try.prog 51 #[.slice A n c] w fun e w' => ∃ A' m c', e = .returned (.slice A' m c') ∧ d.length = m ∧ w'.ownsRow w.heap.size 40 5 (.slice A' m c') m (flatN d) ∧ Below w.heap.size w w'
def OneOk (f : E.Fd) (s : E.Rs) (x : E.Nt) : Prop := s.people.length ≤ 199 ∧ s.wilds.length ≤ 199 ∧ 0 ≤ s.back ∧ s.back ≤ 200 ∧ ((E.rtake f s x).people.map E.Rp.player).Nodup ∧ (∀ p ∈ (E.rtake f s x).people, 0 ≤ p.player) ∧ (E.rtake f s x).people.length ≤ 200 ∧ (E.rtake f s x).ins.length ≤ 400 ∧ (0 ≤ (E.rtake f s x).back ∧ (E.rtake f s x).back ≤ 1000)
def aftF (f : E.Fd) (d : List E.Nt) (h : Int) : E.Rs := (d.takeWhile fun x => decide (x.hour ≤ h)).foldl (E.rone f) E.Rs.new
theorem takeWhile_all {d : List E.Nt} {h : Int} {i : Nat} (hi : ∀ j y, j < i → d[j]? = some y → y.hour ≤ h) (hs : d.length ≤ i ∨ ∃ y, d[i]? = some y ∧ h < y.hour) : d.takeWhile (fun x => decide (x.hour ≤ h)) = d.take i := by
  induction d generalizing i with
  | nil => simp
  | cons a r ih =>
    cases i with
    | zero =>
      rcases hs with c | ⟨y, hy, c⟩
      · simp at c
      · have e : a = y := Option.some.inj hy
        subst e
        rw [List.takeWhile_cons_of_neg (by simp; omega)]
        rfl
    | succ i =>
      have h0 := hi 0 a (by omega) rfl
      rw [List.takeWhile_cons_of_pos (by simp; omega), List.take_succ_cons, ih (i := i) (fun j y hj hy => hi (j + 1) y (by omega) hy) (by
        rcases hs with c | ⟨y, hy, c⟩
        · left; rw [List.length_cons] at c; omega
        · right; exact ⟨y, hy, c⟩)]
set_option maxHeartbeats 6400000 in
set_option maxRecDepth 100000 in
theorem After_ref (hT : TakeP) (hK : TakenP) (f : E.Fd) (A : Option Addr) (n c : Nat) (l d : List E.Nt) (h : Int) (w : World) (hn : l.length = n) (hr : RdN w w.heap.size A l) (hd : E.diffs l = some d) (hm : d.length ≤ 60) (hok : ∀ (i : Nat) (x : E.Nt), d[i]? = some x → OneOk f ((d.take i).foldl (E.rone f) E.Rs.new) x) (hp : 0 ≤ f.places ∧ f.places ≤ 1000) :
    Calls Try.prog 36 #[.agg #[.int .i64 f.places, .int .i64 f.wilds, .int .i64 f.guards, .int .i64 f.close, .int .i64 f.freeze], .slice A n c, .int .i64 h] w fun e w' => ∃ v, e = .returned v ∧ StW w' (fun b => w.heap.size ≤ b) v (aftF f d h) ∧ Below w.heap.size w w' := by
  have HN := hide hn
  have HR := hide hr
  have HD := hide hd
  have HM := hide hm
  have HOKS := hide hok
  have HPL := hide hp
  clear hn hr hd hm hok hp
  go_enter Try.func36, Try.ntmps36
  go_upto_region 2 with fail
  obtain ⟨w0, hw0⟩ : ∃ q, ((w.alloc (.cells #[.int .i64 f.places, .int .i64 f.wilds, .int .i64 f.guards, .int .i64 f.close, .int .i64 f.freeze] 23)).alloc (.cells #[.slice none 0 0, .slice none 0 0, .int .i64 0, .slice none 0 0] 78)).alloc (.cells #[.slice none 0 0, .slice none 0 0, .int .i64 0, .slice none 0 0] 78) = q := ⟨_, rfl⟩
  have HB0 := hide (show Below w.heap.size w w0 by rw [← hw0]; (repeat' first | exact zbR _ _ | assumption | refine zbD ?_ | refine zbA ?_ ?_ _ | refine zbS ?_ ?_ _ | refine zbT ?_ (by assumption) ?_ | (simp; done) | (simp; omega) | omega))
  have HF0 := hide (show w0.heap[w.heap.size]? = some (.cells #[.int .i64 f.places, .int .i64 f.wilds, .int .i64 f.guards, .int .i64 f.close, .int .i64 f.freeze] 23 (0, 0)) by rw [← hw0]; exact (Below.heap_alloc _ _ _ (by first | (simp; done) | (simp; omega) | omega)).trans ((Below.heap_alloc _ _ _ (by first | (simp; done) | (simp; omega) | omega)).trans (World.alloc_heap_new _ _)))
  have HT0 := hide (show w0.heap[w.heap.size + 1]? = some (.cells #[.slice none 0 0, .slice none 0 0, .int .i64 0, .slice none 0 0] 78 (0, 0)) by rw [← hw0]; exact (Below.heap_alloc _ _ _ (by first | (simp; done) | (simp; omega) | omega)).trans ((congrArg _ (by simp)).trans (World.alloc_heap_new _ _)))
  have HA0 := hide (show w0.heap[w.heap.size + 1 + 1]? = some (.cells #[.slice none 0 0, .slice none 0 0, .int .i64 0, .slice none 0 0] 78 (0, 0)) by rw [← hw0]; exact (congrArg _ (by simp)).trans (World.alloc_heap_new _ _))
  rw [hw0]
  clear hw0
  go_upto_region 3 with (go_at_call 51; refine (hK A n c l d w0 HN.out ((HR.out.below HB0.out).mono HB0.out.size) HD.out).mono ?_; rintro e w1 ⟨A1, m, c1, rfl, hlen, hown, hb1⟩; have HL := hide hlen; have HO := hide hown; have HB1 := hide hb1; clear hlen hown hb1)
  have HF1 := hide ((HB1.out.block _ (blk_lt HF0.out)).trans HF0.out)
  have HT1 := hide ((HB1.out.block _ (blk_lt HT0.out)).trans HT0.out)
  have HA1 := hide ((HB1.out.block _ (blk_lt HA0.out)).trans HA0.out)
  have HBW1 := hide (zbT HB0.out HB1.out HB0.out.size)
  clear HF0 HT0 HA0
  go_wp2_with fail
  go_loopw [9] (fun i wr => ∃ (i' : Nat) (An : Option Addr) (nn cn : Nat) (A2 : Option Addr) (n2 c2 : Nat) (bk : Int) (A3 : Option Addr) (n3 c3 : Nat), i' ≤ m ∧ i = .int .i64 i' ∧ Hid (∀ j y, j < i' → d[j]? = some y → y.hour ≤ h) ∧ Hid (StW wr (fun b => w1.heap.size ≤ b) (.agg #[.slice An nn cn, .slice A2 n2 c2, .int .i64 bk, .slice A3 n3 c3]) ((d.take i').foldl (E.rone f) E.Rs.new)) ∧ Hid (wr.heap[w.heap.size + 1 + 1]? = some (.cells #[.slice An nn cn, .slice A2 n2 c2, .int .i64 bk, .slice A3 n3 c3] 78 (0, 0))) ∧ Hid (w1.grownBy wr (some (w.heap.size + 1 + 1)))) (fun i _ => m - (intOf i).toNat)
  case atStart => exact ⟨0, none, 0, 0, none, 0, 0, 0, none, 0, 0, by omega, rfl, hide (fun j y hj => by omega), hide ⟨none, 0, 0, none, 0, 0, none, 0, 0, rfl, rfl, fun _ => rfl, rfl, fun _ => rfl, rfl, fun W _ _ => ⟨RdP.nil _ _ _, fun k p hk => by simp [E.Rs.new] at hk, fun k p hk => by simp [E.Rs.new] at hk⟩⟩, HA1, hide (World.grownBy.refl _ _)⟩
  case round =>
    obtain ⟨i, An, nn, cn, A2, n2, c2, bk, A3, n3, c3, hi, rfl, HJ, HSW, HAR, HGR⟩ := hrel
    have hm4 : m ≤ 60 := by have h1 := HL.out; have h2 := HM.out; omega
    by_cases hin : i < m
    · obtain ⟨x, hx⟩ : ∃ q, d[i]? = some q := ⟨_, List.getElem?_eq_getElem (by have := HL.out; omega)⟩
      have HX := hide hx
      have HOK := hide (HOKS.out i x hx)
      clear hx
      have hi1 : (i : Int) < (m : Int) := by omega
      have hi0 : (0 : Int) ≤ (i : Int) := by omega
      have HDR := hide (owns_RdN (HO.out.kept HGR.out (.inr (row_ne HO.out HA1.out (by decide)))) HL.out)
      obtain ⟨bd, od, hA, hbd, d0, d1, d2, d3, d4⟩ := HDR.out i x HX.out
      subst hA
      by_cases hx : h < x.hour
      · have HTW := hide (takeWhile_all HJ.out (.inr ⟨x, HX.out, hx⟩))
        have HTR := hide ((HGR.out.block _ (blk_lt HT1.out) (fun e => by have := Option.some.inj e; omega)).trans HT1.out)
        have HBW := hide (HBW1.out.trans (grown_below HGR.out HBW1.out.size (fun g hg => by cases hg; omega)))
        have ys0 : wr.cell? ⟨w.heap.size + 1 + 1, 0, none⟩ = some (.slice An nn cn) := (blk_cell HAR.out 0).trans rfl
        have ys1 : wr.cell? ⟨w.heap.size + 1 + 1, 1, none⟩ = some (.slice A2 n2 c2) := (blk_cell HAR.out 1).trans rfl
        have ys2 : wr.cell? ⟨w.heap.size + 1 + 1, 2, none⟩ = some (.int .i64 bk) := (blk_cell HAR.out 2).trans rfl
        have ys3 : wr.cell? ⟨w.heap.size + 1 + 1, 3, none⟩ = some (.slice A3 n3 c3) := (blk_cell HAR.out 3).trans rfl
        have lys := blk_lt HAR.out
        have yt0 : wr.cell? ⟨w.heap.size + 1, 0, none⟩ = some (.slice none 0 0) := (blk_cell HTR.out 0).trans rfl
        have yt1 : wr.cell? ⟨w.heap.size + 1, 1, none⟩ = some (.slice none 0 0) := (blk_cell HTR.out 1).trans rfl
        have yt2 : wr.cell? ⟨w.heap.size + 1, 2, none⟩ = some (.int .i64 0) := (blk_cell HTR.out 2).trans rfl
        have yt3 : wr.cell? ⟨w.heap.size + 1, 3, none⟩ = some (.slice none 0 0) := (blk_cell HTR.out 3).trans rfl
        have lyt := blk_lt HTR.out
        have fz0 := blk_frozen HTR.out 0
        have fz1 := blk_frozen HTR.out 1
        have fz2 := blk_frozen HTR.out 2
        have fz3 := blk_frozen HTR.out 3
        go_wp2_with fail
        obtain ⟨w8, hw8⟩ : ∃ q, (((wr.setCell ⟨w.heap.size + 1, 0, none⟩ (.slice An nn cn)).setCell ⟨w.heap.size + 1, 1, none⟩ (.slice A2 n2 c2)).setCell ⟨w.heap.size + 1, 2, none⟩ (.int .i64 bk)).setCell ⟨w.heap.size + 1, 3, none⟩ (.slice A3 n3 c3) = q := ⟨_, rfl⟩
        have HT8 := hide (show w8.heap[w.heap.size + 1]? = some (.cells #[.slice An nn cn, .slice A2 n2 c2, .int .i64 bk, .slice A3 n3 c3] 78 (0, 0)) by rw [← hw8]; exact blk_set (blk_set (blk_set (blk_set HTR.out 0 _) 1 _) 2 _) 3 _)
        have HG8 := hide (show wr.grownBy w8 (some (w.heap.size + 1)) by rw [← hw8]; exact gr_trans (gr_trans (gr_trans (gr_set _ _ _ _) (gr_set _ _ _ _)) (gr_set _ _ _ _)) (gr_set _ _ _ _))
        rw [hw8]
        clear hw8
        have HB8 := hide (HBW.out.trans (grown_below HG8.out HBW.out.size (fun g hg => by cases hg; omega)))
        have HS8 := hide (show StW w8 (fun b => w.heap.size ≤ b) (.agg #[.slice An nn cn, .slice A2 n2 c2, .int .i64 bk, .slice A3 n3 c3]) (aftF f d h) by
          unfold aftF
          rw [HTW.out]
          exact HSW.out.to HG8.out.size (fun b hb hk => HG8.out.block b hb (fun e => by have h2 := Option.some.inj e; have h3 := blk_lt HT1.out; omega)) (fun b hb hk => Nat.le_trans HBW1.out.size hk))
        have r0 : w8.cell? ⟨w.heap.size + 1, 0, none⟩ = some (.slice An nn cn) := (blk_cell HT8.out 0).trans rfl
        have r1 : w8.cell? ⟨w.heap.size + 1, 1, none⟩ = some (.slice A2 n2 c2) := (blk_cell HT8.out 1).trans rfl
        have r2 : w8.cell? ⟨w.heap.size + 1, 2, none⟩ = some (.int .i64 bk) := (blk_cell HT8.out 2).trans rfl
        have r3 : w8.cell? ⟨w.heap.size + 1, 3, none⟩ = some (.slice A3 n3 c3) := (blk_cell HT8.out 3).trans rfl
        have lr := blk_lt HT8.out
        exact bodyPost_ret (v := .agg #[.slice An nn cn, .slice A2 n2 c2, .int .i64 bk, .slice A3 n3 c3]) (by simp [results, Try.results36, go_sem, r0, r1, r2, r3]) rfl ⟨_, rfl, HS8.out, HB8.out⟩
      · have hx' : x.hour ≤ h := by omega
        clear hx
        go_upto_region 7 with fail
        have HFR := hide ((HGR.out.block _ (blk_lt HF1.out) (fun e => by have := Option.some.inj e; omega)).trans HF1.out)
        have hSof : ∀ w', Below wr.heap.size wr w' → Below wr.heap.size wr w' ∧ w'.cell? ⟨w.heap.size, 0, none⟩ = some (.int .i64 f.places) ∧ w'.cell? ⟨w.heap.size, 1, none⟩ = some (.int .i64 f.wilds) ∧ w'.cell? ⟨w.heap.size, 2, none⟩ = some (.int .i64 f.guards) ∧ w'.cell? ⟨w.heap.size, 3, none⟩ = some (.int .i64 f.close) ∧ w'.cell? ⟨w.heap.size, 4, none⟩ = some (.int .i64 f.freeze) ∧ w'.cell? ⟨w.heap.size + 1 + 1, 0, none⟩ = some (.slice An nn cn) ∧ w'.frozen? ⟨w.heap.size + 1 + 1, 0, none⟩ = false ∧ w'.cell? ⟨w.heap.size + 1 + 1, 1, none⟩ = some (.slice A2 n2 c2) ∧ w'.frozen? ⟨w.heap.size + 1 + 1, 1, none⟩ = false ∧ w'.cell? ⟨w.heap.size + 1 + 1, 2, none⟩ = some (.int .i64 bk) ∧ w'.frozen? ⟨w.heap.size + 1 + 1, 2, none⟩ = false ∧ w'.cell? ⟨w.heap.size + 1 + 1, 3, none⟩ = some (.slice A3 n3 c3) ∧ w'.frozen? ⟨w.heap.size + 1 + 1, 3, none⟩ = false ∧ w'.cell? ⟨bd, od + i * 5, none⟩ = some (.int .i64 x.id) ∧ w'.cell? ⟨bd, od + i * 5 + 1, none⟩ = some (.int .i64 x.hour) ∧ w'.cell? ⟨bd, od + i * 5 + 2, none⟩ = some (.int .i64 x.kind) ∧ w'.cell? ⟨bd, od + i * 5 + 3, none⟩ = some (.int .i64 x.player) ∧ w'.cell? ⟨bd, od + i * 5 + 4, none⟩ = some (.int .i64 x.rank) ∧ bd < w'.heap.size ∧ w.heap.size < w'.heap.size ∧ w.heap.size + 1 + 1 < w'.heap.size := fun w' hb => by
          have hF := (hb.block _ (blk_lt HFR.out)).trans HFR.out; have hA := (hb.block _ (blk_lt HAR.out)).trans HAR.out; exact ⟨hb, (blk_cell hF 0).trans rfl, (blk_cell hF 1).trans rfl, (blk_cell hF 2).trans rfl, (blk_cell hF 3).trans rfl, (blk_cell hF 4).trans rfl, (blk_cell hA 0).trans rfl, blk_frozen hA 0, (blk_cell hA 1).trans rfl, blk_frozen hA 1, (blk_cell hA 2).trans rfl, blk_frozen hA 2, (blk_cell hA 3).trans rfl, blk_frozen hA 3, (hb.cell (p := ⟨bd, _, none⟩) hbd).trans d0, (hb.cell (p := ⟨bd, _, none⟩) hbd).trans d1, (hb.cell (p := ⟨bd, _, none⟩) hbd).trans d2, (hb.cell (p := ⟨bd, _, none⟩) hbd).trans d3, (hb.cell (p := ⟨bd, _, none⟩) hbd).trans d4, Nat.lt_of_lt_of_le hbd hb.size, blk_lt hF, blk_lt hA⟩
        have hS : (fun w' => Below wr.heap.size wr w' ∧ w'.cell? ⟨w.heap.size, 0, none⟩ = some (.int .i64 f.places) ∧ w'.cell? ⟨w.heap.size, 1, none⟩ = some (.int .i64 f.wilds) ∧ w'.cell? ⟨w.heap.size, 2, none⟩ = some (.int .i64 f.guards) ∧ w'.cell? ⟨w.heap.size, 3, none⟩ = some (.int .i64 f.close) ∧ w'.cell? ⟨w.heap.size, 4, none⟩ = some (.int .i64 f.freeze) ∧ w'.cell? ⟨w.heap.size + 1 + 1, 0, none⟩ = some (.slice An nn cn) ∧ w'.frozen? ⟨w.heap.size + 1 + 1, 0, none⟩ = false ∧ w'.cell? ⟨w.heap.size + 1 + 1, 1, none⟩ = some (.slice A2 n2 c2) ∧ w'.frozen? ⟨w.heap.size + 1 + 1, 1, none⟩ = false ∧ w'.cell? ⟨w.heap.size + 1 + 1, 2, none⟩ = some (.int .i64 bk) ∧ w'.frozen? ⟨w.heap.size + 1 + 1, 2, none⟩ = false ∧ w'.cell? ⟨w.heap.size + 1 + 1, 3, none⟩ = some (.slice A3 n3 c3) ∧ w'.frozen? ⟨w.heap.size + 1 + 1, 3, none⟩ = false ∧ w'.cell? ⟨bd, od + i * 5, none⟩ = some (.int .i64 x.id) ∧ w'.cell? ⟨bd, od + i * 5 + 1, none⟩ = some (.int .i64 x.hour) ∧ w'.cell? ⟨bd, od + i * 5 + 2, none⟩ = some (.int .i64 x.kind) ∧ w'.cell? ⟨bd, od + i * 5 + 3, none⟩ = some (.int .i64 x.player) ∧ w'.cell? ⟨bd, od + i * 5 + 4, none⟩ = some (.int .i64 x.rank) ∧ bd < w'.heap.size ∧ w.heap.size < w'.heap.size ∧ w.heap.size + 1 + 1 < w'.heap.size) wr := hSof _ (zbR _ _)
        (try dsimp only at hS)
        refine wp_region_T_drew (S := (fun w' => Below wr.heap.size wr w' ∧ w'.cell? ⟨w.heap.size, 0, none⟩ = some (.int .i64 f.places) ∧ w'.cell? ⟨w.heap.size, 1, none⟩ = some (.int .i64 f.wilds) ∧ w'.cell? ⟨w.heap.size, 2, none⟩ = some (.int .i64 f.guards) ∧ w'.cell? ⟨w.heap.size, 3, none⟩ = some (.int .i64 f.close) ∧ w'.cell? ⟨w.heap.size, 4, none⟩ = some (.int .i64 f.freeze) ∧ w'.cell? ⟨w.heap.size + 1 + 1, 0, none⟩ = some (.slice An nn cn) ∧ w'.frozen? ⟨w.heap.size + 1 + 1, 0, none⟩ = false ∧ w'.cell? ⟨w.heap.size + 1 + 1, 1, none⟩ = some (.slice A2 n2 c2) ∧ w'.frozen? ⟨w.heap.size + 1 + 1, 1, none⟩ = false ∧ w'.cell? ⟨w.heap.size + 1 + 1, 2, none⟩ = some (.int .i64 bk) ∧ w'.frozen? ⟨w.heap.size + 1 + 1, 2, none⟩ = false ∧ w'.cell? ⟨w.heap.size + 1 + 1, 3, none⟩ = some (.slice A3 n3 c3) ∧ w'.frozen? ⟨w.heap.size + 1 + 1, 3, none⟩ = false ∧ w'.cell? ⟨bd, od + i * 5, none⟩ = some (.int .i64 x.id) ∧ w'.cell? ⟨bd, od + i * 5 + 1, none⟩ = some (.int .i64 x.hour) ∧ w'.cell? ⟨bd, od + i * 5 + 2, none⟩ = some (.int .i64 x.kind) ∧ w'.cell? ⟨bd, od + i * 5 + 3, none⟩ = some (.int .i64 x.player) ∧ w'.cell? ⟨bd, od + i * 5 + 4, none⟩ = some (.int .i64 x.rank) ∧ bd < w'.heap.size ∧ w.heap.size < w'.heap.size ∧ w.heap.size + 1 + 1 < w'.heap.size)) 7 (by kernel_rfl) ?_ (fun hD0 => ?_)
        · (try dsimp only); first | assumption | exact hSof _ (zbD (zbR _ _))
        refine takeT (v := ?_) 0 rfl (by kernel_rfl) (by kernel_rfl) (by kernel_rfl) (by kernel_rfl) (fun _ _ _ h => h) (Or.inl ⟨by rfl, ?_⟩) (by assumption) ?_; rotate_left
        · (intro w hSw; (try dsimp only at hSw); go_simp; try with_reducible rfl)
        try simp only [Act.put, zl, z0, z1]
        refine takeT (v := ?_) 1 rfl (by kernel_rfl) (by kernel_rfl) (by kernel_rfl) (by kernel_rfl) (fun _ _ _ h => h) (Or.inl ⟨by rfl, ?_⟩) (by assumption) ?_; rotate_left
        · (intro w hSw; (try dsimp only at hSw); go_simp; try with_reducible rfl)
        try simp only [Act.put, zl, z0, z1]
        refine takeT (v := ?_) 2 rfl (by kernel_rfl) (by kernel_rfl) (by kernel_rfl) (by kernel_rfl) (fun _ _ _ h => h) (Or.inl ⟨by rfl, ?_⟩) (by assumption) ?_; rotate_left
        · (intro w hSw; (try dsimp only at hSw); go_simp; try with_reducible rfl)
        try simp only [Act.put, zl, z0, z1]
        refine takeT (v := ?_) 3 rfl (by kernel_rfl) (by kernel_rfl) (by kernel_rfl) (by kernel_rfl) (fun _ _ _ h => h) (Or.inl ⟨by rfl, ?_⟩) (by assumption) ?_; rotate_left
        · (intro w hSw; (try dsimp only at hSw); go_simp; try with_reducible rfl)
        try simp only [Act.put, zl, z0, z1]
        refine takeT (v := ?_) 4 rfl (by kernel_rfl) (by kernel_rfl) (by kernel_rfl) (by kernel_rfl) (fun _ _ _ h => h) (Or.inl ⟨by rfl, ?_⟩) (by assumption) ?_; rotate_left
        · (intro w hSw; (try dsimp only at hSw); go_simp; try with_reducible rfl)
        try simp only [Act.put, zl, z0, z1]
        refine takeT (v := ?_) 5 rfl (by kernel_rfl) (by kernel_rfl) (by kernel_rfl) (by kernel_rfl) (fun _ _ _ h => h) (Or.inl ⟨by rfl, ?_⟩) (by assumption) ?_; rotate_left
        · (intro w hSw; (try dsimp only at hSw); go_simp; try with_reducible rfl)
        try simp only [Act.put, zl, z0, z1]
        refine wpAnyT_ready (rs := [6]) (by kernel_rfl) (by simp) ?_; refine consT 6 rfl (fun K hK => ?_) AllReadyT.nil
        (go_simp; go_at_call 52; refine (one_ref hT f (.agg #[.slice An nn cn, .slice A2 n2 c2, .int .i64 bk, .slice A3 n3 c3]) ((d.take i).foldl (E.rone f) E.Rs.new) x (fun b => w1.heap.size ≤ b) _ (HSW.out.to hD0.1.size (fun b hb _ => hD0.1.block b hb) (fun b _ hk => hk)) HOK.out.1 HOK.out.2.1 HOK.out.2.2.1 HOK.out.2.2.2.1 HOK.out.2.2.2.2.1 HOK.out.2.2.2.2.2.1 HOK.out.2.2.2.2.2.2.1 HOK.out.2.2.2.2.2.2.2.1 HOK.out.2.2.2.2.2.2.2.2 HPL.out).mono ?_; rintro e w9 ⟨v1, rfl, hst, hb9⟩; have hSn := hSof _ (zbT hD0.1 hb9 hD0.1.size); have HB9 := hide (zbT hD0.1 hb9 hD0.1.size); have HZ9 := hide hD0.1.size; obtain ⟨An', nn', cn', A2', n2', c2', A3', n3', c3', rfl, hst2⟩ := hst; have HST := hide hst2; clear hst2 hb9; (try dsimp only at hSn))
        refine hK.out _ _ ?_ (fun hD1 => ?_)
        · (try dsimp only); first | assumption | exact hSof _ (zbD (zbR _ _))
        clear hK K hD0; try simp only [Act.put, zl, z0, z1]
        refine wpAnyT_ready (rs := [7]) (by kernel_rfl) (by simp) ?_
        refine lastT rfl (fun K hK => ?_)
        (try dsimp only at hD1)
        go_simp
        refine hK.out _ _ ?_
        clear hK K
        try simp only [Act.put, zl, z0, z1]
        refine wpAnyT_done (by kernel_rfl) ?_ _
        (try dsimp only [Act.put, List.getElem_toArray, List.getElem_cons_succ, List.getElem_cons_zero])
        (try simp only [zl, z0, z1])
        clear hSn hS hSof d0 d1 d2 d3 d4
        have HA9 := hide ((HB9.out.block _ (blk_lt HAR.out)).trans HAR.out)
        obtain ⟨w10, hw10⟩ : ∃ q, (((w9.setCell ⟨w.heap.size + 1 + 1, 0, none⟩ (.slice An' nn' cn')).setCell ⟨w.heap.size + 1 + 1, 1, none⟩ (.slice A2' n2' c2')).setCell ⟨w.heap.size + 1 + 1, 2, none⟩ (.int .i64 (E.rone f ((d.take i).foldl (E.rone f) E.Rs.new) x).back)).setCell ⟨w.heap.size + 1 + 1, 3, none⟩ (.slice A3' n3' c3') = q := ⟨_, rfl⟩
        have HA10 := hide (show w10.heap[w.heap.size + 1 + 1]? = some (.cells #[.slice An' nn' cn', .slice A2' n2' c2', .int .i64 (E.rone f ((d.take i).foldl (E.rone f) E.Rs.new) x).back, .slice A3' n3' c3'] 78 (0, 0)) by rw [← hw10]; exact blk_set (blk_set (blk_set (blk_set HA9.out 0 _) 1 _) 2 _) 3 _)
        have HG10 := hide (show w9.grownBy w10 (some (w.heap.size + 1 + 1)) by rw [← hw10]; exact gr_trans (gr_trans (gr_trans (gr_set _ _ _ _) (gr_set _ _ _ _)) (gr_set _ _ _ _)) (gr_set _ _ _ _))
        rw [hw10]
        clear hw10
        have HFS := hide (show (d.take (i + 1)).foldl (E.rone f) E.Rs.new = E.rone f ((d.take i).foldl (E.rone f) E.Rs.new) x by rw [List.take_add_one, HX.out, List.foldl_append]; rfl)
        have HS9 := hide (show StW w10 (fun b => w1.heap.size ≤ b) (.agg #[.slice An' nn' cn', .slice A2' n2' c2', .int .i64 (E.rone f ((d.take i).foldl (E.rone f) E.Rs.new) x).back, .slice A3' n3' c3']) ((d.take (i + 1)).foldl (E.rone f) E.Rs.new) by
          rw [HFS.out]
          refine StW.to (w := w9) ⟨An', nn', cn', A2', n2', c2', A3', n3', c3', rfl, HST.out⟩ HG10.out.size (fun b hb hk => ?_) (fun b hb hk => ?_)
          · have h1 : w1.heap.size ≤ b := hk.elim id (fun h => Nat.le_trans HGR.out.size (Nat.le_trans HZ9.out h))
            exact HG10.out.block b hb (fun e => by have h2 := Option.some.inj e; have h3 := blk_lt HA1.out; omega)
          · exact hk.elim id (fun h => Nat.le_trans HGR.out.size (Nat.le_trans HZ9.out h)))
        have HGN := hide (gr_trans (gr_trans HGR.out (gr_wide (gr_of HB9.out))) HG10.out)
        go_wp2_with fail
        go_roundw
        case rel => exact ⟨i + 1, An', nn', cn', A2', n2', c2', _, A3', n3', c3', by omega, by go_num, hide (fun j y hj hy => by
            by_cases e : j = i
            · subst e
              rw [HX.out] at hy
              rw [← Option.some.inj hy]
              exact hx'
            · exact HJ.out j y (by omega) hy), HS9, HA10, HGN⟩
        case measure => simp [intOf]; omega
    · have him : m = i := by omega
      subst him
      have HTW := hide (takeWhile_all HJ.out (.inl (Nat.le_of_eq HL.out)))
      have HTR := hide ((HGR.out.block _ (blk_lt HT1.out) (fun e => by have := Option.some.inj e; omega)).trans HT1.out)
      have HBW := hide (HBW1.out.trans (grown_below HGR.out HBW1.out.size (fun g hg => by cases hg; omega)))
      have ys0 : wr.cell? ⟨w.heap.size + 1 + 1, 0, none⟩ = some (.slice An nn cn) := (blk_cell HAR.out 0).trans rfl
      have ys1 : wr.cell? ⟨w.heap.size + 1 + 1, 1, none⟩ = some (.slice A2 n2 c2) := (blk_cell HAR.out 1).trans rfl
      have ys2 : wr.cell? ⟨w.heap.size + 1 + 1, 2, none⟩ = some (.int .i64 bk) := (blk_cell HAR.out 2).trans rfl
      have ys3 : wr.cell? ⟨w.heap.size + 1 + 1, 3, none⟩ = some (.slice A3 n3 c3) := (blk_cell HAR.out 3).trans rfl
      have lys := blk_lt HAR.out
      have yt0 : wr.cell? ⟨w.heap.size + 1, 0, none⟩ = some (.slice none 0 0) := (blk_cell HTR.out 0).trans rfl
      have yt1 : wr.cell? ⟨w.heap.size + 1, 1, none⟩ = some (.slice none 0 0) := (blk_cell HTR.out 1).trans rfl
      have yt2 : wr.cell? ⟨w.heap.size + 1, 2, none⟩ = some (.int .i64 0) := (blk_cell HTR.out 2).trans rfl
      have yt3 : wr.cell? ⟨w.heap.size + 1, 3, none⟩ = some (.slice none 0 0) := (blk_cell HTR.out 3).trans rfl
      have lyt := blk_lt HTR.out
      have fz0 := blk_frozen HTR.out 0
      have fz1 := blk_frozen HTR.out 1
      have fz2 := blk_frozen HTR.out 2
      have fz3 := blk_frozen HTR.out 3
      go_wp2_with fail
      obtain ⟨w8, hw8⟩ : ∃ q, (((wr.setCell ⟨w.heap.size + 1, 0, none⟩ (.slice An nn cn)).setCell ⟨w.heap.size + 1, 1, none⟩ (.slice A2 n2 c2)).setCell ⟨w.heap.size + 1, 2, none⟩ (.int .i64 bk)).setCell ⟨w.heap.size + 1, 3, none⟩ (.slice A3 n3 c3) = q := ⟨_, rfl⟩
      have HT8 := hide (show w8.heap[w.heap.size + 1]? = some (.cells #[.slice An nn cn, .slice A2 n2 c2, .int .i64 bk, .slice A3 n3 c3] 78 (0, 0)) by rw [← hw8]; exact blk_set (blk_set (blk_set (blk_set HTR.out 0 _) 1 _) 2 _) 3 _)
      have HG8 := hide (show wr.grownBy w8 (some (w.heap.size + 1)) by rw [← hw8]; exact gr_trans (gr_trans (gr_trans (gr_set _ _ _ _) (gr_set _ _ _ _)) (gr_set _ _ _ _)) (gr_set _ _ _ _))
      rw [hw8]
      clear hw8
      have HB8 := hide (HBW.out.trans (grown_below HG8.out HBW.out.size (fun g hg => by cases hg; omega)))
      have HS8 := hide (show StW w8 (fun b => w.heap.size ≤ b) (.agg #[.slice An nn cn, .slice A2 n2 c2, .int .i64 bk, .slice A3 n3 c3]) (aftF f d h) by
        unfold aftF
        rw [HTW.out]
        exact HSW.out.to HG8.out.size (fun b hb hk => HG8.out.block b hb (fun e => by have h2 := Option.some.inj e; have h3 := blk_lt HT1.out; omega)) (fun b hb hk => Nat.le_trans HBW1.out.size hk))
      have r0 : w8.cell? ⟨w.heap.size + 1, 0, none⟩ = some (.slice An nn cn) := (blk_cell HT8.out 0).trans rfl
      have r1 : w8.cell? ⟨w.heap.size + 1, 1, none⟩ = some (.slice A2 n2 c2) := (blk_cell HT8.out 1).trans rfl
      have r2 : w8.cell? ⟨w.heap.size + 1, 2, none⟩ = some (.int .i64 bk) := (blk_cell HT8.out 2).trans rfl
      have r3 : w8.cell? ⟨w.heap.size + 1, 3, none⟩ = some (.slice A3 n3 c3) := (blk_cell HT8.out 3).trans rfl
      have lr := blk_lt HT8.out
      exact bodyPost_ret (v := .agg #[.slice An nn cn, .slice A2 n2 c2, .int .i64 bk, .slice A3 n3 c3]) (by simp [results, Try.results36, go_sem, r0, r1, r2, r3]) rfl ⟨_, rfl, HS8.out, HB8.out⟩
end Go.Proofs.Ytdhaalonnmajkaa

namespace Go.Proofs.Ytdhaalonnmajkaa
namespace E

def tbef (x y : Nt) : Bool := decide (x.hour < y.hour) || (decide (x.hour = y.hour) && decide (x.id < y.id))
def tins (out : List Nt) (x : Nt) : List Nt := if out.contains x then out else out.take (out.findIdx (tbef x)) ++ x :: out.drop (out.findIdx (tbef x))
theorem tins_mem (out : List Nt) (x y : Nt) : y ∈ tins out x ↔ y ∈ out ∨ y = x := by
  unfold tins
  split
  · rename_i h
    have h' : x ∈ out := by simpa using h
    constructor
    · exact .inl
    · rintro (h1 | rfl)
      · exact h1
      · exact h'
  · rw [List.mem_append, List.mem_cons]
    have e : y ∈ out ↔ y ∈ out.take (out.findIdx (tbef x)) ∨ y ∈ out.drop (out.findIdx (tbef x)) := by
      rw [← List.mem_append, List.take_append_drop]
    rw [e]
    constructor
    · rintro (h | h | h)
      · exact .inl (.inl h)
      · exact .inr h
      · exact .inl (.inr h)
    · rintro ((h | h) | h)
      · exact .inl h
      · exact .inr (.inr h)
      · exact .inr (.inl h)
theorem take_tbef (p : Nt → Bool) : ∀ (l : List Nt), ∀ y ∈ l.take (l.findIdx p), p y = false
  | [], y, h => by simp at h
  | a :: r, y, h => by
    rw [List.findIdx_cons] at h
    cases ha : p a with
    | true => rw [ha] at h; simp at h
    | false =>
      rw [ha] at h
      simp only [cond_false, List.take_succ_cons, List.mem_cons] at h
      rcases h with rfl | h
      · exact ha
      · exact take_tbef p r y h
theorem drop_tbef (x : Nt) : ∀ (l : List Nt), l.Pairwise (fun x y => leN x y = true) → ∀ y ∈ l.drop (l.findIdx (tbef x)), tbef x y = true
  | [], _, y, h => by simp at h
  | a :: r, hs, y, h => by
    rw [List.findIdx_cons] at h
    obtain ⟨h1, h2⟩ := List.pairwise_cons.1 hs
    cases ha : tbef x a with
    | true =>
      rw [ha] at h
      simp only [cond_true, List.drop_zero, List.mem_cons] at h
      rcases h with rfl | h
      · exact ha
      · have h3 := (leN_iff _ _).1 (h1 y h)
        unfold tbef at ha ⊢
        simp only [Bool.or_eq_true, Bool.and_eq_true, decide_eq_true_eq] at ha ⊢
        omega
    | false =>
      rw [ha] at h
      exact drop_tbef x r h2 y h
theorem tins_taken {out : List Nt} {x : Nt} (h : Taken out) (hx : validNotice x = true) (hid : ∀ y ∈ out, y.id = x.id → y = x) : Taken (tins out x) := by
  unfold tins
  split
  · exact h
  · rename_i hc
    have hc' : x ∉ out := by simpa using hc
    have hne : ∀ y ∈ out, y.id ≠ x.id := fun y hy e => hc' (hid y hy e ▸ hy)
    have hsub : ∀ (n : Nat) (y : Nt), y ∈ out.take n → y ∈ out := fun n y hy => List.mem_of_mem_take hy
    have hsub2 : ∀ (n : Nat) (y : Nt), y ∈ out.drop n → y ∈ out := fun n y hy => List.mem_of_mem_drop hy
    have hsplit := List.take_append_drop (out.findIdx (tbef x)) out
    have ids := h.ids
    have sorted := h.sorted
    rw [← hsplit, List.pairwise_append] at ids sorted
    refine ⟨?_, ?_, fun y hy => ?_⟩
    · rw [List.pairwise_append, List.pairwise_cons]
      refine ⟨ids.1, ⟨fun y hy e => hne y (hsub2 _ y hy) e.symm, ids.2.1⟩, fun a ha b hb => ?_⟩
      rcases List.mem_cons.1 hb with rfl | hb
      · exact hne a (hsub _ a ha)
      · exact ids.2.2 a ha b hb
    · rw [List.pairwise_append, List.pairwise_cons]
      refine ⟨sorted.1, ⟨fun y hy => ?_, sorted.2.1⟩, fun a ha b hb => ?_⟩
      · have := drop_tbef x out h.sorted y hy
        unfold tbef at this
        simp only [Bool.or_eq_true, Bool.and_eq_true, decide_eq_true_eq] at this
        rw [leN_iff]; omega
      · rcases List.mem_cons.1 hb with rfl | hb
        · have := take_tbef _ out a ha
          unfold tbef at this
          simp only [Bool.or_eq_false_iff, Bool.and_eq_false_iff, decide_eq_false_iff_not] at this
          rw [leN_iff]; omega
        · exact sorted.2.2 a ha b hb
    · rcases List.mem_append.1 hy with h1 | h1
      · exact h.valid y (hsub _ y h1)
      · rcases List.mem_cons.1 h1 with rfl | h1
        · exact hx
        · exact h.valid y (hsub2 _ y h1)
theorem tins_length (out : List Nt) (x : Nt) : (tins out x).length ≤ out.length + 1 := by
  unfold tins
  split
  · omega
  · rw [List.length_append, List.length_cons, List.length_take, List.length_drop]; omega
theorem tfold_length : ∀ (l out : List Nt), (l.foldl tins out).length ≤ out.length + l.length
  | [], out => by simp
  | a :: r, out => by
    rw [List.foldl_cons, List.length_cons]
    have h1 := tfold_length r (tins out a)
    have h2 := tins_length out a
    omega
theorem tfold {l : List Nt} : ∀ (out : List Nt), Taken out → (∀ x ∈ l, validNotice x = true) → (∀ x, x ∈ out ∨ x ∈ l → ∀ y, y ∈ out ∨ y ∈ l → y.id = x.id → y = x) → Taken (l.foldl tins out) ∧ ∀ y, y ∈ l.foldl tins out ↔ y ∈ out ∨ y ∈ l := by
  induction l with
  | nil => intro out h _ _; exact ⟨h, fun y => by simp⟩
  | cons a r ih =>
    intro out h hv hid
    rw [List.foldl_cons]
    have h1 := tins_taken h (hv a (List.mem_cons_self ..)) (fun y hy e => hid a (.inr (List.mem_cons_self ..)) y (.inl hy) e)
    have hsame : ∀ x, x ∈ tins out a ∨ x ∈ r → x ∈ out ∨ x ∈ a :: r := fun x hx => by
      rcases hx with hx | hx
      · rcases (tins_mem out a x).1 hx with h2 | rfl
        · exact .inl h2
        · exact .inr (List.mem_cons_self ..)
      · exact .inr (List.mem_cons_of_mem _ hx)
    obtain ⟨h2, h3⟩ := ih (tins out a) h1 (fun x hx => hv x (List.mem_cons_of_mem _ hx)) (fun x hx y hy e => hid x (hsame x hx) y (hsame y hy) e)
    refine ⟨h2, fun y => ?_⟩
    rw [h3, tins_mem, List.mem_cons]
    constructor
    · rintro ((h | h) | h)
      · exact .inl h
      · exact .inr (.inl h)
      · exact .inr (.inr h)
    · rintro (h | h | h)
      · exact .inl (.inl h)
      · exact .inl (.inr h)
      · exact .inr h
theorem taken_same {l d : List Nt} (hd : diffs l = some d) : l.foldl tins [] = d := by
  obtain ⟨_, ht, hm⟩ := diffs_spec hd
  obtain ⟨h1, h2⟩ := tfold (l := l) [] ⟨List.Pairwise.nil, List.Pairwise.nil, fun x hx => by cases hx⟩ (fun x hx => ht.valid x ((hm x).2 hx)) (fun x hx y hy e => ids_inj ht.ids y ((hm y).2 (by simpa using hy)) x ((hm x).2 (by simpa using hx)) e)
  exact taken_eq h1 ht (fun y => by rw [h2, hm]; simp)

theorem takeWhile_filter {H : Int} : ∀ {d : List Nt}, d.Pairwise (fun a b => a.hour ≤ b.hour) → d.takeWhile (fun x => decide (x.hour ≤ H)) = d.filter (fun x => decide (x.hour ≤ H))
  | [], _ => rfl
  | a :: r, hs => by
    obtain ⟨h1, h2⟩ := List.pairwise_cons.1 hs
    by_cases c : a.hour ≤ H
    · rw [List.takeWhile_cons_of_pos (by simpa using c), List.filter_cons_of_pos (by simpa using c), takeWhile_filter h2]
    · rw [List.takeWhile_cons_of_neg (by simpa using c), List.filter_cons_of_neg (by simpa using c)]
      symm
      rw [List.filter_eq_nil_iff]
      intro y hy
      have := h1 y hy
      simp only [decide_eq_true_eq]
      omega
theorem aft_same (f : Fd) {d : List Nt} (h : Taken d) (H : Int) : aftF f d H = rafter f d H := by
  unfold aftF rafter
  rw [takeWhile_filter (taken_hours h)]

structure RBd (k : Nat) (r : Rs) : Prop where
  people : r.people.length ≤ k
  wilds : r.wilds.length ≤ k
  back0 : 0 ≤ r.back
  back : r.back ≤ (k : Int)
  num : ∀ p ∈ r.people, 0 ≤ p.player
theorem with_length (r : Rs) (k : Int) : (r.with_ k).length ≤ r.people.length + 1 := by
  unfold Rs.with_
  split
  · omega
  · rw [List.length_append]; simp
theorem rtake_bd {f : Fd} {r : Rs} {k : Nat} (h : RBd k r) (x : Nt) (hx : 0 ≤ x.player) : RBd (k + 1) (rtake f r x) := by
  obtain ⟨h1, h2, h3, h4, h5⟩ := h
  have hw := with_length r x.player
  have hwn : ∀ p ∈ r.with_ x.player, 0 ≤ p.player := by
    intro p hp
    unfold Rs.with_ at hp
    split at hp
    · exact h5 p hp
    · rcases List.mem_append.1 hp with h6 | h6
      · exact h5 p h6
      · simp only [List.mem_singleton] at h6; rw [h6]; exact hx
  have hget : 0 ≤ ((r.with_ x.player).getD (idxR (r.with_ x.player) x.player) (Rp.new x.player)).player := by
    rw [List.getD_eq_getElem?_getD]
    cases e : (r.with_ x.player)[idxR (r.with_ x.player) x.player]? with
    | none => exact hx
    | some p => exact hwn p (List.mem_of_getElem? e)
  have hset : ∀ (q : Rp), 0 ≤ q.player → ∀ p ∈ (r.with_ x.player).set (idxR (r.with_ x.player) x.player) q, 0 ≤ p.player := by
    intro q hq p hp
    rcases List.mem_or_eq_of_mem_set hp with h6 | h6
    · exact hwn p h6
    · rw [h6]; exact hq
  have key : ∀ (c : Prop) [Decidable c], 0 ≤ (if c then r.back + 1 else r.back) ∧ (if c then r.back + 1 else r.back) ≤ ((k + 1 : Nat) : Int) := by
    intro c _
    by_cases hc : c
    · rw [if_pos hc]; push_cast; omega
    · rw [if_neg hc]; push_cast; omega
  have same : RBd (k + 1) r := ⟨by omega, by omega, h3, by push_cast; omega, h5⟩
  unfold rtake
  dsimp only
  split
  · split
    · exact same
    · refine ⟨?_, by show r.wilds.length ≤ _; omega, h3, by show r.back ≤ _; push_cast; omega, fun p hp => ?_⟩
      · show ((r.with_ x.player).eraseIdx _ ++ [_]).length ≤ _
        rw [List.length_append, List.length_eraseIdx]
        have hlt := (idxR_lt (with_mem r x.player)).1
        rw [if_pos hlt]
        simp; omega
      · rcases List.mem_append.1 hp with h6 | h6
        · exact hwn p (List.mem_of_mem_eraseIdx h6)
        · simp only [List.mem_singleton] at h6; rw [h6]; exact hget
  · split
    · split
      · exact same
      · refine ⟨?_, ?_, h3, by show r.back ≤ _; push_cast; omega, hset _ hget⟩
        · show ((r.with_ x.player).set _ _).length ≤ _
          rw [List.length_set]; omega
        · show (r.wilds ++ [x.player]).length ≤ _
          rw [List.length_append]; simp; omega
    · split
      · refine ⟨?_, ?_, ?_, ?_, hset _ hget⟩
        · show ((r.with_ x.player).set _ _).length ≤ _
          rw [List.length_set]; omega
        · show (r.wilds.filter _).length ≤ _
          exact Nat.le_trans (List.length_filter_le _ _) (by omega)
        · exact (key _).1
        · exact (key _).2
      · split
        · refine ⟨?_, by show r.wilds.length ≤ _; omega, h3, by show r.back ≤ _; push_cast; omega, hset _ hget⟩
          show ((r.with_ x.player).set _ _).length ≤ _
          rw [List.length_set]; omega
        · refine ⟨?_, by show r.wilds.length ≤ _; omega, h3, by show r.back ≤ _; push_cast; omega, hset _ hget⟩
          show ((r.with_ x.player).set _ _).length ≤ _
          rw [List.length_set]; omega
theorem rone_bd {f : Fd} {r : Rs} {k : Nat} (h : RBd k r) (x : Nt) (hx : 0 ≤ x.player) : RBd (k + 1) (rone f r x) := by
  have h1 := rtake_bd (f := f) h x hx
  unfold rone
  dsimp only
  split <;> exact ⟨h1.people, h1.wilds, h1.back0, h1.back, h1.num⟩
theorem rfold_bd {f : Fd} : ∀ (l : List Nt) (r : Rs) (k : Nat), RBd k r → (∀ x ∈ l, 0 ≤ x.player) → RBd (k + l.length) (l.foldl (rone f) r)
  | [], _, _, h, _ => h
  | x :: l, r, k, h, hv => by
    have h1 := rfold_bd (f := f) l (rone f r x) (k + 1) (rone_bd h x (hv x (List.mem_cons_self ..))) (fun y hy => hv y (List.mem_cons_of_mem _ hy))
    rw [List.foldl_cons, List.length_cons, show k + (l.length + 1) = k + 1 + l.length from by omega]
    exact h1
end E
theorem one_ok {f : E.Fd} {l d : List E.Nt} (hd : E.diffs l = some d) (hv : E.validField f = true) : ∀ (i : Nat) (x : E.Nt), d[i]? = some x → OneOk f ((d.take i).foldl (E.rone f) E.Rs.new) x := by
  intro i x hx
  obtain ⟨_, ht, _⟩ := E.diffs_spec hd
  have hdl := E.diffs_len hd
  have hmem : x ∈ d := List.mem_of_getElem? hx
  have hxp := E.valid_player (ht.valid x hmem)
  have hsub : ∀ y ∈ d.take i, y ∈ d := fun y hy => List.mem_of_mem_take hy
  have hlen : (d.take i).length ≤ 60 := Nat.le_trans (List.length_take_le' i d) hdl
  have hside := E.rfold_side (d.take i) E.Rs.new (E.St.new f) (E.side_new f) (E.new_ok f) (Int.le_refl _) (E.plc_new hv) (fun p hp => by cases hp) (fun y hy => ht.valid y (hsub y hy)) ((E.taken_hours ht).sublist (List.take_sublist _ _)) (.inl rfl) (by
    have h1 : (E.St.new f).known.length = 0 := rfl
    omega)
  have hplc := E.plc_fold (d.take i) (E.St.new f) (E.new_ok f) (Int.le_refl _) (E.plc_new hv) (fun y hy => E.valid_player (ht.valid y (hsub y hy)))
  have hb := E.rfold_bd (f := f) (d.take i) E.Rs.new 0 ⟨by simp [E.Rs.new], by simp [E.Rs.new], Int.le_refl _, Int.le_refl _, fun p hp => by cases hp⟩ (fun y hy => (E.valid_player (ht.valid y (hsub y hy))).1)
  have hf := E.valid_places hv
  have hb2 := E.fold_bd (d.take i) (E.St.new f) 0 ⟨by show f.places ≤ _; omega, by simp [E.St.new], by simp [E.St.new], Int.le_refl _, by show 0 ≤ f.places; omega, Int.le_refl _⟩
  have hb1 := E.rtake_bd (f := f) hb x hxp.1
  have hT := E.said_side hside.1 hplc.cards x
  generalize (d.take i).foldl (E.rone f) E.Rs.new = r at *
  generalize (d.take i).foldl E.St.take (E.St.new f) = s at *
  have a1 := hb.people
  have a2 := hb.wilds
  have a3 := hb.back
  have a4 := hb1.people
  have a5 := hb1.back
  have a6 := hb2.main
  have a7 : (E.rtake f r x).ins = s.main := by rw [E.rtake_ins, hside.1.ins]
  refine ⟨by omega, by omega, hb.back0, by omega, hT.nd, hb1.num, by omega, by rw [a7]; omega, hb1.back0, by omega⟩
end Go.Proofs.Ytdhaalonnmajkaa

namespace Go.Proofs.Ytdhaalonnmajkaa
open Go.RowKit Go.Sort

theorem wpList_app_Ps {w : World} {ops : Array Oper} {rest : List Oper} {o : Oper} {a : Act} {Q : Exit → Act → World → Prop} (hgd : o.guard = none) (s x : Operand)
    (ho : o.op = .call { callee := .builtin .append, args := #[s, x], argTypes := #[76, 76] }) (base : Nat) (v : Value) (ps : List E.Rp) (m0 : Nat) (hs : a.eval s = v) (hown : w.ownsRow base 99 7 v m0 (flatP ps)) (hlen : ps.length = m0)
    (A : Option Addr) (n c : Nat) (xs : List E.Rp) (hx : a.eval x = .slice A n c) (hn : xs.length = n) (hr : RdP w w.heap.size A xs) (hA : A = none → c = 0) (h0 : m0 ≤ 1000) (h1 : n ≤ 1000) (hbase : base ≤ w.heap.size) (N : Nat) (hN : m0 + n = N)
    (h : ∀ A' c' w', w'.ownsRow base 99 7 (.slice A' N c') N (flatP (ps ++ xs)) → w.grownBy w' v.ownBlock → wpList Try.prog ops Q rest (a.put o.dst (.slice A' N c')) w') :
    wpList Try.prog ops Q (o :: rest) a w := by
  subst hN
  refine wpList_plain hgd fun K hK => ?_
  obtain ⟨A', c', w', hr', h2, h3⟩ := run_app_Ps o.type base v ps m0 hown hlen A n c xs hn hr hA h0 h1 hbase
  unfold Oper.wp execOp
  simp only [ho, resolve, invoke, builtin, Sem.run_bind, Sem.run_pure, Result.andThen_ok, List.map_toArray, List.map_cons, List.map_nil, hs, hx, hr']
  exact hK _ _ (h A' c' w' h2 h3)
theorem step_app_Is {w : World} {ops : Array Oper} {o : Oper} {a : Act} {K : Act → World → Prop} {Q : Exit → Act → World → Prop} {E' : Prop} (hgd : o.guard = none) (s x : Operand)
    (ho : o.op = .call { callee := .builtin .append, args := #[s, x], argTypes := #[31, 31] }) (base : Nat) (v : Value) (ps : List Int) (m0 : Nat) (hs : a.eval s = v) (hown : w.ownsRow base 3 1 v m0 (flatI ps))
    (A : Option Addr) (n c : Nat) (xs : List Int) (hx : a.eval x = .slice A n c) (hn : xs.length = n) (hr : RdI w w.heap.size A xs) (hA : A = none → c = 0) (h0 : m0 ≤ 1000) (h1 : n ≤ 1000) (hbase : base ≤ w.heap.size) (N : Nat) (hN : m0 + n = N)
    (h : ∀ A' c' w', w'.ownsRow base 3 1 (.slice A' N c') N (flatI (ps ++ xs)) → w.grownBy w' v.ownBlock → K (a.put o.dst (.slice A' N c')) w') :
    if Region.wanted o (yielded ops a.tmps) = true then Oper.wp Try.prog o a w K Q else E' := by
  subst hN
  have hw : Region.wanted o (yielded ops a.tmps) = true := by simp [Region.wanted, hgd]
  rw [if_pos hw]
  obtain ⟨A', c', w', hr', h2, h3⟩ := run_app_ints o.type base v ps m0 hown A n c xs hn hr hA h0 h1 hbase
  unfold Oper.wp execOp
  simp only [ho, resolve, invoke, builtin, Sem.run_bind, Sem.run_pure, Result.andThen_ok, List.map_toArray, List.map_cons, List.map_nil, hs, hx, hr']
  exact h A' c' w' h2 h3
theorem ownsI_empty {w : World} {q B : Nat} (hq : w.heap[q]? = some (.cells #[] 3 (0, 0))) (h : B ≤ q) : w.ownsRow B 3 1 (.slice (some ⟨q, 0, Option.none⟩) 0 0) 0 (flatI []) :=
  ⟨rfl, .inr ⟨q, 0, #[], rfl, h, hq, Nat.le_refl _, Nat.zero_le _, rfl, rfl⟩⟩

theorem step_app_PsL {w : World} {ops : Array Oper} {o : Oper} {a : Act} {K : Act → World → Prop} {Q : Exit → Act → World → Prop} {E' : Prop} (hgd : o.guard = none) (s x : Operand)
    (ho : o.op = .call { callee := .builtin .append, args := #[s, x], argTypes := #[76, 76] }) (base : Nat) (v : Value) (ps : List E.Rp) (m0 : Nat) (hs : a.eval s = v) (hown : w.ownsRow base 99 7 v m0 (flatP ps)) (hlen : ps.length = m0)
    (A : Option Addr) (n c : Nat) (xs : List E.Rp) (hx : a.eval x = .slice A n c) (hn : xs.length = n) (hr : RdP w w.heap.size A xs) (hA : A = none → c = 0) (h0 : m0 ≤ 1000) (h1 : n ≤ 1000) (hbase : base ≤ w.heap.size) (N : Nat) (hN : m0 + n = N)
    (h : ∀ A' c' w', w'.ownsRow base 99 7 (.slice A' N c') N (flatP (ps ++ xs)) → w.grownBy w' v.ownBlock → (∀ g, (Value.slice A' N c').ownBlock = some g → v.ownBlock = some g ∨ w.heap.size ≤ g) → K (a.put o.dst (.slice A' N c')) w') :
    if Region.wanted o (yielded ops a.tmps) = true then Oper.wp Try.prog o a w K Q else E' := by
  subst hN
  have hw : Region.wanted o (yielded ops a.tmps) = true := by simp [Region.wanted, hgd]
  rw [if_pos hw]
  obtain ⟨A', c', w', hr', h2, h3, h4⟩ : ∃ A' c' w', (Builtin.append_ #[76, 76] o.type #[v, .slice A n c]).run Try.prog w = .ok (.slice A' (m0 + n) c') w' ∧ w'.ownsRow base 99 7 (.slice A' (m0 + n) c') (m0 + n) (flatP (ps ++ xs)) ∧ w.grownBy w' v.ownBlock ∧ (∀ g, (Value.slice A' (m0 + n) c').ownBlock = some g → v.ownBlock = some g ∨ w.heap.size ≤ g) := by
    obtain ⟨i, hi, hz0, hz1, hz2⟩ := info_parts person_info
    rcases A with _ | ad
    · have hx0 : xs = [] := by
        match xs, hr with
        | [], _ => rfl
        | x :: r, hr => obtain ⟨_, _, e, _⟩ := hr 0 x rfl; cases e
      subst hx0
      have hn0 : n = 0 := by simpa using hn.symm
      subst hn0
      have hc0 := hA rfl
      subst hc0
      obtain ⟨A', c', rfl⟩ := own_form hown
      have hrun := run_append_owned_none (P := Try.prog) (w := w) base 76 o.type 99 i 7 Try.underlying76 hi (.slice A' m0 c') m0 (flatP ps) hown
      exact ⟨A', c', w, hrun, by simpa using hown, World.grownBy.refl w _, fun g hg => .inl hg⟩
    · obtain ⟨v', w', hrun, h2, h3, _, h5⟩ := run_append_own_at (P := Try.prog) w base 76 o.type 99 i _ 7 24 Try.underlying76 hi hz0 hz1 hz2 (by rfl) (by decide) v m0 (flatP ps) hown ad n c (flatP xs) (by rw [flatP_length, hn]) (by
        intro j u hj
        exact hr.cellAt hj) (flatP_one xs) (by unfold maxLen; omega) (by omega) hbase
      obtain ⟨A', c', rfl⟩ := own_form h2
      refine ⟨A', c', w', hrun, by rw [flatP_app]; exact h2, h3, fun g hg => ?_⟩
      rcases h5 with e | e
      · exact .inl (e ▸ hg)
      · rw [hg] at e
        exact .inr (by have := Option.some.inj e; omega)
  unfold Oper.wp execOp
  simp only [ho, resolve, invoke, builtin, Sem.run_bind, Sem.run_pure, Result.andThen_ok, List.map_toArray, List.map_cons, List.map_nil, hs, hx, hr']
  exact h A' c' w' h2 h3 h4
theorem own_fresh {w : World} {base : Nat} {e : TypeId} {n size : Nat} {xs : List Value} {v : Value} (h : w.ownsRow base e size v n xs) : v.ownBlock ≠ some w.heap.size := fun e' => by
  have := (h.lt _ e').2
  omega
theorem loc_ne {v v' : Value} {q u : Nat} (h : ∀ g, v'.ownBlock = some g → v.ownBlock = some g ∨ u ≤ g) (hv : v.ownBlock ≠ some q) (hq : q < u) : v'.ownBlock ≠ some q := fun e => by
  rcases h q e with h1 | h1
  · exact hv h1
  · omega

def set7 (L : List Value) (o : Nat) (y : E.Rp) : List Value := ((((((L.set o (.int .i64 y.player)).set (o + 1) (.int .i64 y.rank)).set (o + 2) (.bool y.grd)).set (o + 3) (.bool y.ent)).set (o + 4) (.bool y.quit)).set (o + 5) (.bool y.sgn)).set (o + 6) (.bool y.card)
theorem set7_flat : ∀ (xs : List E.Rp) (k : Nat) (y : E.Rp), set7 (flatP xs) (k * 7) y = flatP (xs.set k y)
  | [], k, y => by simp [flatP, set7]
  | x :: r, 0, y => by
    show set7 (pc x ++ flatP r) 0 y = pc y ++ flatP r
    rfl
  | x :: r, k + 1, y => by
    have ih := set7_flat r k y
    have e : (k + 1) * 7 = k * 7 + 7 := by omega
    rw [e]
    show set7 (pc x ++ flatP r) (k * 7 + 7) y = pc x ++ flatP (r.set k y)
    rw [← ih]
    rfl
theorem set7_take (L : List Value) (o n : Nat) (y : E.Rp) : (set7 L o y).take n = set7 (L.take n) o y := by
  unfold set7
  simp only [List.take_set]
theorem heap_set7 {w : World} {g : Nat} {cur : Array Value} {t : TypeId} (h : w.heap[g]? = some (.cells cur t (0, 0))) (o : Nat) (y : E.Rp) : ∃ cur', (w.setCells g o (pc y)).heap[g]? = some (.cells cur' t (0, 0)) ∧ cur'.toList = set7 cur.toList o y := by
  have h1 := blk_set h o (.int .i64 y.player)
  have h2 := blk_set h1 (o + 1) (.int .i64 y.rank)
  have h3 := blk_set h2 (o + 2) (.bool y.grd)
  have h4 := blk_set h3 (o + 3) (.bool y.ent)
  have h5 := blk_set h4 (o + 4) (.bool y.quit)
  have h6 := blk_set h5 (o + 5) (.bool y.sgn)
  have h7 := blk_set h6 (o + 6) (.bool y.card)
  refine ⟨_, h7, ?_⟩
  simp only [Array.toList_setIfInBounds]
  rfl
theorem grown_set7 (w : World) (g o : Nat) (y : E.Rp) : w.grownBy (w.setCells g o (pc y)) (some g) := by
  have e : w.setCells g o (pc y) = ((((((w.setCell ⟨g, o, Option.none⟩ (.int .i64 y.player)).setCell ⟨g, o + 1, Option.none⟩ (.int .i64 y.rank)).setCell ⟨g, o + 2, Option.none⟩ (.bool y.grd)).setCell ⟨g, o + 3, Option.none⟩ (.bool y.ent)).setCell ⟨g, o + 4, Option.none⟩ (.bool y.quit)).setCell ⟨g, o + 5, Option.none⟩ (.bool y.sgn)).setCell ⟨g, o + 6, Option.none⟩ (.bool y.card) := rfl
  rw [e]
  exact gr_trans (gr_trans (gr_trans (gr_trans (gr_trans (gr_trans (gr_set _ _ _ _) (gr_set _ _ _ _)) (gr_set _ _ _ _)) (gr_set _ _ _ _)) (gr_set _ _ _ _)) (gr_set _ _ _ _)) (gr_set _ _ _ _)
theorem own_set7 {w : World} {base g N c : Nat} {ms : List E.Rp} (h : w.ownsRow base 99 7 (.slice (some ⟨g, 0, Option.none⟩) N c) N (flatP ms)) (hlen : ms.length = N) (k : Nat) (y : E.Rp) : (w.setCells g (k * 7) (pc y)).ownsRow base 99 7 (.slice (some ⟨g, 0, Option.none⟩) N c) N (flatP (ms.set k y)) := by
  obtain ⟨h1, ⟨h2, _⟩ | ⟨g', cap, cur, e, hb, hblk, hc1, hc2, hsz, htk⟩⟩ := h
  · cases h2
  · simp only [Value.slice.injEq, Option.some.injEq, Addr.mk.injEq] at e
    obtain ⟨⟨rfl, _⟩, _, rfl⟩ := e
    obtain ⟨cur', hb', hl'⟩ := heap_set7 hblk (k * 7) y
    refine ⟨by rw [flatP_length, List.length_set, hlen], .inr ⟨g, c, cur', rfl, hb, hb', hc1, hc2, ?_, ?_⟩⟩
    · have : cur'.size = cur.size := by
        rw [← Array.length_toList, hl', ← Array.length_toList]
        unfold set7
        simp only [List.length_set]
      rw [this, hsz]
    · rw [hl', set7_take, htk, set7_flat]
theorem own_there7 {w : World} {base g N c : Nat} {ms : List E.Rp} (h : w.ownsRow base 99 7 (.slice (some ⟨g, 0, Option.none⟩) N c) N (flatP ms)) {k : Nat} (hk : k < N) : w.there g (k * 7) 7 := by
  obtain ⟨h1, ⟨h2, _⟩ | ⟨g', cap, cur, e, hb, hblk, hc1, hc2, hsz, htk⟩⟩ := h
  · cases h2
  · simp only [Value.slice.injEq, Option.some.injEq, Addr.mk.injEq] at e
    obtain ⟨⟨rfl, _⟩, _, rfl⟩ := e
    intro j hj
    refine ⟨?_, blk_frozen hblk _⟩
    rw [blk_cell hblk]
    have : k * 7 + j < cur.size := by rw [hsz]; have := Nat.mul_le_mul_right 7 (show k + 1 ≤ c by omega); omega
    rw [Array.getElem?_eq_getElem this]
    rfl
theorem pc_one (y : E.Rp) : (pc y).toArray.all (·.oneCell') = true := all_oneCell_toArray (fun v hv => by
  simp only [pc, List.mem_cons, List.not_mem_nil, or_false] at hv
  rcases hv with rfl | rfl | rfl | rfl | rfl | rfl | rfl <;> rfl)
theorem one4 {a b c d : Value} (h1 : a.oneCell' = true) (h2 : b.oneCell' = true) (h3 : c.oneCell' = true) (h4 : d.oneCell' = true) : (#[a, b, c, d] : Array Value).all (·.oneCell') = true := all_oneCell_toArray (cs := [a, b, c, d]) (fun v hv => by
  simp only [List.mem_cons, List.not_mem_nil, or_false] at hv
  rcases hv with rfl | rfl | rfl | rfl <;> assumption)
theorem rpSize : (Try.prog.info? 99).map (·.size) = some 7 := by kernel_rfl
theorem stSize : (Try.prog.info? 78).map (·.size) = some 4 := by kernel_rfl
theorem own_block7 {w : World} {base N c : Nat} {A : Option Addr} {ms : List E.Rp} (h : w.ownsRow base 99 7 (.slice A N c) N (flatP ms)) (hN : 0 < N) : ∃ g, A = some ⟨g, 0, none⟩ ∧ base ≤ g := by
  rcases h.2 with ⟨h1, h2⟩ | ⟨g, cap, cur, h1, hb, _⟩
  · omega
  · simp only [Value.slice.injEq] at h1
    exact ⟨g, h1.1, hb⟩

def IntsW (w : World) (ok : Nat → Prop) (v : Value) (xs : List Int) : Prop := ∃ (A : Option Addr) (n c : Nat), v = .slice A n c ∧ xs.length = n ∧ (A = none → c = 0) ∧ ∀ W : World, w.heap.size ≤ W.heap.size → (∀ b, b < w.heap.size → ok b → W.heap[b]? = w.heap[b]?) → RdI W W.heap.size A xs
theorem IntsW.to {w w' : World} {ok ok' : Nat → Prop} {v : Value} {xs : List Int} (h : IntsW w ok v xs) (hb : w.heap.size ≤ w'.heap.size) (hk : ∀ b, b < w.heap.size → ok b → w'.heap[b]? = w.heap[b]?) (ho : ∀ b, b < w.heap.size → ok b → ok' b) : IntsW w' ok' v xs := by
  obtain ⟨A, n, c, e, h1, h2, h3⟩ := h
  exact ⟨A, n, c, e, h1, h2, fun W hW hWb => h3 W (Nat.le_trans hb hW) (fun b hb2 hok => (hWb b (Nat.lt_of_lt_of_le hb2 hb) (ho b hb2 hok)).trans (hk b hb2 hok))⟩
theorem intsW_own {w : World} {base : Nat} {A : Option Addr} {n c : Nat} {xs : List Int} (h : w.ownsRow base 3 1 (.slice A n c) n (flatI xs)) (hn : xs.length = n) : IntsW w (fun b => base ≤ b) (.slice A n c) xs :=
  ⟨A, n, c, rfl, hn, own_nil h, fun W hW hk => (owns_RdI (owns_agree h (fun b hb hbase => hk b hb hbase)) hn)⟩
end Go.Proofs.Ytdhaalonnmajkaa

namespace Go.Proofs.Ytdhaalonnmajkaa
open Go.RowKit Go.Sort
attribute [local go_sem ↓] Go.wp_at_zero Go.wp_at_succ

noncomputable def rtakeReg (n : Nat) : Code := ((Try.f69.body.bind (regOf n)).getD .skip)

set_option maxRecDepth 100000 in
set_option maxHeartbeats 64000000 in
theorem rtake1 {K : Act → World → Prop} {Q : Exit → Act → World → Prop} (hp : ∀ c a d v w, Q (.panic c) (Act.put a d v) w → Q (.panic c) a w) (bS : Nat) (An : Option Addr) (nn cn : Nat) (ps : List E.Rp) (A2 A3 : Option Addr) (n2 c2 n3 c3 : Nat) (bk : Int) (W1 : World) (hbS : W1.heap[bS]? = some (.cells #[.slice An nn cn, .slice A2 n2 c2, .int .i64 bk, .slice A3 n3 c3] 78 (0, 0))) (hlen : ps.length = nn) (hr : RdP W1 W1.heap.size An ps) (hA : An = none → cn = 0) (hm : nn ≤ 400) (f0 f1 f2 f3 f5 f6 f7 f8 f9 f10 f11 f12 f13 f14 f15 f16 f17 f18 f19 f20 f21 f22 f23 f24 f25 f26 f27 f28 f29 f30 f31 f32 f33 f34 f35 f36 f37 f38 f39 f40 f41 f42 f43 f44 f45 f46 f47 f48 f49 f50 f51 f52 f53 f54 f55 f56 f57 f58 f59 f60 f61 f62 f63 f64 f65 f66 f67 f68 f69 f70 f71 f72 f73 f74 f75 f76 f77 f78 f79 f80 f81 f82 f83 f84 f85 f86 f87 f88 f89 f90 f91 f92 f93 f94 f95 f96 f97 f98 f99 f100 f101 f102 f103 f104 f105 f106 f107 f108 f109 f110 f111 f112 f113 f114 f115 f116 f117 f118 f119 f120 f121 f122 f123 f124 f125 f126 f127 f128 f129 f130 f131 f132 f133 f134 f135 f136 f137 f138 f139 f140 f141 f142 f143 f144 f145 f146 f147 f148 f149 f150 f151 f152 f153 f154 : Value)
    (hK : ∀ (u10 u11 u12 u13 u14 u15 u16 u17 u18 u19 u20 : Value) (bo : Nat) (A1 : Option Addr) (c1 : Nat) (W2 : World), Hid (W2.heap[bo]? = some (.cells #[.slice A1 nn c1, .slice A2 n2 c2, .int .i64 bk, .slice A3 n3 c3] 78 (0, 0))) → Hid (W2.ownsRow W1.heap.size 99 7 (.slice A1 nn c1) nn (flatP ps)) → Hid (W1.heap.size ≤ bo) → Hid (Below W1.heap.size W1 W2) → K ⟨#[f0, f1, f2, f3, .pointer (some ⟨bS, 0, none⟩), f5, f6, .pointer (some ⟨bo, 0, none⟩), f8, f9, u10, u11, u12, u13, u14, u15, u16, u17, u18, u19, u20, f21, f22, f23, f24, f25, f26, f27, f28, f29, f30, f31, f32, f33, f34, f35, f36, f37, f38, f39, f40, f41, f42, f43, f44, f45, f46, f47, f48, f49, f50, f51, f52, f53, f54, f55, f56, f57, f58, f59, f60, f61, f62, f63, f64, f65, f66, f67, f68, f69, f70, f71, f72, f73, f74, f75, f76, f77, f78, f79, f80, f81, f82, f83, f84, f85, f86, f87, f88, f89, f90, f91, f92, f93, f94, f95, f96, f97, f98, f99, f100, f101, f102, f103, f104, f105, f106, f107, f108, f109, f110, f111, f112, f113, f114, f115, f116, f117, f118, f119, f120, f121, f122, f123, f124, f125, f126, f127, f128, f129, f130, f131, f132, f133, f134, f135, f136, f137, f138, f139, f140, f141, f142, f143, f144, f145, f146, f147, f148, f149, f150, f151, f152, f153, f154], []⟩ W2) :
    Code.wp Try.prog (rtakeReg 1) (Exit.then K Q) ⟨#[f0, f1, f2, f3, .pointer (some ⟨bS, 0, none⟩), f5, f6, f7, f8, f9, f10, f11, f12, f13, f14, f15, f16, f17, f18, f19, f20, f21, f22, f23, f24, f25, f26, f27, f28, f29, f30, f31, f32, f33, f34, f35, f36, f37, f38, f39, f40, f41, f42, f43, f44, f45, f46, f47, f48, f49, f50, f51, f52, f53, f54, f55, f56, f57, f58, f59, f60, f61, f62, f63, f64, f65, f66, f67, f68, f69, f70, f71, f72, f73, f74, f75, f76, f77, f78, f79, f80, f81, f82, f83, f84, f85, f86, f87, f88, f89, f90, f91, f92, f93, f94, f95, f96, f97, f98, f99, f100, f101, f102, f103, f104, f105, f106, f107, f108, f109, f110, f111, f112, f113, f114, f115, f116, f117, f118, f119, f120, f121, f122, f123, f124, f125, f126, f127, f128, f129, f130, f131, f132, f133, f134, f135, f136, f137, f138, f139, f140, f141, f142, f143, f144, f145, f146, f147, f148, f149, f150, f151, f152, f153, f154], []⟩ W1 := by
  conv => arg 2; whnf
  have hSof : ∀ w' : World, Below W1.heap.size W1 w' → (fun w' => Below W1.heap.size W1 w' ∧ w'.cell? ⟨bS, 0, none⟩ = some (.slice An nn cn) ∧ w'.cell? ⟨bS, 1, none⟩ = some (.slice A2 n2 c2) ∧ w'.cell? ⟨bS, 2, none⟩ = some (.int .i64 bk) ∧ w'.cell? ⟨bS, 3, none⟩ = some (.slice A3 n3 c3)) w' := fun w' hb => by have h := (hb.block bS (blk_lt hbS)).trans hbS; exact ⟨hb, (blk_cell h 0).trans rfl, (blk_cell h 1).trans rfl, (blk_cell h 2).trans rfl, (blk_cell h 3).trans rfl⟩
  have hS : (fun w' => Below W1.heap.size W1 w' ∧ w'.cell? ⟨bS, 0, none⟩ = some (.slice An nn cn) ∧ w'.cell? ⟨bS, 1, none⟩ = some (.slice A2 n2 c2) ∧ w'.cell? ⟨bS, 2, none⟩ = some (.int .i64 bk) ∧ w'.cell? ⟨bS, 3, none⟩ = some (.slice A3 n3 c3)) W1 := hSof _ (zbR _ _)
  (try dsimp only at hS)
  have HBR := hide (show Below W1.heap.size W1 W1 from zbR _ _)
  have HLN := hide hlen
  have HRP := hide hr
  have HAN := hide hA
  have HONE := hide (show ∀ (a : Option Addr) (m c : Nat), (#[.slice a m c, .slice A2 n2 c2, .int .i64 bk, .slice A3 n3 c3] : Array Value).all (·.oneCell') = true from fun a m c => one4 rfl rfl rfl rfl)
  clear hbS hlen hr hA
  refine wp_region_held_drew (S := (fun w' => Below W1.heap.size W1 w' ∧ w'.cell? ⟨bS, 0, none⟩ = some (.slice An nn cn) ∧ w'.cell? ⟨bS, 1, none⟩ = some (.slice A2 n2 c2) ∧ w'.cell? ⟨bS, 2, none⟩ = some (.int .i64 bk) ∧ w'.cell? ⟨bS, 3, none⟩ = some (.slice A3 n3 c3))) (by kernel_rfl) ?_ (fun hD0 => ?_)
  · (try dsimp only); first | assumption | exact hSof _ (zbD HBR.out)
  refine tL (v := ?_) 1 rfl (by kernel_rfl) (fun _ _ _ h => hp _ _ _ _ _ h) (Or.inl ⟨by rfl, ?_⟩) (by assumption) ?_; rotate_left
  · (intro w hSw; (try dsimp only at hSw); go_simp; try with_reducible rfl)
  try simp only [Act.put, zl, z0, z1]
  refine tL (v := ?_) 2 rfl (by kernel_rfl) (fun _ _ _ h => hp _ _ _ _ _ h) (Or.inl ⟨by rfl, ?_⟩) (by assumption) ?_; rotate_left
  · (intro w hSw; (try dsimp only at hSw); go_simp; try with_reducible rfl)
  try simp only [Act.put, zl, z0, z1]
  refine tL (v := ?_) 4 rfl (by kernel_rfl) (fun _ _ _ h => hp _ _ _ _ _ h) (Or.inl ⟨by rfl, ?_⟩) (by assumption) ?_; rotate_left
  · (intro w hSw; (try dsimp only at hSw); go_simp; try with_reducible rfl)
  try simp only [Act.put, zl, z0, z1]
  refine tL (v := ?_) 5 rfl (by kernel_rfl) (fun _ _ _ h => hp _ _ _ _ _ h) (Or.inl ⟨by rfl, ?_⟩) (by assumption) ?_; rotate_left
  · (intro w hSw; (try dsimp only at hSw); go_simp; try with_reducible rfl)
  try simp only [Act.put, zl, z0, z1]
  refine tL (v := ?_) 6 rfl (by kernel_rfl) (fun _ _ _ h => hp _ _ _ _ _ h) (Or.inl ⟨by rfl, ?_⟩) (by assumption) ?_; rotate_left
  · (intro w hSw; (try dsimp only at hSw); go_simp; try with_reducible rfl)
  try simp only [Act.put, zl, z0, z1]
  refine tL (v := ?_) 7 rfl (by kernel_rfl) (fun _ _ _ h => hp _ _ _ _ _ h) (Or.inl ⟨by rfl, ?_⟩) (by assumption) ?_; rotate_left
  · (intro w hSw; (try dsimp only at hSw); go_simp; try with_reducible rfl)
  try simp only [Act.put, zl, z0, z1]
  refine tL (v := ?_) 8 rfl (by kernel_rfl) (fun _ _ _ h => hp _ _ _ _ _ h) (Or.inl ⟨by rfl, ?_⟩) (by assumption) ?_; rotate_left
  · (intro w hSw; (try dsimp only at hSw); go_simp; try with_reducible rfl)
  try simp only [Act.put, zl, z0, z1]
  refine tL (v := ?_) 9 rfl (by kernel_rfl) (fun _ _ _ h => hp _ _ _ _ _ h) (Or.inl ⟨by rfl, ?_⟩) (by assumption) ?_; rotate_left
  · (intro w hSw; (try dsimp only at hSw); go_simp; try with_reducible rfl)
  try simp only [Act.put, zl, z0, z1]
  refine wpAnyH_ready (rs := [0, 11]) (by kernel_rfl) (by simp) ?_; refine consL 0 rfl (fun K hK => ?_) ?_
  (go_simp; (first | refine capA (K := K) (fun W0 hG hB hk hgr => ?_) | refine capAD (K := K) (fun W0 hG hB hk hgr => ?_)); have hSn := hSof _ (by first | exact hB _ _ hD0.1 hD0.1.size | exact hB _ _ HBR.out (Nat.le_refl _)); have HQ0 := hide hG; have HQ0L := hide hD0.1.size; (try have HNE := hide (Nat.ne_of_lt (blk_lt HQ11.out))); (try replace HQ11 := hide (hk _ _ HQ11.out)); clear hG hB hk hgr; (try dsimp only at hSn))
  refine hK.out _ _ ?_ (fun hD1 => ?_)
  · (try dsimp only); first | assumption | exact hSof _ (zbD HBR.out)
  clear hK K hD0; try simp only [Act.put, zl, z0, z1]
  refine wpAnyH_ready (rs := [3, 11]) (by kernel_rfl) (by simp) ?_; refine consL 3 rfl (fun K hK => ?_) ?_
  (refine step_app_Ps rfl (.tmp 10) (.tmp 12) rfl W1.heap.size _ [] 0 rfl (ownsP_empty HQ0.out HQ0L.out) rfl _ _ _ ps rfl HLN.out ((HRP.out.below hD1.1).mono hD1.1.size) HAN.out (by omega) (by omega) hD1.1.size nn (Nat.zero_add _) (fun A4 c4 W4 ho4 hg4 => ?_); have hSn := hSof _ (below_own hD1.1 (ownsP_empty HQ0.out HQ0L.out) hg4); have HO4 := hide ho4; (try replace HQ11 := hide ((hg4.block _ (blk_lt HQ11.out) (fun e => HNE.out (Option.some.inj e))).trans HQ11.out)); clear ho4 hg4 HQ0 HQ0L; (try dsimp only [List.nil_append] at hSn HO4))
  refine hK.out _ _ ?_ (fun hD2 => ?_)
  · (try dsimp only); first | assumption | exact hSof _ (zbD HBR.out)
  clear hK K hD1; try simp only [Act.put, zl, z0, z1]
  refine tL (v := ?_) 10 rfl (by kernel_rfl) (fun _ _ _ h => hp _ _ _ _ _ h) (Or.inl ⟨by rfl, ?_⟩) (by assumption) ?_; rotate_left
  · (intro w hSw; (try dsimp only at hSw); go_simp; try with_reducible rfl)
  try simp only [Act.put, zl, z0, z1]
  refine wpAnyH_ready (rs := [11]) (by kernel_rfl) (by simp) ?_; refine consL 11 rfl (fun K hK => ?_) AllReadyH.nil
  (go_simp; (first | refine capA (K := K) (fun W0 hG hB hk hgr => ?_) | refine capAD (K := K) (fun W0 hG hB hk hgr => ?_)); have hSn := hSof _ (by first | exact hB _ _ hD2.1 hD2.1.size | exact hB _ _ HBR.out (Nat.le_refl _)); (try have HNE := hide (Nat.ne_of_gt (blk_lt HQ0.out))); have HQ11 := hide (show W0.heap[_]? = some (Obj.cells #[.slice none 0 0, .slice none 0 0, .int .i64 0, .slice none 0 0] 78 (0, 0)) from hG); have HQ11L := hide hD2.1.size; (try replace HQ0 := hide (hk _ _ HQ0.out)); (try replace HO4 := hide (HO4.out.kept hgr (Classical.em _))); clear hG hB hk hgr; (try dsimp only at hSn))
  refine hK.out _ _ ?_ (fun hD3 => ?_)
  · (try dsimp only); first | assumption | exact hSof _ (zbD HBR.out)
  clear hK K hD2; try simp only [Act.put, zl, z0, z1]
  refine wpAnyH_ready (rs := [12]) (by kernel_rfl) (by simp) ?_; refine consL 12 rfl (fun K hK => ?_) AllReadyH.nil
  (refine step_row rfl 78 (.tmp 7) (.tmp 20) rfl _ _ rfl rfl 78 _ HQ11.out stSize rfl (HONE.out _ _ _) ?_; refine cap_row2 (K := K) HQ11.out (fun W9 hqr hgr hbr => ?_); have hSn := hSof _ (hbr _ hD3.1 HQ11L.out); have HQR := hide hqr; have HO9 := hide (HO4.out.kept hgr (.inr (row_ne HO4.out HQ11.out (by decide)))); clear hqr hgr hbr; (try dsimp only at hSn))
  refine hK.out _ _ ?_ (fun hD4 => ?_)
  · (try dsimp only); first | assumption | exact hSof _ (zbD HBR.out)
  clear hK K hD3; try simp only [Act.put, zl, z0, z1]
  refine wpAnyH_done (by kernel_rfl) ?_ _
  rotate_left 1
  refine consL 11 rfl (fun K hK => ?_) AllReadyH.nil
  (go_simp; (first | refine capA (K := K) (fun W0 hG hB hk hgr => ?_) | refine capAD (K := K) (fun W0 hG hB hk hgr => ?_)); have hSn := hSof _ (by first | exact hB _ _ hD1.1 hD1.1.size | exact hB _ _ HBR.out (Nat.le_refl _)); (try have HNE := hide (Nat.ne_of_gt (blk_lt HQ0.out))); have HQ11 := hide (show W0.heap[_]? = some (Obj.cells #[.slice none 0 0, .slice none 0 0, .int .i64 0, .slice none 0 0] 78 (0, 0)) from hG); have HQ11L := hide hD1.1.size; (try replace HQ0 := hide (hk _ _ HQ0.out)); (try replace HO4 := hide (HO4.out.kept hgr (Classical.em _))); clear hG hB hk hgr; (try dsimp only at hSn))
  refine hK.out _ _ ?_ (fun hD2 => ?_)
  · (try dsimp only); first | assumption | exact hSof _ (zbD HBR.out)
  clear hK K hD1; try simp only [Act.put, zl, z0, z1]
  refine wpAnyH_ready (rs := [3]) (by kernel_rfl) (by simp) ?_; refine consL 3 rfl (fun K hK => ?_) AllReadyH.nil
  (refine step_app_Ps rfl (.tmp 10) (.tmp 12) rfl W1.heap.size _ [] 0 rfl (ownsP_empty HQ0.out HQ0L.out) rfl _ _ _ ps rfl HLN.out ((HRP.out.below hD2.1).mono hD2.1.size) HAN.out (by omega) (by omega) hD2.1.size nn (Nat.zero_add _) (fun A4 c4 W4 ho4 hg4 => ?_); have hSn := hSof _ (below_own hD2.1 (ownsP_empty HQ0.out HQ0L.out) hg4); have HO4 := hide ho4; (try replace HQ11 := hide ((hg4.block _ (blk_lt HQ11.out) (fun e => HNE.out (Option.some.inj e))).trans HQ11.out)); clear ho4 hg4 HQ0 HQ0L; (try dsimp only [List.nil_append] at hSn HO4))
  refine hK.out _ _ ?_ (fun hD3 => ?_)
  · (try dsimp only); first | assumption | exact hSof _ (zbD HBR.out)
  clear hK K hD2; try simp only [Act.put, zl, z0, z1]
  refine tL (v := ?_) 10 rfl (by kernel_rfl) (fun _ _ _ h => hp _ _ _ _ _ h) (Or.inl ⟨by rfl, ?_⟩) (by assumption) ?_; rotate_left
  · (intro w hSw; (try dsimp only at hSw); go_simp; try with_reducible rfl)
  try simp only [Act.put, zl, z0, z1]
  refine wpAnyH_ready (rs := [12]) (by kernel_rfl) (by simp) ?_; refine consL 12 rfl (fun K hK => ?_) AllReadyH.nil
  (refine step_row rfl 78 (.tmp 7) (.tmp 20) rfl _ _ rfl rfl 78 _ HQ11.out stSize rfl (HONE.out _ _ _) ?_; refine cap_row2 (K := K) HQ11.out (fun W9 hqr hgr hbr => ?_); have hSn := hSof _ (hbr _ hD3.1 HQ11L.out); have HQR := hide hqr; have HO9 := hide (HO4.out.kept hgr (.inr (row_ne HO4.out HQ11.out (by decide)))); clear hqr hgr hbr; (try dsimp only at hSn))
  refine hK.out _ _ ?_ (fun hD4 => ?_)
  · (try dsimp only); first | assumption | exact hSof _ (zbD HBR.out)
  clear hK K hD3; try simp only [Act.put, zl, z0, z1]
  refine wpAnyH_done (by kernel_rfl) ?_ _
  rotate_left 1
  refine consL 11 rfl (fun K hK => ?_) AllReadyH.nil
  (go_simp; (first | refine capA (K := K) (fun W0 hG hB hk hgr => ?_) | refine capAD (K := K) (fun W0 hG hB hk hgr => ?_)); have hSn := hSof _ (by first | exact hB _ _ hD0.1 hD0.1.size | exact hB _ _ HBR.out (Nat.le_refl _)); (try have HNE := hide (Nat.ne_of_gt (blk_lt HQ0.out))); have HQ11 := hide (show W0.heap[_]? = some (Obj.cells #[.slice none 0 0, .slice none 0 0, .int .i64 0, .slice none 0 0] 78 (0, 0)) from hG); have HQ11L := hide hD0.1.size; (try replace HQ0 := hide (hk _ _ HQ0.out)); (try replace HO4 := hide (HO4.out.kept hgr (Classical.em _))); clear hG hB hk hgr; (try dsimp only at hSn))
  refine hK.out _ _ ?_ (fun hD1 => ?_)
  · (try dsimp only); first | assumption | exact hSof _ (zbD HBR.out)
  clear hK K hD0; try simp only [Act.put, zl, z0, z1]
  refine wpAnyH_ready (rs := [0]) (by kernel_rfl) (by simp) ?_; refine consL 0 rfl (fun K hK => ?_) AllReadyH.nil
  (go_simp; (first | refine capA (K := K) (fun W0 hG hB hk hgr => ?_) | refine capAD (K := K) (fun W0 hG hB hk hgr => ?_)); have hSn := hSof _ (by first | exact hB _ _ hD1.1 hD1.1.size | exact hB _ _ HBR.out (Nat.le_refl _)); have HQ0 := hide hG; have HQ0L := hide hD1.1.size; (try have HNE := hide (Nat.ne_of_lt (blk_lt HQ11.out))); (try replace HQ11 := hide (hk _ _ HQ11.out)); clear hG hB hk hgr; (try dsimp only at hSn))
  refine hK.out _ _ ?_ (fun hD2 => ?_)
  · (try dsimp only); first | assumption | exact hSof _ (zbD HBR.out)
  clear hK K hD1; try simp only [Act.put, zl, z0, z1]
  refine wpAnyH_ready (rs := [3]) (by kernel_rfl) (by simp) ?_; refine consL 3 rfl (fun K hK => ?_) AllReadyH.nil
  (refine step_app_Ps rfl (.tmp 10) (.tmp 12) rfl W1.heap.size _ [] 0 rfl (ownsP_empty HQ0.out HQ0L.out) rfl _ _ _ ps rfl HLN.out ((HRP.out.below hD2.1).mono hD2.1.size) HAN.out (by omega) (by omega) hD2.1.size nn (Nat.zero_add _) (fun A4 c4 W4 ho4 hg4 => ?_); have hSn := hSof _ (below_own hD2.1 (ownsP_empty HQ0.out HQ0L.out) hg4); have HO4 := hide ho4; (try replace HQ11 := hide ((hg4.block _ (blk_lt HQ11.out) (fun e => HNE.out (Option.some.inj e))).trans HQ11.out)); clear ho4 hg4 HQ0 HQ0L; (try dsimp only [List.nil_append] at hSn HO4))
  refine hK.out _ _ ?_ (fun hD3 => ?_)
  · (try dsimp only); first | assumption | exact hSof _ (zbD HBR.out)
  clear hK K hD2; try simp only [Act.put, zl, z0, z1]
  refine tL (v := ?_) 10 rfl (by kernel_rfl) (fun _ _ _ h => hp _ _ _ _ _ h) (Or.inl ⟨by rfl, ?_⟩) (by assumption) ?_; rotate_left
  · (intro w hSw; (try dsimp only at hSw); go_simp; try with_reducible rfl)
  try simp only [Act.put, zl, z0, z1]
  refine wpAnyH_ready (rs := [12]) (by kernel_rfl) (by simp) ?_; refine consL 12 rfl (fun K hK => ?_) AllReadyH.nil
  (refine step_row rfl 78 (.tmp 7) (.tmp 20) rfl _ _ rfl rfl 78 _ HQ11.out stSize rfl (HONE.out _ _ _) ?_; refine cap_row2 (K := K) HQ11.out (fun W9 hqr hgr hbr => ?_); have hSn := hSof _ (hbr _ hD3.1 HQ11L.out); have HQR := hide hqr; have HO9 := hide (HO4.out.kept hgr (.inr (row_ne HO4.out HQ11.out (by decide)))); clear hqr hgr hbr; (try dsimp only at hSn))
  refine hK.out _ _ ?_ (fun hD4 => ?_)
  · (try dsimp only); first | assumption | exact hSof _ (zbD HBR.out)
  clear hK K hD3; try simp only [Act.put, zl, z0, z1]
  refine wpAnyH_done (by kernel_rfl) ?_ _
  all_goals
    (try dsimp only [Act.put, List.getElem_toArray, List.getElem_cons_succ, List.getElem_cons_zero])
    (try simp only [zl, z0, z1])
    exact hK _ _ _ _ _ _ _ _ _ _ _ _ _ _ _ HQR HO9 HQ11L (hide hSn.1)

set_option maxRecDepth 100000 in
set_option maxHeartbeats 64000000 in
theorem rtake12 {K : Act → World → Prop} {Q : Exit → Act → World → Prop} (hp : ∀ c a d v w, Q (.panic c) (Act.put a d v) w → Q (.panic c) a w) (bx g : Nat) (x : E.Nt) (p : E.Rp) (W1 : World) (hbx : W1.heap[bx]? = some (.cells #[.int .i64 x.id, .int .i64 x.hour, .int .i64 x.kind, .int .i64 x.player, .int .i64 x.rank] 40 (0, 0))) (hg : W1.heap[g]? = some (.cells #[.int .i64 p.player, .int .i64 p.rank, .bool p.grd, .bool p.ent, .bool p.quit, .bool p.sgn, .bool p.card] 99 (0, 0))) (nbx : bx ≠ g) (f0 f1 f2 f3 f4 f6 f7 f8 f10 f11 f12 f13 f14 f15 f16 f17 f18 f19 f20 f21 f22 f23 f24 f25 f26 f27 f28 f29 f30 f31 f32 f33 f34 f35 f36 f37 f38 f39 f40 f41 f42 f43 f44 f45 f46 f47 f48 f49 f50 f51 f52 f53 f54 f55 f56 f57 f58 f59 f60 f61 f62 f63 f64 f65 f66 f67 f68 f69 f70 f71 f72 f73 f74 f75 f76 f77 f78 f79 f80 f81 f82 f83 f84 f85 f86 f87 f88 f89 f90 f91 f92 f93 f94 f95 f96 f97 f98 f99 f100 f101 f102 f103 f104 f105 f106 f107 f108 f109 f110 f111 f112 f113 f114 f115 f116 f117 f118 f119 f120 f121 f122 f123 f124 f125 f126 f127 f128 f129 f130 f131 f132 f133 f134 f135 f136 f137 f138 f139 f140 f141 f142 f143 f144 f145 f146 f147 f148 f149 f150 f151 f152 f153 f154 : Value)
    (hK : ∀ (u59 u60 u61 u62 u63 u64 u65 u66 : Value) (W2 : World), Hid (W2.heap[g]? = some (.cells #[.int .i64 p.player, .int .i64 x.rank, .bool (decide (x.kind = 2)), .bool true, .bool p.quit, .bool p.sgn, .bool p.card] 99 (0, 0))) → Hid (W1.grownBy W2 (some g)) → K ⟨#[f0, f1, f2, f3, f4, .pointer (some ⟨bx, 0, none⟩), f6, f7, f8, .pointer (some ⟨g, 0, none⟩), f10, f11, f12, f13, f14, f15, f16, f17, f18, f19, f20, f21, f22, f23, f24, f25, f26, f27, f28, f29, f30, f31, f32, f33, f34, f35, f36, f37, f38, f39, f40, f41, f42, f43, f44, f45, f46, f47, f48, f49, f50, f51, f52, f53, f54, f55, f56, f57, f58, u59, u60, u61, u62, u63, u64, u65, u66, f67, f68, f69, f70, f71, f72, f73, f74, f75, f76, f77, f78, f79, f80, f81, f82, f83, f84, f85, f86, f87, f88, f89, f90, f91, f92, f93, f94, f95, f96, f97, f98, f99, f100, f101, f102, f103, f104, f105, f106, f107, f108, f109, f110, f111, f112, f113, f114, f115, f116, f117, f118, f119, f120, f121, f122, f123, f124, f125, f126, f127, f128, f129, f130, f131, f132, f133, f134, f135, f136, f137, f138, f139, f140, f141, f142, f143, f144, f145, f146, f147, f148, f149, f150, f151, f152, f153, f154], []⟩ W2) :
    Code.wp Try.prog (rtakeReg 12) (Exit.then K Q) ⟨#[f0, f1, f2, f3, f4, .pointer (some ⟨bx, 0, none⟩), f6, f7, f8, .pointer (some ⟨g, 0, none⟩), f10, f11, f12, f13, f14, f15, f16, f17, f18, f19, f20, f21, f22, f23, f24, f25, f26, f27, f28, f29, f30, f31, f32, f33, f34, f35, f36, f37, f38, f39, f40, f41, f42, f43, f44, f45, f46, f47, f48, f49, f50, f51, f52, f53, f54, f55, f56, f57, f58, f59, f60, f61, f62, f63, f64, f65, f66, f67, f68, f69, f70, f71, f72, f73, f74, f75, f76, f77, f78, f79, f80, f81, f82, f83, f84, f85, f86, f87, f88, f89, f90, f91, f92, f93, f94, f95, f96, f97, f98, f99, f100, f101, f102, f103, f104, f105, f106, f107, f108, f109, f110, f111, f112, f113, f114, f115, f116, f117, f118, f119, f120, f121, f122, f123, f124, f125, f126, f127, f128, f129, f130, f131, f132, f133, f134, f135, f136, f137, f138, f139, f140, f141, f142, f143, f144, f145, f146, f147, f148, f149, f150, f151, f152, f153, f154], []⟩ W1 := by
  conv => arg 2; whnf
  have hSof : ∀ v, W1.grownBy v (some g) → (fun w' => W1.grownBy w' (some g) ∧ w'.cell? ⟨bx, 4, none⟩ = some (.int .i64 x.rank) ∧ w'.cell? ⟨bx, 2, none⟩ = some (.int .i64 x.kind)) v := by
    intro v hb
    have hxv := (hb.block bx (blk_lt hbx) (fun e => nbx (Option.some.inj e))).trans hbx
    exact ⟨hb, (blk_cell hxv 4).trans rfl, (blk_cell hxv 2).trans rfl⟩
  have hS : (fun w' => W1.grownBy w' (some g) ∧ w'.cell? ⟨bx, 4, none⟩ = some (.int .i64 x.rank) ∧ w'.cell? ⟨bx, 2, none⟩ = some (.int .i64 x.kind)) W1 := hSof _ (World.grownBy.refl _ _)
  (try dsimp only at hS)
  have R0 := hide (show W1.drew.heap[g]? = some (.cells #[.int .i64 p.player, .int .i64 p.rank, .bool p.grd, .bool p.ent, .bool p.quit, .bool p.sgn, .bool p.card] 99 (0, 0)) from hg)
  clear hbx hg
  refine wp_region_held_drew (S := (fun w' => W1.grownBy w' (some g) ∧ w'.cell? ⟨bx, 4, none⟩ = some (.int .i64 x.rank) ∧ w'.cell? ⟨bx, 2, none⟩ = some (.int .i64 x.kind))) (by kernel_rfl) ?_ (fun hD0 => ?_)
  · (try dsimp only); first | assumption | exact hSof _ (gr_drew _ _)
  refine tL (v := ?_) 0 rfl (by kernel_rfl) (fun _ _ _ h => hp _ _ _ _ _ h) (Or.inl ⟨by rfl, ?_⟩) (by assumption) ?_; rotate_left
  · (intro w hSw; (try dsimp only at hSw); go_simp; try with_reducible rfl)
  try simp only [Act.put, zl, z0, z1]
  refine tL (v := ?_) 1 rfl (by kernel_rfl) (fun _ _ _ h => hp _ _ _ _ _ h) (Or.inl ⟨by rfl, ?_⟩) (by assumption) ?_; rotate_left
  · (intro w hSw; (try dsimp only at hSw); go_simp; try with_reducible rfl)
  try simp only [Act.put, zl, z0, z1]
  refine tL (v := ?_) 2 rfl (by kernel_rfl) (fun _ _ _ h => hp _ _ _ _ _ h) (Or.inl ⟨by rfl, ?_⟩) (by assumption) ?_; rotate_left
  · (intro w hSw; (try dsimp only at hSw); go_simp; try with_reducible rfl)
  try simp only [Act.put, zl, z0, z1]
  refine tL (v := ?_) 3 rfl (by kernel_rfl) (fun _ _ _ h => hp _ _ _ _ _ h) (Or.inl ⟨by rfl, ?_⟩) (by assumption) ?_; rotate_left
  · (intro w hSw; (try dsimp only at hSw); go_simp; try with_reducible rfl)
  try simp only [Act.put, zl, z0, z1]
  refine tL (v := ?_) 4 rfl (by kernel_rfl) (fun _ _ _ h => hp _ _ _ _ _ h) (Or.inl ⟨by rfl, ?_⟩) (by assumption) ?_; rotate_left
  · (intro w hSw; (try dsimp only at hSw); go_simp; try with_reducible rfl)
  try simp only [Act.put, zl, z0, z1]
  refine tL (v := ?_) 5 rfl (by kernel_rfl) (fun _ _ _ h => hp _ _ _ _ _ h) (Or.inl ⟨by rfl, ?_⟩) (by assumption) ?_; rotate_left
  · (intro w hSw; (try dsimp only at hSw); go_simp; try with_reducible rfl)
  try simp only [Act.put, zl, z0, z1]
  refine wpAnyH_ready (rs := [6]) (by kernel_rfl) (by simp) ?_; refine consL 6 rfl (fun K hK => ?_) AllReadyH.nil
  (have cc : W1.drew.cell? ⟨g, 3, none⟩ = some (.bool p.ent) := (blk_cell R0.out 3).trans rfl; have ff := blk_frozen R0.out 3; go_simp; clear cc ff; refine cap_set R0.out (fun W10 hr hg9 => ?_); have hSn := hSof _ (gr_trans hD0.1 hg9); have R1 := hide hr; clear hr hg9; (try dsimp only at hSn))
  refine hK.out _ _ ?_ (fun hD1 => ?_)
  · (try dsimp only); first | assumption | exact hSof _ (gr_drew _ _)
  clear hK K hD0; try simp only [Act.put, zl, z0, z1]
  refine tL (v := ?_) 7 rfl (by kernel_rfl) (fun _ _ _ h => hp _ _ _ _ _ h) (Or.inl ⟨by rfl, ?_⟩) (by assumption) ?_; rotate_left
  · (intro w hSw; (try dsimp only at hSw); go_simp; try with_reducible rfl)
  try simp only [Act.put, zl, z0, z1]
  refine wpAnyH_ready (rs := [8]) (by kernel_rfl) (by simp) ?_; refine consL 8 rfl (fun K hK => ?_) AllReadyH.nil
  (have cc : W10.cell? ⟨g, 1, none⟩ = some (.int .i64 p.rank) := (blk_cell R1.out 1).trans rfl; have ff := blk_frozen R1.out 1; go_simp; clear cc ff; refine cap_set R1.out (fun W12 hr hg9 => ?_); have hSn := hSof _ (gr_trans hD1.1 hg9); have R2 := hide hr; clear hr hg9; (try dsimp only at hSn))
  refine hK.out _ _ ?_ (fun hD2 => ?_)
  · (try dsimp only); first | assumption | exact hSof _ (gr_drew _ _)
  clear hK K hD1; try simp only [Act.put, zl, z0, z1]
  refine tL (v := ?_) 9 rfl (by kernel_rfl) (fun _ _ _ h => hp _ _ _ _ _ h) (Or.inl ⟨by rfl, ?_⟩) (by assumption) ?_; rotate_left
  · (intro w hSw; (try dsimp only at hSw); go_simp; try with_reducible rfl)
  try simp only [Act.put, zl, z0, z1]
  refine wpAnyH_ready (rs := [10]) (by kernel_rfl) (by simp) ?_; refine consL 10 rfl (fun K hK => ?_) AllReadyH.nil
  (have cc : W12.cell? ⟨g, 2, none⟩ = some (.bool p.grd) := (blk_cell R2.out 2).trans rfl; have ff := blk_frozen R2.out 2; go_simp; clear cc ff; refine cap_set R2.out (fun W14 hr hg9 => ?_); have hSn := hSof _ (gr_trans hD2.1 hg9); have R3 := hide hr; clear hr hg9; (try dsimp only at hSn))
  refine hK.out _ _ ?_ (fun hD3 => ?_)
  · (try dsimp only); first | assumption | exact hSof _ (gr_drew _ _)
  clear hK K hD2; try simp only [Act.put, zl, z0, z1]
  refine wpAnyH_done (by kernel_rfl) ?_ _
  (try dsimp only [Act.put, List.getElem_toArray, List.getElem_cons_succ, List.getElem_cons_zero])
  (try simp only [zl, z0, z1])
  exact hK _ _ _ _ _ _ _ _ _ R3 (hide hSn.1)

end Go.Proofs.Ytdhaalonnmajkaa
