/-
  Part of a claim's texts: contracts of the program's functions and the plain functions that they compute, in build order.
-/
import Derived.Shelf.SlSortCmp.NoneTotal
import Derived.Test.YtobjahlmjcnfoaaGreatZB01
import Derived.Test.YtobjahlmjcnfoaaGreatZB02
namespace Go.Proofs.YtobjahlmjcnfoaaGreat
open Go.RowKit Go.Sort
attribute [local go_sem ↓] Go.wp_at_zero Go.wp_at_succ

set_option maxRecDepth 100000 in
set_option maxHeartbeats 64000000 in
theorem take_any (base L B n k : Nat) (s : E.St) (mv cv : Value) (x : E.Nt) (w : World) (h : LAt w base L B n s mv cv) (ok : E.StOk s) (bd : E.Bd k s) (hk : k ≤ 400) (hbase : base ≤ w.heap.size) (hn : n ≤ 500) (hx0 : 0 ≤ x.player) (hx1 : x.player ≤ 999) :
    Calls Tryz.prog 35 #[.pointer (some ⟨L, 0, none⟩), .agg #[.int .i64 x.id, .int .i64 x.hour, .int .i64 x.kind, .int .i64 x.player, .int .i64 x.rank]] w (TakePost base L B n s x mv cv w) := by
  have HL := hide h
  have HB0 := hide bd
  have HK0 := hide hk
  have HBD := hide (E.said_bd bd x)
  have HOK := hide (E.said_ok ok x ⟨hx0, hx1⟩ bd.turns0).1
  have HBS := hide hbase
  have HN := hide hn
  have HX0 := hide hx0
  have HX1 := hide hx1
  clear h ok bd hk hbase hn hx0 hx1
  go_enter Tryz.func35, Tryz.ntmps35
  go_upto_region 1 with fail
  obtain ⟨w0, hw0⟩ : ∃ w0, w.alloc (.cells #[.int .i64 x.id, .int .i64 x.hour, .int .i64 x.kind, .int .i64 x.player, .int .i64 x.rank] 70) = w0 := ⟨_, rfl⟩
  have HB00 := hide (show Below w.heap.size w w0 by rw [← hw0]; (repeat' first | exact zbR _ _ | assumption | refine zbD ?_ | refine zbA ?_ ?_ _ | refine zbS ?_ ?_ _ | refine zbT ?_ (by assumption) ?_ | (simp; done) | (simp; omega) | omega))
  have HX00 := hide (show w0.heap[w.heap.size]? = some (.cells #[.int .i64 x.id, .int .i64 x.hour, .int .i64 x.kind, .int .i64 x.player, .int .i64 x.rank] 70 (0, 0)) by rw [← hw0]; exact World.alloc_heap_new _ _)
  rw [hw0]
  clear hw0
  obtain ⟨bx, hbx⟩ : ∃ bx, w.heap.size = bx := ⟨_, rfl⟩
  have HBX := hide hbx
  rw [hbx] at HX00 ⊢
  clear hbx
  have HL0 := hide (HL.out.below HB00.out)
  refine take1 (fun _ _ d _ _ h => by cases d <;> exact h) base bx L B n s mv cv x w0 HX00.out HL0.out HX0.out HX1.out _ _ _ _ _ _ _ _ _ _ _ _ _ _ _ _ _ _ _ _ _ _ _ _ _ _ _ _ _ _ _ _ _ _ _ _ _ _ _ _ _ _ _ _ _ _ _ _ _ _ _ _ _ _ _ _ _ _ _ _ _ _ _ _ _ _ _ _ _ _ _ _ _ _ _ _ _ _ _ _ _ _ _ _ _ _ _ _ _ _ _ _ _ _ _ _ _ _ _ _ _ _ _ _ _ _ _ _ _ _ _ _ _ _ _ _ _ _ _ _ _ _ _ _ _ _ _ _ _ _ _ _ _ _ _ _ _ _ _ _  ?_
  intro v5 v6 v7 v8 v9 v10 v11 g W2 HG2 HGL HB2
  have M2 : Hid (Mid w base L B n bx g x mv cv s (s.pl x.player) cv W2) := hide ⟨HL0.out.below HB2.out, (HB2.out.block bx (blk_lt HX00.out)).trans HX00.out, HG2.out, zbT (HB00.out.mono HBS.out) HB2.out (Nat.le_trans HBS.out HB00.out.size), fun b h0 _ _ _ _ => (HB2.out.block b (Nat.lt_of_lt_of_le h0 HB00.out.size)).trans (HB00.out.block b h0), (by rw [HBX.out]; exact Nat.le_refl _), Nat.le_trans HB00.out.size HGL.out, (by have := blk_lt HX00.out; have := HGL.out; omega), HBS.out, HL.out.lt, HL.out.map.lt, fun b e => .inl e⟩
  clear HB00 HX00 HBX HL0 HG2 HGL HB2
  have k2 : W2.cell? ⟨bx, 2, none⟩ = some (.int .i64 x.kind) := (blk_cell M2.out.hx 2).trans rfl
  by_cases h1 : x.kind = 1
  · have HKD := hide h1
    have d1 : (x.kind == 1) = true := by rw [h1]; rfl
    clear h1
    go_upto_region 5 with fail
    obtain ⟨d, hd⟩ : ∃ d, d = (decide (x.hour ≤ s.f.close) && !(s.pl x.player).ent) := ⟨_, rfl⟩
    have HD := hide hd
    refine take5 (fun _ _ d _ _ h => by cases d <;> exact h) base bx L B n g s mv cv x (s.pl x.player) d W2 M2.out.hx M2.out.l M2.out.hg hd _ _ _ _ _ _ _ _ _ _ _ _ _ _ _ _ _ _ _ _ _ _ _ _ _ _ _ _ _ _ _ _ _ _ _ _ _ _ _ _ _ _ _ _ _ _ _ _ _ _ _ _ _ _ _ _ _ _ _ _ _ _ _ _ _ _ _ _ _ _ _ _ _ _ _ _ _ _ _ _ _ _ _ _ _ _ _ _ _ _ _ _ _ _ _ _ _ _ _ _ _ _ _ _ _ _ _ _ _ _ _ _ _ _ _ _ _ _ _ _ _ _ _ _ _ _ _ _ _ _ _ _ _ _ _ _ _ _ _  ?_
    clear hd k2
    intro v17 v18 v19 v20 v21 v22 v23 v24 v25 v26 v27 v28 W5 HB5
    have M5 := hide (M2.out.mono HB5.out)
    clear HB5
    cases hdd : d
    · go_upto_region 19 with fail
      have SAID := hide (show E.St.put (s) x.player (s.pl x.player) = s.said x by (have h1 := HD.out; rw [hdd] at h1; have h2 : ¬(x.hour ≤ s.f.close ∧ (s.pl x.player).ent = false) := (by rintro ⟨h3, h4⟩; rw [decide_eq_true h3, h4] at h1; cases h1); unfold E.St.said; dsimp only; rw [if_pos (.inl HKD.out), if_neg h2]))
      refine take19 (fun _ _ d _ _ h => by cases d <;> exact h) base bx L B n g (s) mv cv x (s.pl x.player) W5 M5.out.hx M5.out.l M5.out.hg (by have := HN.out; omega) HX0.out HX1.out _ _ _ _ _ _ _ _ _ _ _ _ _ _ _ _ _ _ _ _ _ _ _ _ _ _ _ _ _ _ _ _ _ _ _ _ _ _ _ _ _ _ _ _ _ _ _ _ _ _ _ _ _ _ _ _ _ _ _ _ _ _ _ _ _ _ _ _ _ _ _ _ _ _ _ _ _ _ _ _ _ _ _ _ _ _ _ _ _ _ _ _ _ _ _ _ _ _ _ _ _ _ _ _ _ _ _ _ _ _ _ _ _ _ _ _ _ _ _ _ _ _ _ _ _ _ _ _ _ _ _ _ _ _ _ _ _ _ _  ?_
      intro y129 y130 y131 y132 y133 y134 y135 W8 HL8 HK8
      rw [SAID.out] at HL8
      have HX8 := hide ((HK8.out.block bx (blk_lt M5.out.hx) (fun e => M5.out.nxB (Option.some.inj e))).trans M5.out.hx)
      have z1 : W8.cell? ⟨bx, 1, none⟩ = some (.int .i64 x.hour) := (blk_cell HX8.out 1).trans rfl
      have z2 : W8.cell? ⟨L, 4, none⟩ = some (.int .i64 s.f.freeze) := (HL8.out.c 4).trans (by rw [← E.said_freeze s x]; rfl)
      have HB8 := hide (Nat.le_trans M5.out.baseW HK8.out.size)
      go_wp2_with (first | (go_at_call 50; refine (late_any s.f L x.hour _ z2).mono ?_; rintro e w' ⟨rfl, rfl⟩) | (go_at_call 53; refine (settle_any base L B (n + 1) (s.said x) (E.late s.f x.hour) mv cv W8 HL8.out HOK.out HB8.out (by have := HN.out; omega) (by have := HBD.out.main; have := HK0.out; omega) (by have := HBD.out.places; have := HK0.out; omega)).mono ?_; rintro e w9 ⟨mv9, rfl, hl9, hb9, hk9, -⟩))
      go_end0
      exact take_fin M5.out HK8.out hl9 hb9 hk9
    · go_upto_region 6 with fail
      refine take6 (fun _ _ d _ _ h => by cases d <;> exact h) base bx L B n g s mv cv x (s.pl x.player) W5 M5.out.hx M5.out.l M5.out.hg M5.out.ne M5.out.neL _ _ _ _ _ _ _ _ _ _ _ _ _ _ _ _ _ _ _ _ _ _ _ _ _ _ _ _ _ _ _ _ _ _ _ _ _ _ _ _ _ _ _ _ _ _ _ _ _ _ _ _ _ _ _ _ _ _ _ _ _ _ _ _ _ _ _ _ _ _ _ _ _ _ _ _ _ _ _ _ _ _ _ _ _ _ _ _ _ _ _ _ _ _ _ _ _ _ _ _ _ _ _ _ _ _ _ _ _ _ _ _ _ _ _ _ _ _ _ _ _ _ _ _ _ _ _ _ _ _ _ _ _ _ _ _ _ _ _  ?_
      intro v30 v31 v32 v33 v34 v35 v36 v37 v38 v39 v40 v41 v42 W6 HG6 HR6
      have M6 := hide (M5.out.grownG (p2 := { s.pl x.player with ent := true, grd := decide (x.kind = 2), rank := x.rank, turn := s.turns }) HR6.out HG6.out)
      clear HG6 HR6
      have k6 : W6.cell? ⟨L, 6, none⟩ = some (.int .i64 s.turns) := (M6.out.l.c 6).trans rfl
      have f6 := blk_frozen M6.out.l.blk 6
      have tu0 := HB0.out.turns0
      have tu3 : s.turns ≤ 500 := by have := HB0.out.turns; have := HK0.out; omega
      go_upto_region 19 with fail
      obtain ⟨W7, hW7⟩ : ∃ W', W6.setCell ⟨L, 6, none⟩ (.int .i64 (s.turns + 1)) = W' := ⟨_, rfl⟩
      have M7 := hide (M6.out.setL (M6.out.l.setTurns (s.turns + 1)))
      rw [hW7] at M7 ⊢
      clear hW7
      clear k6 f6 tu0 tu3
      have SAID := hide (show E.St.put ({ s with turns := s.turns + 1 }) x.player ({ s.pl x.player with ent := true, grd := decide (x.kind = 2), rank := x.rank, turn := s.turns }) = s.said x by (have h1 := HD.out; rw [hdd] at h1; have h2 : x.hour ≤ s.f.close ∧ (s.pl x.player).ent = false := (by have h3 := h1.symm; simpa only [Bool.and_eq_true, Bool.not_eq_true', decide_eq_true_eq] using h3); unfold E.St.said; dsimp only; rw [if_pos (.inl HKD.out), if_pos h2]))
      refine take19 (fun _ _ d _ _ h => by cases d <;> exact h) base bx L B n g ({ s with turns := s.turns + 1 }) mv cv x ({ s.pl x.player with ent := true, grd := decide (x.kind = 2), rank := x.rank, turn := s.turns }) W7 M7.out.hx M7.out.l M7.out.hg (by have := HN.out; omega) HX0.out HX1.out _ _ _ _ _ _ _ _ _ _ _ _ _ _ _ _ _ _ _ _ _ _ _ _ _ _ _ _ _ _ _ _ _ _ _ _ _ _ _ _ _ _ _ _ _ _ _ _ _ _ _ _ _ _ _ _ _ _ _ _ _ _ _ _ _ _ _ _ _ _ _ _ _ _ _ _ _ _ _ _ _ _ _ _ _ _ _ _ _ _ _ _ _ _ _ _ _ _ _ _ _ _ _ _ _ _ _ _ _ _ _ _ _ _ _ _ _ _ _ _ _ _ _ _ _ _ _ _ _ _ _ _ _ _ _ _ _ _ _  ?_
      intro y129 y130 y131 y132 y133 y134 y135 W8 HL8 HK8
      rw [SAID.out] at HL8
      have HX8 := hide ((HK8.out.block bx (blk_lt M7.out.hx) (fun e => M7.out.nxB (Option.some.inj e))).trans M7.out.hx)
      have z1 : W8.cell? ⟨bx, 1, none⟩ = some (.int .i64 x.hour) := (blk_cell HX8.out 1).trans rfl
      have z2 : W8.cell? ⟨L, 4, none⟩ = some (.int .i64 s.f.freeze) := (HL8.out.c 4).trans (by rw [← E.said_freeze s x]; rfl)
      have HB8 := hide (Nat.le_trans M7.out.baseW HK8.out.size)
      go_wp2_with (first | (go_at_call 50; refine (late_any s.f L x.hour _ z2).mono ?_; rintro e w' ⟨rfl, rfl⟩) | (go_at_call 53; refine (settle_any base L B (n + 1) (s.said x) (E.late s.f x.hour) mv cv W8 HL8.out HOK.out HB8.out (by have := HN.out; omega) (by have := HBD.out.main; have := HK0.out; omega) (by have := HBD.out.places; have := HK0.out; omega)).mono ?_; rintro e w9 ⟨mv9, rfl, hl9, hb9, hk9, -⟩))
      go_end0
      exact take_fin M7.out HK8.out hl9 hb9 hk9
  by_cases h2 : x.kind = 2
  · have HKD := hide h2
    have d1 : (x.kind == 1) = false := by rw [h2]; rfl
    have d2 : (x.kind == 2) = true := by rw [h2]; rfl
    clear h2
    clear h1
    go_upto_region 5 with fail
    obtain ⟨d, hd⟩ : ∃ d, d = (decide (x.hour ≤ s.f.close) && !(s.pl x.player).ent) := ⟨_, rfl⟩
    have HD := hide hd
    refine take5 (fun _ _ d _ _ h => by cases d <;> exact h) base bx L B n g s mv cv x (s.pl x.player) d W2 M2.out.hx M2.out.l M2.out.hg hd _ _ _ _ _ _ _ _ _ _ _ _ _ _ _ _ _ _ _ _ _ _ _ _ _ _ _ _ _ _ _ _ _ _ _ _ _ _ _ _ _ _ _ _ _ _ _ _ _ _ _ _ _ _ _ _ _ _ _ _ _ _ _ _ _ _ _ _ _ _ _ _ _ _ _ _ _ _ _ _ _ _ _ _ _ _ _ _ _ _ _ _ _ _ _ _ _ _ _ _ _ _ _ _ _ _ _ _ _ _ _ _ _ _ _ _ _ _ _ _ _ _ _ _ _ _ _ _ _ _ _ _ _ _ _ _ _ _ _  ?_
    clear hd k2
    intro v17 v18 v19 v20 v21 v22 v23 v24 v25 v26 v27 v28 W5 HB5
    have M5 := hide (M2.out.mono HB5.out)
    clear HB5
    cases hdd : d
    · go_upto_region 19 with fail
      have SAID := hide (show E.St.put (s) x.player (s.pl x.player) = s.said x by (have h1 := HD.out; rw [hdd] at h1; have h2 : ¬(x.hour ≤ s.f.close ∧ (s.pl x.player).ent = false) := (by rintro ⟨h3, h4⟩; rw [decide_eq_true h3, h4] at h1; cases h1); unfold E.St.said; dsimp only; rw [if_pos (.inr HKD.out), if_neg h2]))
      refine take19 (fun _ _ d _ _ h => by cases d <;> exact h) base bx L B n g (s) mv cv x (s.pl x.player) W5 M5.out.hx M5.out.l M5.out.hg (by have := HN.out; omega) HX0.out HX1.out _ _ _ _ _ _ _ _ _ _ _ _ _ _ _ _ _ _ _ _ _ _ _ _ _ _ _ _ _ _ _ _ _ _ _ _ _ _ _ _ _ _ _ _ _ _ _ _ _ _ _ _ _ _ _ _ _ _ _ _ _ _ _ _ _ _ _ _ _ _ _ _ _ _ _ _ _ _ _ _ _ _ _ _ _ _ _ _ _ _ _ _ _ _ _ _ _ _ _ _ _ _ _ _ _ _ _ _ _ _ _ _ _ _ _ _ _ _ _ _ _ _ _ _ _ _ _ _ _ _ _ _ _ _ _ _ _ _ _  ?_
      intro y129 y130 y131 y132 y133 y134 y135 W8 HL8 HK8
      rw [SAID.out] at HL8
      have HX8 := hide ((HK8.out.block bx (blk_lt M5.out.hx) (fun e => M5.out.nxB (Option.some.inj e))).trans M5.out.hx)
      have z1 : W8.cell? ⟨bx, 1, none⟩ = some (.int .i64 x.hour) := (blk_cell HX8.out 1).trans rfl
      have z2 : W8.cell? ⟨L, 4, none⟩ = some (.int .i64 s.f.freeze) := (HL8.out.c 4).trans (by rw [← E.said_freeze s x]; rfl)
      have HB8 := hide (Nat.le_trans M5.out.baseW HK8.out.size)
      go_wp2_with (first | (go_at_call 50; refine (late_any s.f L x.hour _ z2).mono ?_; rintro e w' ⟨rfl, rfl⟩) | (go_at_call 53; refine (settle_any base L B (n + 1) (s.said x) (E.late s.f x.hour) mv cv W8 HL8.out HOK.out HB8.out (by have := HN.out; omega) (by have := HBD.out.main; have := HK0.out; omega) (by have := HBD.out.places; have := HK0.out; omega)).mono ?_; rintro e w9 ⟨mv9, rfl, hl9, hb9, hk9, -⟩))
      go_end0
      exact take_fin M5.out HK8.out hl9 hb9 hk9
    · go_upto_region 6 with fail
      refine take6 (fun _ _ d _ _ h => by cases d <;> exact h) base bx L B n g s mv cv x (s.pl x.player) W5 M5.out.hx M5.out.l M5.out.hg M5.out.ne M5.out.neL _ _ _ _ _ _ _ _ _ _ _ _ _ _ _ _ _ _ _ _ _ _ _ _ _ _ _ _ _ _ _ _ _ _ _ _ _ _ _ _ _ _ _ _ _ _ _ _ _ _ _ _ _ _ _ _ _ _ _ _ _ _ _ _ _ _ _ _ _ _ _ _ _ _ _ _ _ _ _ _ _ _ _ _ _ _ _ _ _ _ _ _ _ _ _ _ _ _ _ _ _ _ _ _ _ _ _ _ _ _ _ _ _ _ _ _ _ _ _ _ _ _ _ _ _ _ _ _ _ _ _ _ _ _ _ _ _ _ _  ?_
      intro v30 v31 v32 v33 v34 v35 v36 v37 v38 v39 v40 v41 v42 W6 HG6 HR6
      have M6 := hide (M5.out.grownG (p2 := { s.pl x.player with ent := true, grd := decide (x.kind = 2), rank := x.rank, turn := s.turns }) HR6.out HG6.out)
      clear HG6 HR6
      have k6 : W6.cell? ⟨L, 6, none⟩ = some (.int .i64 s.turns) := (M6.out.l.c 6).trans rfl
      have f6 := blk_frozen M6.out.l.blk 6
      have tu0 := HB0.out.turns0
      have tu3 : s.turns ≤ 500 := by have := HB0.out.turns; have := HK0.out; omega
      go_upto_region 19 with fail
      obtain ⟨W7, hW7⟩ : ∃ W', W6.setCell ⟨L, 6, none⟩ (.int .i64 (s.turns + 1)) = W' := ⟨_, rfl⟩
      have M7 := hide (M6.out.setL (M6.out.l.setTurns (s.turns + 1)))
      rw [hW7] at M7 ⊢
      clear hW7
      clear k6 f6 tu0 tu3
      have SAID := hide (show E.St.put ({ s with turns := s.turns + 1 }) x.player ({ s.pl x.player with ent := true, grd := decide (x.kind = 2), rank := x.rank, turn := s.turns }) = s.said x by (have h1 := HD.out; rw [hdd] at h1; have h2 : x.hour ≤ s.f.close ∧ (s.pl x.player).ent = false := (by have h3 := h1.symm; simpa only [Bool.and_eq_true, Bool.not_eq_true', decide_eq_true_eq] using h3); unfold E.St.said; dsimp only; rw [if_pos (.inr HKD.out), if_pos h2]))
      refine take19 (fun _ _ d _ _ h => by cases d <;> exact h) base bx L B n g ({ s with turns := s.turns + 1 }) mv cv x ({ s.pl x.player with ent := true, grd := decide (x.kind = 2), rank := x.rank, turn := s.turns }) W7 M7.out.hx M7.out.l M7.out.hg (by have := HN.out; omega) HX0.out HX1.out _ _ _ _ _ _ _ _ _ _ _ _ _ _ _ _ _ _ _ _ _ _ _ _ _ _ _ _ _ _ _ _ _ _ _ _ _ _ _ _ _ _ _ _ _ _ _ _ _ _ _ _ _ _ _ _ _ _ _ _ _ _ _ _ _ _ _ _ _ _ _ _ _ _ _ _ _ _ _ _ _ _ _ _ _ _ _ _ _ _ _ _ _ _ _ _ _ _ _ _ _ _ _ _ _ _ _ _ _ _ _ _ _ _ _ _ _ _ _ _ _ _ _ _ _ _ _ _ _ _ _ _ _ _ _ _ _ _ _  ?_
      intro y129 y130 y131 y132 y133 y134 y135 W8 HL8 HK8
      rw [SAID.out] at HL8
      have HX8 := hide ((HK8.out.block bx (blk_lt M7.out.hx) (fun e => M7.out.nxB (Option.some.inj e))).trans M7.out.hx)
      have z1 : W8.cell? ⟨bx, 1, none⟩ = some (.int .i64 x.hour) := (blk_cell HX8.out 1).trans rfl
      have z2 : W8.cell? ⟨L, 4, none⟩ = some (.int .i64 s.f.freeze) := (HL8.out.c 4).trans (by rw [← E.said_freeze s x]; rfl)
      have HB8 := hide (Nat.le_trans M7.out.baseW HK8.out.size)
      go_wp2_with (first | (go_at_call 50; refine (late_any s.f L x.hour _ z2).mono ?_; rintro e w' ⟨rfl, rfl⟩) | (go_at_call 53; refine (settle_any base L B (n + 1) (s.said x) (E.late s.f x.hour) mv cv W8 HL8.out HOK.out HB8.out (by have := HN.out; omega) (by have := HBD.out.main; have := HK0.out; omega) (by have := HBD.out.places; have := HK0.out; omega)).mono ?_; rintro e w9 ⟨mv9, rfl, hl9, hb9, hk9, -⟩))
      go_end0
      exact take_fin M7.out HK8.out hl9 hb9 hk9
  by_cases h3 : x.kind = 3
  · have HKD := hide h3
    have d1 : (x.kind == 1) = false := by rw [h3]; rfl
    have d2 : (x.kind == 2) = false := by rw [h3]; rfl
    have d3 : (x.kind == 3) = true := by rw [h3]; rfl
    clear h3
    clear h1 h2
    obtain ⟨cA, cc, hcv⟩ := own_form HL.out.cards
    subst hcv
    go_upto_region 9 with fail
    obtain ⟨d, hd⟩ : ∃ d, d = (!(E.late s.f x.hour) && !(s.pl x.player).card && !(s.pl x.player).quit && decide ((s.cards.length : Int) < s.f.wilds)) := ⟨_, rfl⟩
    have HD := hide hd
    refine take9 (fun _ _ d _ _ h => by cases d <;> exact h) base bx L B n g s.cards.length cc cA s mv x (s.pl x.player) d W2 M2.out.hx M2.out.l M2.out.hg hd _ _ _ _ _ _ _ _ _ _ _ _ _ _ _ _ _ _ _ _ _ _ _ _ _ _ _ _ _ _ _ _ _ _ _ _ _ _ _ _ _ _ _ _ _ _ _ _ _ _ _ _ _ _ _ _ _ _ _ _ _ _ _ _ _ _ _ _ _ _ _ _ _ _ _ _ _ _ _ _ _ _ _ _ _ _ _ _ _ _ _ _ _ _ _ _ _ _ _ _ _ _ _ _ _ _ _ _ _ _ _ _ _ _ _ _ _ _ _ _ _ _ _ _ _ _ _ _ _ _ _ _ _ _ _ _ _ _ _  ?_
    clear hd k2
    intro v52 v53 v54 v55 v56 v57 v58 v59 v60 v61 v62 v63 v64 v65 v66 v67 v68 v69 v70 v71 v72 v73 v74 v75 v76 v77 v78 W5 HB5
    have M5 := hide (M2.out.mono HB5.out)
    clear HB5
    cases hdd : d
    · go_upto_region 19 with fail
      have SAID := hide (show E.St.put (s) x.player (s.pl x.player) = s.said x by (have h1 := HD.out; rw [hdd] at h1; have h2 : ¬(E.late s.f x.hour = false ∧ (s.pl x.player).card = false ∧ (s.pl x.player).quit = false ∧ (s.cards.length : Int) < s.f.wilds) := (by rintro ⟨h3, h4, h5, h6⟩; rw [h3, h4, h5, decide_eq_true h6] at h1; cases h1); unfold E.St.said; dsimp only; rw [if_neg (by rw [HKD.out]; decide), if_pos HKD.out, if_neg h2]))
      refine take19 (fun _ _ d _ _ h => by cases d <;> exact h) base bx L B n g (s) mv (.slice cA s.cards.length cc) x (s.pl x.player) W5 M5.out.hx M5.out.l M5.out.hg (by have := HN.out; omega) HX0.out HX1.out _ _ _ _ _ _ _ _ _ _ _ _ _ _ _ _ _ _ _ _ _ _ _ _ _ _ _ _ _ _ _ _ _ _ _ _ _ _ _ _ _ _ _ _ _ _ _ _ _ _ _ _ _ _ _ _ _ _ _ _ _ _ _ _ _ _ _ _ _ _ _ _ _ _ _ _ _ _ _ _ _ _ _ _ _ _ _ _ _ _ _ _ _ _ _ _ _ _ _ _ _ _ _ _ _ _ _ _ _ _ _ _ _ _ _ _ _ _ _ _ _ _ _ _ _ _ _ _ _ _ _ _ _ _ _ _ _ _ _  ?_
      intro y129 y130 y131 y132 y133 y134 y135 W8 HL8 HK8
      rw [SAID.out] at HL8
      have HX8 := hide ((HK8.out.block bx (blk_lt M5.out.hx) (fun e => M5.out.nxB (Option.some.inj e))).trans M5.out.hx)
      have z1 : W8.cell? ⟨bx, 1, none⟩ = some (.int .i64 x.hour) := (blk_cell HX8.out 1).trans rfl
      have z2 : W8.cell? ⟨L, 4, none⟩ = some (.int .i64 s.f.freeze) := (HL8.out.c 4).trans (by rw [← E.said_freeze s x]; rfl)
      have HB8 := hide (Nat.le_trans M5.out.baseW HK8.out.size)
      go_wp2_with (first | (go_at_call 50; refine (late_any s.f L x.hour _ z2).mono ?_; rintro e w' ⟨rfl, rfl⟩) | (go_at_call 53; refine (settle_any base L B (n + 1) (s.said x) (E.late s.f x.hour) mv (.slice cA s.cards.length cc) W8 HL8.out HOK.out HB8.out (by have := HN.out; omega) (by have := HBD.out.main; have := HK0.out; omega) (by have := HBD.out.places; have := HK0.out; omega)).mono ?_; rintro e w9 ⟨mv9, rfl, hl9, hb9, hk9, -⟩))
      go_end0
      exact take_fin M5.out HK8.out hl9 hb9 hk9
    · have k9 : W5.cell? ⟨g, 2, none⟩ = some (.bool (s.pl x.player).card) := (blk_cell M5.out.hg 2).trans rfl
      have f9 := blk_frozen M5.out.hg 2
      go_upto_region 11 with fail
      obtain ⟨W6, hW6⟩ : ∃ W', W5.setCell ⟨g, 2, none⟩ (.bool true) = W' := ⟨_, rfl⟩
      have M6 := hide (M5.out.setG (p2 := { s.pl x.player with card := true }) 2 (.bool true) rfl)
      rw [hW6] at M6 ⊢
      clear hW6
      clear k9 f9
      refine wp_last ?_
      refine take11 (fun _ _ d _ _ h => by cases d <;> exact h) base bx L B n s mv (.slice cA s.cards.length cc) x W6 M6.out.hx M6.out.l M6.out.baseW (by have := HB0.out.cards; have := HK0.out; omega) _ _ _ _ _ _ _ _ _ _ _ _ _ _ _ _ _ _ _ _ _ _ _ _ _ _ _ _ _ _ _ _ _ _ _ _ _ _ _ _ _ _ _ _ _ _ _ _ _ _ _ _ _ _ _ _ _ _ _ _ _ _ _ _ _ _ _ _ _ _ _ _ _ _ _ _ _ _ _ _ _ _ _ _ _ _ _ _ _ _ _ _ _ _ _ _ _ _ _ _ _ _ _ _ _ _ _ _ _ _ _ _ _ _ _ _ _ _ _ _ _ _ _ _ _ _ _ _ _ _ _ _ _ _ _ _ _ _ _ _  ?_
      intro v81 v82 v83 v84 v85 v86 v87 v88 v89 v90 v91 cv7 W7 HL7 HK7 HB7 HC7
      dsimp only [Exit.inBlock, Exit.then]
      have M7 := hide (M6.out.setC HL7.out HK7.out HB7.out HC7.out)
      clear HL7 HK7 HB7 HC7
      go_upto_region 19 with fail
      have SAID := hide (show E.St.put ({ s with cards := s.cards ++ [x.player] }) x.player ({ s.pl x.player with card := true }) = s.said x by (have h1 := HD.out; rw [hdd] at h1; have h2 : E.late s.f x.hour = false ∧ (s.pl x.player).card = false ∧ (s.pl x.player).quit = false ∧ (s.cards.length : Int) < s.f.wilds := (by have h3 := h1.symm; simpa only [Bool.and_eq_true, Bool.not_eq_true', decide_eq_true_eq, and_assoc] using h3); unfold E.St.said; dsimp only; rw [if_neg (by rw [HKD.out]; decide), if_pos HKD.out, if_pos h2]))
      refine take19 (fun _ _ d _ _ h => by cases d <;> exact h) base bx L B n g ({ s with cards := s.cards ++ [x.player] }) mv cv7 x ({ s.pl x.player with card := true }) W7 M7.out.hx M7.out.l M7.out.hg (by have := HN.out; omega) HX0.out HX1.out _ _ _ _ _ _ _ _ _ _ _ _ _ _ _ _ _ _ _ _ _ _ _ _ _ _ _ _ _ _ _ _ _ _ _ _ _ _ _ _ _ _ _ _ _ _ _ _ _ _ _ _ _ _ _ _ _ _ _ _ _ _ _ _ _ _ _ _ _ _ _ _ _ _ _ _ _ _ _ _ _ _ _ _ _ _ _ _ _ _ _ _ _ _ _ _ _ _ _ _ _ _ _ _ _ _ _ _ _ _ _ _ _ _ _ _ _ _ _ _ _ _ _ _ _ _ _ _ _ _ _ _ _ _ _ _ _ _ _  ?_
      intro y129 y130 y131 y132 y133 y134 y135 W8 HL8 HK8
      rw [SAID.out] at HL8
      have HX8 := hide ((HK8.out.block bx (blk_lt M7.out.hx) (fun e => M7.out.nxB (Option.some.inj e))).trans M7.out.hx)
      have z1 : W8.cell? ⟨bx, 1, none⟩ = some (.int .i64 x.hour) := (blk_cell HX8.out 1).trans rfl
      have z2 : W8.cell? ⟨L, 4, none⟩ = some (.int .i64 s.f.freeze) := (HL8.out.c 4).trans (by rw [← E.said_freeze s x]; rfl)
      have HB8 := hide (Nat.le_trans M7.out.baseW HK8.out.size)
      go_wp2_with (first | (go_at_call 50; refine (late_any s.f L x.hour _ z2).mono ?_; rintro e w' ⟨rfl, rfl⟩) | (go_at_call 53; refine (settle_any base L B (n + 1) (s.said x) (E.late s.f x.hour) mv cv7 W8 HL8.out HOK.out HB8.out (by have := HN.out; omega) (by have := HBD.out.main; have := HK0.out; omega) (by have := HBD.out.places; have := HK0.out; omega)).mono ?_; rintro e w9 ⟨mv9, rfl, hl9, hb9, hk9, -⟩))
      go_end0
      exact take_fin M7.out HK8.out hl9 hb9 hk9
  by_cases h4 : x.kind = 4
  · have HKD := hide h4
    have d1 : (x.kind == 1) = false := by rw [h4]; rfl
    have d2 : (x.kind == 2) = false := by rw [h4]; rfl
    have d3 : (x.kind == 3) = false := by rw [h4]; rfl
    have d4 : (x.kind == 4) = true := by rw [h4]; rfl
    clear h4
    clear h1 h2 h3
    obtain ⟨cA, cc, hcv⟩ := own_form HL.out.cards
    subst hcv
    have k1 : W2.cell? ⟨bx, 1, none⟩ = some (.int .i64 x.hour) := (blk_cell M2.out.hx 1).trans rfl
    have c1 : W2.cell? ⟨g, 2, none⟩ = some (.bool (s.pl x.player).card) := (blk_cell M2.out.hg 2).trans rfl
    have c2 : W2.cell? ⟨g, 3, none⟩ = some (.bool (s.pl x.player).quit) := (blk_cell M2.out.hg 3).trans rfl
    have HC : ∀ V, V = W2 → Calls Tryz.prog 50 #[.pointer (some ⟨L, 0, none⟩), .int .i64 x.hour] V fun e w' => e = .returned (.bool (E.late s.f x.hour)) ∧ V = w' := fun V hV => by subst hV; exact late_any s.f L x.hour V ((M2.out.l.c 4).trans rfl)
    obtain ⟨pc, hpc⟩ : ∃ a, (s.pl x.player).card = a := ⟨_, rfl⟩
    obtain ⟨pq, hpq⟩ : ∃ a, (s.pl x.player).quit = a := ⟨_, rfl⟩
    obtain ⟨lt, hlt⟩ : ∃ a, E.late s.f x.hour = a := ⟨_, rfl⟩
    have HPC := hide hpc
    have HPQ := hide hpq
    have HLT := hide hlt
    rw [hpc] at c1
    rw [hpq] at c2
    rw [hlt] at HC
    clear hpc hpq hlt
    cases lt
    · go_upto_region 15 with (go_at_call 50; refine (HC _ rfl).mono ?_; rintro e w' ⟨rfl, rfl⟩)
      clear k1 c1 c2 k2 HC
      have k3 : W2.cell? ⟨g, 3, none⟩ = some (.bool (s.pl x.player).quit) := (blk_cell M2.out.hg 3).trans rfl
      have f3 := blk_frozen M2.out.hg 3
      go_upto_region 16 with fail
      obtain ⟨W4, hW4⟩ : ∃ W', W2.setCell ⟨g, 3, none⟩ (.bool true) = W' := ⟨_, rfl⟩
      have M4 := hide (M2.out.setG (p2 := { s.pl x.player with quit := true }) 3 (.bool true) rfl)
      rw [hW4] at M4 ⊢
      clear hW4
      clear k3 f3
      have k4 : W4.cell? ⟨L, 8, none⟩ = some (.slice cA s.cards.length cc) := (M4.out.l.c 8).trans rfl
      have eg : ∀ args w, (callFunc 52 args).run Tryz.prog w = .ok (.enter 52 args) w := enters_of Tryz.func52 (by kernel_rfl) rfl
      go_upto_region 19 with (go_at_call 51; refine (deleteFunc_any 52 #[.pointer (some ⟨bx, 0, none⟩)] eg (fun y => y == x.player) (fun W => W4.grownBy W (Value.slice cA s.cards.length cc).ownBlock) s.cards (fun W y _ hW => clTake_any bx x.player y W ((gr_cell hW (blk_lt M4.out.hx) (fun e => row_ne M4.out.l.cards M4.out.hx (by decide) e.symm) 3).trans ((blk_cell M4.out.hx 3).trans rfl)) (Nat.lt_of_lt_of_le (blk_lt M4.out.hx) hW.size)) base cA s.cards.length cc W4 (fun W W' hW hg => gr_trans hW hg) M4.out.l.cards (by have := HB0.out.cards; have := HK0.out; omega) (World.grownBy.refl _ _)).mono ?_; rintro e w5 ⟨rfl, ho5, hg5⟩; have HO5 := hide ho5; have HG5 := hide hg5; clear ho5 hg5; have hL5 := (HG5.out.block L M4.out.l.lt (fun e => M4.out.l.cardsL e.symm)).trans M4.out.l.blk; have k5 : w5.cell? ⟨L, 8, none⟩ = some (.slice cA s.cards.length cc) := (blk_cell hL5 8).trans rfl; have f5 := blk_frozen hL5 8; clear hL5)
      clear k4 k5 f5 eg
      have hlc : ∀ b, (Value.slice cA (s.cards.filter fun y => !(y == x.player)).length cc).ownBlock = some b → (Value.slice cA s.cards.length cc).ownBlock = some b ∨ W4.heap.size ≤ b := fun b hb => .inl (by cases cA <;> exact hb)
      have HLC := hide hlc
      clear hlc
      obtain ⟨W7, hW7⟩ : ∃ W', w5.setCell ⟨L, 8, none⟩ (.slice cA (s.cards.filter fun y => !(y == x.player)).length cc) = W' := ⟨_, rfl⟩
      have M7 := hide (M4.out.setC (M4.out.l.setCards HG5.out HO5.out HLC.out) (fun b hb h1 h2 => (Below.heap_setCell w5 ⟨L, 8, none⟩ _ b h1).trans (HG5.out.block b hb h2)) ((grown_below HG5.out M4.out.baseW (fun g hg => (M4.out.l.cards.lt g hg).1)).setCell (p := ⟨L, 8, none⟩) M4.out.l.lowL _) HLC.out)
      rw [hW7] at M7 ⊢
      clear hW7
      have SAID := hide (show E.St.put ({ s with cards := s.cards.filter fun y => !(y == x.player) }) x.player ({ s.pl x.player with quit := true }) = s.said x by (unfold E.St.said; dsimp only; rw [if_neg (by rw [HKD.out]; decide), if_neg (by rw [HKD.out]; decide), if_pos HKD.out, if_neg (by rintro ⟨h3, h4, h5⟩; first | exact absurd (HLT.out.symm.trans h3) (by decide) | exact absurd (HPC.out.symm.trans h4) (by decide) | exact absurd (HPQ.out.symm.trans h5) (by decide))]; rfl))
      refine take19 (fun _ _ d _ _ h => by cases d <;> exact h) base bx L B n g ({ s with cards := s.cards.filter fun y => !(y == x.player) }) mv (.slice cA (s.cards.filter fun y => !(y == x.player)).length cc) x ({ s.pl x.player with quit := true }) W7 M7.out.hx M7.out.l M7.out.hg (by have := HN.out; omega) HX0.out HX1.out _ _ _ _ _ _ _ _ _ _ _ _ _ _ _ _ _ _ _ _ _ _ _ _ _ _ _ _ _ _ _ _ _ _ _ _ _ _ _ _ _ _ _ _ _ _ _ _ _ _ _ _ _ _ _ _ _ _ _ _ _ _ _ _ _ _ _ _ _ _ _ _ _ _ _ _ _ _ _ _ _ _ _ _ _ _ _ _ _ _ _ _ _ _ _ _ _ _ _ _ _ _ _ _ _ _ _ _ _ _ _ _ _ _ _ _ _ _ _ _ _ _ _ _ _ _ _ _ _ _ _ _ _ _ _ _ _ _ _  ?_
      intro y129 y130 y131 y132 y133 y134 y135 W8 HL8 HK8
      rw [SAID.out] at HL8
      have HX8 := hide ((HK8.out.block bx (blk_lt M7.out.hx) (fun e => M7.out.nxB (Option.some.inj e))).trans M7.out.hx)
      have z1 : W8.cell? ⟨bx, 1, none⟩ = some (.int .i64 x.hour) := (blk_cell HX8.out 1).trans rfl
      have z2 : W8.cell? ⟨L, 4, none⟩ = some (.int .i64 s.f.freeze) := (HL8.out.c 4).trans (by rw [← E.said_freeze s x]; rfl)
      have HB8 := hide (Nat.le_trans M7.out.baseW HK8.out.size)
      go_wp2_with (first | (go_at_call 50; refine (late_any s.f L x.hour _ z2).mono ?_; rintro e w' ⟨rfl, rfl⟩) | (go_at_call 53; refine (settle_any base L B (n + 1) (s.said x) (E.late s.f x.hour) mv (.slice cA (s.cards.filter fun y => !(y == x.player)).length cc) W8 HL8.out HOK.out HB8.out (by have := HN.out; omega) (by have := HBD.out.main; have := HK0.out; omega) (by have := HBD.out.places; have := HK0.out; omega)).mono ?_; rintro e w9 ⟨mv9, rfl, hl9, hb9, hk9, -⟩))
      go_end0
      exact take_fin M7.out HK8.out hl9 hb9 hk9
    · cases pc
      · go_upto_region 15 with (go_at_call 50; refine (HC _ rfl).mono ?_; rintro e w' ⟨rfl, rfl⟩)
        clear k1 c1 c2 k2 HC
        have k3 : W2.cell? ⟨g, 3, none⟩ = some (.bool (s.pl x.player).quit) := (blk_cell M2.out.hg 3).trans rfl
        have f3 := blk_frozen M2.out.hg 3
        go_upto_region 16 with fail
        obtain ⟨W4, hW4⟩ : ∃ W', W2.setCell ⟨g, 3, none⟩ (.bool true) = W' := ⟨_, rfl⟩
        have M4 := hide (M2.out.setG (p2 := { s.pl x.player with quit := true }) 3 (.bool true) rfl)
        rw [hW4] at M4 ⊢
        clear hW4
        clear k3 f3
        have k4 : W4.cell? ⟨L, 8, none⟩ = some (.slice cA s.cards.length cc) := (M4.out.l.c 8).trans rfl
        have eg : ∀ args w, (callFunc 52 args).run Tryz.prog w = .ok (.enter 52 args) w := enters_of Tryz.func52 (by kernel_rfl) rfl
        go_upto_region 19 with (go_at_call 51; refine (deleteFunc_any 52 #[.pointer (some ⟨bx, 0, none⟩)] eg (fun y => y == x.player) (fun W => W4.grownBy W (Value.slice cA s.cards.length cc).ownBlock) s.cards (fun W y _ hW => clTake_any bx x.player y W ((gr_cell hW (blk_lt M4.out.hx) (fun e => row_ne M4.out.l.cards M4.out.hx (by decide) e.symm) 3).trans ((blk_cell M4.out.hx 3).trans rfl)) (Nat.lt_of_lt_of_le (blk_lt M4.out.hx) hW.size)) base cA s.cards.length cc W4 (fun W W' hW hg => gr_trans hW hg) M4.out.l.cards (by have := HB0.out.cards; have := HK0.out; omega) (World.grownBy.refl _ _)).mono ?_; rintro e w5 ⟨rfl, ho5, hg5⟩; have HO5 := hide ho5; have HG5 := hide hg5; clear ho5 hg5; have hL5 := (HG5.out.block L M4.out.l.lt (fun e => M4.out.l.cardsL e.symm)).trans M4.out.l.blk; have k5 : w5.cell? ⟨L, 8, none⟩ = some (.slice cA s.cards.length cc) := (blk_cell hL5 8).trans rfl; have f5 := blk_frozen hL5 8; clear hL5)
        clear k4 k5 f5 eg
        have hlc : ∀ b, (Value.slice cA (s.cards.filter fun y => !(y == x.player)).length cc).ownBlock = some b → (Value.slice cA s.cards.length cc).ownBlock = some b ∨ W4.heap.size ≤ b := fun b hb => .inl (by cases cA <;> exact hb)
        have HLC := hide hlc
        clear hlc
        obtain ⟨W7, hW7⟩ : ∃ W', w5.setCell ⟨L, 8, none⟩ (.slice cA (s.cards.filter fun y => !(y == x.player)).length cc) = W' := ⟨_, rfl⟩
        have M7 := hide (M4.out.setC (M4.out.l.setCards HG5.out HO5.out HLC.out) (fun b hb h1 h2 => (Below.heap_setCell w5 ⟨L, 8, none⟩ _ b h1).trans (HG5.out.block b hb h2)) ((grown_below HG5.out M4.out.baseW (fun g hg => (M4.out.l.cards.lt g hg).1)).setCell (p := ⟨L, 8, none⟩) M4.out.l.lowL _) HLC.out)
        rw [hW7] at M7 ⊢
        clear hW7
        have SAID := hide (show E.St.put ({ s with cards := s.cards.filter fun y => !(y == x.player) }) x.player ({ s.pl x.player with quit := true }) = s.said x by (unfold E.St.said; dsimp only; rw [if_neg (by rw [HKD.out]; decide), if_neg (by rw [HKD.out]; decide), if_pos HKD.out, if_neg (by rintro ⟨h3, h4, h5⟩; first | exact absurd (HLT.out.symm.trans h3) (by decide) | exact absurd (HPC.out.symm.trans h4) (by decide) | exact absurd (HPQ.out.symm.trans h5) (by decide))]; rfl))
        refine take19 (fun _ _ d _ _ h => by cases d <;> exact h) base bx L B n g ({ s with cards := s.cards.filter fun y => !(y == x.player) }) mv (.slice cA (s.cards.filter fun y => !(y == x.player)).length cc) x ({ s.pl x.player with quit := true }) W7 M7.out.hx M7.out.l M7.out.hg (by have := HN.out; omega) HX0.out HX1.out _ _ _ _ _ _ _ _ _ _ _ _ _ _ _ _ _ _ _ _ _ _ _ _ _ _ _ _ _ _ _ _ _ _ _ _ _ _ _ _ _ _ _ _ _ _ _ _ _ _ _ _ _ _ _ _ _ _ _ _ _ _ _ _ _ _ _ _ _ _ _ _ _ _ _ _ _ _ _ _ _ _ _ _ _ _ _ _ _ _ _ _ _ _ _ _ _ _ _ _ _ _ _ _ _ _ _ _ _ _ _ _ _ _ _ _ _ _ _ _ _ _ _ _ _ _ _ _ _ _ _ _ _ _ _ _ _ _ _  ?_
        intro y129 y130 y131 y132 y133 y134 y135 W8 HL8 HK8
        rw [SAID.out] at HL8
        have HX8 := hide ((HK8.out.block bx (blk_lt M7.out.hx) (fun e => M7.out.nxB (Option.some.inj e))).trans M7.out.hx)
        have z1 : W8.cell? ⟨bx, 1, none⟩ = some (.int .i64 x.hour) := (blk_cell HX8.out 1).trans rfl
        have z2 : W8.cell? ⟨L, 4, none⟩ = some (.int .i64 s.f.freeze) := (HL8.out.c 4).trans (by rw [← E.said_freeze s x]; rfl)
        have HB8 := hide (Nat.le_trans M7.out.baseW HK8.out.size)
        go_wp2_with (first | (go_at_call 50; refine (late_any s.f L x.hour _ z2).mono ?_; rintro e w' ⟨rfl, rfl⟩) | (go_at_call 53; refine (settle_any base L B (n + 1) (s.said x) (E.late s.f x.hour) mv (.slice cA (s.cards.filter fun y => !(y == x.player)).length cc) W8 HL8.out HOK.out HB8.out (by have := HN.out; omega) (by have := HBD.out.main; have := HK0.out; omega) (by have := HBD.out.places; have := HK0.out; omega)).mono ?_; rintro e w9 ⟨mv9, rfl, hl9, hb9, hk9, -⟩))
        go_end0
        exact take_fin M7.out HK8.out hl9 hb9 hk9
      · cases pq
        · have k6 : W2.cell? ⟨L, 0, none⟩ = some (.int .i64 s.f.places) := (M2.out.l.c 0).trans rfl
          have f6 := blk_frozen M2.out.l.blk 0
          have tu0 := HB0.out.places0
          have tu3 : s.f.places ≤ 600 := by have := HB0.out.places; have := HK0.out; omega
          go_upto_region 15 with (go_at_call 50; refine (HC _ rfl).mono ?_; rintro e w' ⟨rfl, rfl⟩)
          obtain ⟨W3, hW3⟩ : ∃ W', W2.setCell ⟨L, 0, none⟩ (.int .i64 (s.f.places + 1)) = W' := ⟨_, rfl⟩
          have M3 := hide (M2.out.setL (M2.out.l.setPlaces (s.f.places + 1)))
          rw [hW3] at M3 ⊢
          clear hW3
          clear k1 c1 c2 k2 k6 f6 tu0 tu3 HC
          have k3 : W3.cell? ⟨g, 3, none⟩ = some (.bool (s.pl x.player).quit) := (blk_cell M3.out.hg 3).trans rfl
          have f3 := blk_frozen M3.out.hg 3
          go_upto_region 16 with fail
          obtain ⟨W4, hW4⟩ : ∃ W', W3.setCell ⟨g, 3, none⟩ (.bool true) = W' := ⟨_, rfl⟩
          have M4 := hide (M3.out.setG (p2 := { s.pl x.player with quit := true }) 3 (.bool true) rfl)
          rw [hW4] at M4 ⊢
          clear hW4
          clear k3 f3
          have k4 : W4.cell? ⟨L, 8, none⟩ = some (.slice cA s.cards.length cc) := (M4.out.l.c 8).trans rfl
          have eg : ∀ args w, (callFunc 52 args).run Tryz.prog w = .ok (.enter 52 args) w := enters_of Tryz.func52 (by kernel_rfl) rfl
          go_upto_region 19 with (go_at_call 51; refine (deleteFunc_any 52 #[.pointer (some ⟨bx, 0, none⟩)] eg (fun y => y == x.player) (fun W => W4.grownBy W (Value.slice cA s.cards.length cc).ownBlock) s.cards (fun W y _ hW => clTake_any bx x.player y W ((gr_cell hW (blk_lt M4.out.hx) (fun e => row_ne M4.out.l.cards M4.out.hx (by decide) e.symm) 3).trans ((blk_cell M4.out.hx 3).trans rfl)) (Nat.lt_of_lt_of_le (blk_lt M4.out.hx) hW.size)) base cA s.cards.length cc W4 (fun W W' hW hg => gr_trans hW hg) M4.out.l.cards (by have := HB0.out.cards; have := HK0.out; omega) (World.grownBy.refl _ _)).mono ?_; rintro e w5 ⟨rfl, ho5, hg5⟩; have HO5 := hide ho5; have HG5 := hide hg5; clear ho5 hg5; have hL5 := (HG5.out.block L M4.out.l.lt (fun e => M4.out.l.cardsL e.symm)).trans M4.out.l.blk; have k5 : w5.cell? ⟨L, 8, none⟩ = some (.slice cA s.cards.length cc) := (blk_cell hL5 8).trans rfl; have f5 := blk_frozen hL5 8; clear hL5)
          clear k4 k5 f5 eg
          have hlc : ∀ b, (Value.slice cA (s.cards.filter fun y => !(y == x.player)).length cc).ownBlock = some b → (Value.slice cA s.cards.length cc).ownBlock = some b ∨ W4.heap.size ≤ b := fun b hb => .inl (by cases cA <;> exact hb)
          have HLC := hide hlc
          clear hlc
          obtain ⟨W7, hW7⟩ : ∃ W', w5.setCell ⟨L, 8, none⟩ (.slice cA (s.cards.filter fun y => !(y == x.player)).length cc) = W' := ⟨_, rfl⟩
          have M7 := hide (M4.out.setC (M4.out.l.setCards HG5.out HO5.out HLC.out) (fun b hb h1 h2 => (Below.heap_setCell w5 ⟨L, 8, none⟩ _ b h1).trans (HG5.out.block b hb h2)) ((grown_below HG5.out M4.out.baseW (fun g hg => (M4.out.l.cards.lt g hg).1)).setCell (p := ⟨L, 8, none⟩) M4.out.l.lowL _) HLC.out)
          rw [hW7] at M7 ⊢
          clear hW7
          have SAID := hide (show E.St.put ({ { s with f := { s.f with places := s.f.places + 1 } } with cards := s.cards.filter fun y => !(y == x.player) }) x.player ({ s.pl x.player with quit := true }) = s.said x by (unfold E.St.said; dsimp only; rw [if_neg (by rw [HKD.out]; decide), if_neg (by rw [HKD.out]; decide), if_pos HKD.out, if_pos ⟨HLT.out, HPC.out, HPQ.out⟩]; rfl))
          refine take19 (fun _ _ d _ _ h => by cases d <;> exact h) base bx L B n g ({ { s with f := { s.f with places := s.f.places + 1 } } with cards := s.cards.filter fun y => !(y == x.player) }) mv (.slice cA (s.cards.filter fun y => !(y == x.player)).length cc) x ({ s.pl x.player with quit := true }) W7 M7.out.hx M7.out.l M7.out.hg (by have := HN.out; omega) HX0.out HX1.out _ _ _ _ _ _ _ _ _ _ _ _ _ _ _ _ _ _ _ _ _ _ _ _ _ _ _ _ _ _ _ _ _ _ _ _ _ _ _ _ _ _ _ _ _ _ _ _ _ _ _ _ _ _ _ _ _ _ _ _ _ _ _ _ _ _ _ _ _ _ _ _ _ _ _ _ _ _ _ _ _ _ _ _ _ _ _ _ _ _ _ _ _ _ _ _ _ _ _ _ _ _ _ _ _ _ _ _ _ _ _ _ _ _ _ _ _ _ _ _ _ _ _ _ _ _ _ _ _ _ _ _ _ _ _ _ _ _ _  ?_
          intro y129 y130 y131 y132 y133 y134 y135 W8 HL8 HK8
          rw [SAID.out] at HL8
          have HX8 := hide ((HK8.out.block bx (blk_lt M7.out.hx) (fun e => M7.out.nxB (Option.some.inj e))).trans M7.out.hx)
          have z1 : W8.cell? ⟨bx, 1, none⟩ = some (.int .i64 x.hour) := (blk_cell HX8.out 1).trans rfl
          have z2 : W8.cell? ⟨L, 4, none⟩ = some (.int .i64 s.f.freeze) := (HL8.out.c 4).trans (by rw [← E.said_freeze s x]; rfl)
          have HB8 := hide (Nat.le_trans M7.out.baseW HK8.out.size)
          go_wp2_with (first | (go_at_call 50; refine (late_any s.f L x.hour _ z2).mono ?_; rintro e w' ⟨rfl, rfl⟩) | (go_at_call 53; refine (settle_any base L B (n + 1) (s.said x) (E.late s.f x.hour) mv (.slice cA (s.cards.filter fun y => !(y == x.player)).length cc) W8 HL8.out HOK.out HB8.out (by have := HN.out; omega) (by have := HBD.out.main; have := HK0.out; omega) (by have := HBD.out.places; have := HK0.out; omega)).mono ?_; rintro e w9 ⟨mv9, rfl, hl9, hb9, hk9, -⟩))
          go_end0
          exact take_fin M7.out HK8.out hl9 hb9 hk9
        · go_upto_region 15 with (go_at_call 50; refine (HC _ rfl).mono ?_; rintro e w' ⟨rfl, rfl⟩)
          clear k1 c1 c2 k2 HC
          have k3 : W2.cell? ⟨g, 3, none⟩ = some (.bool (s.pl x.player).quit) := (blk_cell M2.out.hg 3).trans rfl
          have f3 := blk_frozen M2.out.hg 3
          go_upto_region 16 with fail
          obtain ⟨W4, hW4⟩ : ∃ W', W2.setCell ⟨g, 3, none⟩ (.bool true) = W' := ⟨_, rfl⟩
          have M4 := hide (M2.out.setG (p2 := { s.pl x.player with quit := true }) 3 (.bool true) rfl)
          rw [hW4] at M4 ⊢
          clear hW4
          clear k3 f3
          have k4 : W4.cell? ⟨L, 8, none⟩ = some (.slice cA s.cards.length cc) := (M4.out.l.c 8).trans rfl
          have eg : ∀ args w, (callFunc 52 args).run Tryz.prog w = .ok (.enter 52 args) w := enters_of Tryz.func52 (by kernel_rfl) rfl
          go_upto_region 19 with (go_at_call 51; refine (deleteFunc_any 52 #[.pointer (some ⟨bx, 0, none⟩)] eg (fun y => y == x.player) (fun W => W4.grownBy W (Value.slice cA s.cards.length cc).ownBlock) s.cards (fun W y _ hW => clTake_any bx x.player y W ((gr_cell hW (blk_lt M4.out.hx) (fun e => row_ne M4.out.l.cards M4.out.hx (by decide) e.symm) 3).trans ((blk_cell M4.out.hx 3).trans rfl)) (Nat.lt_of_lt_of_le (blk_lt M4.out.hx) hW.size)) base cA s.cards.length cc W4 (fun W W' hW hg => gr_trans hW hg) M4.out.l.cards (by have := HB0.out.cards; have := HK0.out; omega) (World.grownBy.refl _ _)).mono ?_; rintro e w5 ⟨rfl, ho5, hg5⟩; have HO5 := hide ho5; have HG5 := hide hg5; clear ho5 hg5; have hL5 := (HG5.out.block L M4.out.l.lt (fun e => M4.out.l.cardsL e.symm)).trans M4.out.l.blk; have k5 : w5.cell? ⟨L, 8, none⟩ = some (.slice cA s.cards.length cc) := (blk_cell hL5 8).trans rfl; have f5 := blk_frozen hL5 8; clear hL5)
          clear k4 k5 f5 eg
          have hlc : ∀ b, (Value.slice cA (s.cards.filter fun y => !(y == x.player)).length cc).ownBlock = some b → (Value.slice cA s.cards.length cc).ownBlock = some b ∨ W4.heap.size ≤ b := fun b hb => .inl (by cases cA <;> exact hb)
          have HLC := hide hlc
          clear hlc
          obtain ⟨W7, hW7⟩ : ∃ W', w5.setCell ⟨L, 8, none⟩ (.slice cA (s.cards.filter fun y => !(y == x.player)).length cc) = W' := ⟨_, rfl⟩
          have M7 := hide (M4.out.setC (M4.out.l.setCards HG5.out HO5.out HLC.out) (fun b hb h1 h2 => (Below.heap_setCell w5 ⟨L, 8, none⟩ _ b h1).trans (HG5.out.block b hb h2)) ((grown_below HG5.out M4.out.baseW (fun g hg => (M4.out.l.cards.lt g hg).1)).setCell (p := ⟨L, 8, none⟩) M4.out.l.lowL _) HLC.out)
          rw [hW7] at M7 ⊢
          clear hW7
          have SAID := hide (show E.St.put ({ s with cards := s.cards.filter fun y => !(y == x.player) }) x.player ({ s.pl x.player with quit := true }) = s.said x by (unfold E.St.said; dsimp only; rw [if_neg (by rw [HKD.out]; decide), if_neg (by rw [HKD.out]; decide), if_pos HKD.out, if_neg (by rintro ⟨h3, h4, h5⟩; first | exact absurd (HLT.out.symm.trans h3) (by decide) | exact absurd (HPC.out.symm.trans h4) (by decide) | exact absurd (HPQ.out.symm.trans h5) (by decide))]; rfl))
          refine take19 (fun _ _ d _ _ h => by cases d <;> exact h) base bx L B n g ({ s with cards := s.cards.filter fun y => !(y == x.player) }) mv (.slice cA (s.cards.filter fun y => !(y == x.player)).length cc) x ({ s.pl x.player with quit := true }) W7 M7.out.hx M7.out.l M7.out.hg (by have := HN.out; omega) HX0.out HX1.out _ _ _ _ _ _ _ _ _ _ _ _ _ _ _ _ _ _ _ _ _ _ _ _ _ _ _ _ _ _ _ _ _ _ _ _ _ _ _ _ _ _ _ _ _ _ _ _ _ _ _ _ _ _ _ _ _ _ _ _ _ _ _ _ _ _ _ _ _ _ _ _ _ _ _ _ _ _ _ _ _ _ _ _ _ _ _ _ _ _ _ _ _ _ _ _ _ _ _ _ _ _ _ _ _ _ _ _ _ _ _ _ _ _ _ _ _ _ _ _ _ _ _ _ _ _ _ _ _ _ _ _ _ _ _ _ _ _ _  ?_
          intro y129 y130 y131 y132 y133 y134 y135 W8 HL8 HK8
          rw [SAID.out] at HL8
          have HX8 := hide ((HK8.out.block bx (blk_lt M7.out.hx) (fun e => M7.out.nxB (Option.some.inj e))).trans M7.out.hx)
          have z1 : W8.cell? ⟨bx, 1, none⟩ = some (.int .i64 x.hour) := (blk_cell HX8.out 1).trans rfl
          have z2 : W8.cell? ⟨L, 4, none⟩ = some (.int .i64 s.f.freeze) := (HL8.out.c 4).trans (by rw [← E.said_freeze s x]; rfl)
          have HB8 := hide (Nat.le_trans M7.out.baseW HK8.out.size)
          go_wp2_with (first | (go_at_call 50; refine (late_any s.f L x.hour _ z2).mono ?_; rintro e w' ⟨rfl, rfl⟩) | (go_at_call 53; refine (settle_any base L B (n + 1) (s.said x) (E.late s.f x.hour) mv (.slice cA (s.cards.filter fun y => !(y == x.player)).length cc) W8 HL8.out HOK.out HB8.out (by have := HN.out; omega) (by have := HBD.out.main; have := HK0.out; omega) (by have := HBD.out.places; have := HK0.out; omega)).mono ?_; rintro e w9 ⟨mv9, rfl, hl9, hb9, hk9, -⟩))
          go_end0
          exact take_fin M7.out HK8.out hl9 hb9 hk9
  by_cases h5 : x.kind = 5
  · have HKD := hide h5
    have d1 : (x.kind == 1) = false := by rw [h5]; rfl
    have d2 : (x.kind == 2) = false := by rw [h5]; rfl
    have d3 : (x.kind == 3) = false := by rw [h5]; rfl
    have d4 : (x.kind == 4) = false := by rw [h5]; rfl
    have d5 : (x.kind == 5) = true := by rw [h5]; rfl
    clear h5
    clear h1 h2 h3 h4
    have k3 : W2.cell? ⟨g, 4, none⟩ = some (.bool (s.pl x.player).sgn) := (blk_cell M2.out.hg 4).trans rfl
    have f3 := blk_frozen M2.out.hg 4
    go_upto_region 19 with fail
    obtain ⟨W3, hW3⟩ : ∃ W', W2.setCell ⟨g, 4, none⟩ (.bool true) = W' := ⟨_, rfl⟩
    have M3 := hide (M2.out.setG (p2 := { s.pl x.player with sgn := true }) 4 (.bool true) rfl)
    rw [hW3] at M3 ⊢
    clear hW3
    clear k3 f3 k2
    have SAID := hide (show E.St.put (s) x.player ({ s.pl x.player with sgn := true }) = s.said x by (unfold E.St.said; dsimp only; rw [if_neg (by rw [HKD.out]; decide), if_neg (by rw [HKD.out]; decide), if_neg (by rw [HKD.out]; decide), if_pos HKD.out]))
    refine take19 (fun _ _ d _ _ h => by cases d <;> exact h) base bx L B n g (s) mv cv x ({ s.pl x.player with sgn := true }) W3 M3.out.hx M3.out.l M3.out.hg (by have := HN.out; omega) HX0.out HX1.out _ _ _ _ _ _ _ _ _ _ _ _ _ _ _ _ _ _ _ _ _ _ _ _ _ _ _ _ _ _ _ _ _ _ _ _ _ _ _ _ _ _ _ _ _ _ _ _ _ _ _ _ _ _ _ _ _ _ _ _ _ _ _ _ _ _ _ _ _ _ _ _ _ _ _ _ _ _ _ _ _ _ _ _ _ _ _ _ _ _ _ _ _ _ _ _ _ _ _ _ _ _ _ _ _ _ _ _ _ _ _ _ _ _ _ _ _ _ _ _ _ _ _ _ _ _ _ _ _ _ _ _ _ _ _ _ _ _ _  ?_
    intro y129 y130 y131 y132 y133 y134 y135 W8 HL8 HK8
    rw [SAID.out] at HL8
    have HX8 := hide ((HK8.out.block bx (blk_lt M3.out.hx) (fun e => M3.out.nxB (Option.some.inj e))).trans M3.out.hx)
    have z1 : W8.cell? ⟨bx, 1, none⟩ = some (.int .i64 x.hour) := (blk_cell HX8.out 1).trans rfl
    have z2 : W8.cell? ⟨L, 4, none⟩ = some (.int .i64 s.f.freeze) := (HL8.out.c 4).trans (by rw [← E.said_freeze s x]; rfl)
    have HB8 := hide (Nat.le_trans M3.out.baseW HK8.out.size)
    go_wp2_with (first | (go_at_call 50; refine (late_any s.f L x.hour _ z2).mono ?_; rintro e w' ⟨rfl, rfl⟩) | (go_at_call 53; refine (settle_any base L B (n + 1) (s.said x) (E.late s.f x.hour) mv cv W8 HL8.out HOK.out HB8.out (by have := HN.out; omega) (by have := HBD.out.main; have := HK0.out; omega) (by have := HBD.out.places; have := HK0.out; omega)).mono ?_; rintro e w9 ⟨mv9, rfl, hl9, hb9, hk9, -⟩))
    go_end0
    exact take_fin M3.out HK8.out hl9 hb9 hk9
  have HKO := hide (show ¬(x.kind = 1 ∨ x.kind = 2) ∧ ¬x.kind = 3 ∧ ¬x.kind = 4 ∧ ¬x.kind = 5 from ⟨fun h => h.elim h1 h2, h3, h4, h5⟩)
  have d1 : (x.kind == 1) = false := by simpa using h1
  have d2 : (x.kind == 2) = false := by simpa using h2
  have d3 : (x.kind == 3) = false := by simpa using h3
  have d4 : (x.kind == 4) = false := by simpa using h4
  have d5 : (x.kind == 5) = false := by simpa using h5
  clear h1 h2 h3 h4 h5
  go_upto_region 19 with fail
  have SAID := hide (show E.St.put (s) x.player (s.pl x.player) = s.said x by (unfold E.St.said; dsimp only; rw [if_neg HKO.out.1, if_neg HKO.out.2.1, if_neg HKO.out.2.2.1, if_neg HKO.out.2.2.2]))
  refine take19 (fun _ _ d _ _ h => by cases d <;> exact h) base bx L B n g (s) mv cv x (s.pl x.player) W2 M2.out.hx M2.out.l M2.out.hg (by have := HN.out; omega) HX0.out HX1.out _ _ _ _ _ _ _ _ _ _ _ _ _ _ _ _ _ _ _ _ _ _ _ _ _ _ _ _ _ _ _ _ _ _ _ _ _ _ _ _ _ _ _ _ _ _ _ _ _ _ _ _ _ _ _ _ _ _ _ _ _ _ _ _ _ _ _ _ _ _ _ _ _ _ _ _ _ _ _ _ _ _ _ _ _ _ _ _ _ _ _ _ _ _ _ _ _ _ _ _ _ _ _ _ _ _ _ _ _ _ _ _ _ _ _ _ _ _ _ _ _ _ _ _ _ _ _ _ _ _ _ _ _ _ _ _ _ _ _  ?_
  intro y129 y130 y131 y132 y133 y134 y135 W8 HL8 HK8
  rw [SAID.out] at HL8
  have HX8 := hide ((HK8.out.block bx (blk_lt M2.out.hx) (fun e => M2.out.nxB (Option.some.inj e))).trans M2.out.hx)
  have z1 : W8.cell? ⟨bx, 1, none⟩ = some (.int .i64 x.hour) := (blk_cell HX8.out 1).trans rfl
  have z2 : W8.cell? ⟨L, 4, none⟩ = some (.int .i64 s.f.freeze) := (HL8.out.c 4).trans (by rw [← E.said_freeze s x]; rfl)
  have HB8 := hide (Nat.le_trans M2.out.baseW HK8.out.size)
  go_wp2_with (first | (go_at_call 50; refine (late_any s.f L x.hour _ z2).mono ?_; rintro e w' ⟨rfl, rfl⟩) | (go_at_call 53; refine (settle_any base L B (n + 1) (s.said x) (E.late s.f x.hour) mv cv W8 HL8.out HOK.out HB8.out (by have := HN.out; omega) (by have := HBD.out.main; have := HK0.out; omega) (by have := HBD.out.places; have := HK0.out; omega)).mono ?_; rintro e w9 ⟨mv9, rfl, hl9, hb9, hk9, -⟩))
  go_end0
  exact take_fin M2.out HK8.out hl9 hb9 hk9

end Go.Proofs.YtobjahlmjcnfoaaGreat

namespace Go.Proofs.YtobjahlmjcnfoaaGreat
open Go.RowKit Go.Sort
attribute [local go_sem ↓] Go.wp_at_zero Go.wp_at_succ

theorem own_nil {w : World} {base : Nat} {e : TypeId} {n m c size : Nat} {xs : List Value} {A : Option Addr} (h : w.ownsRow base e size (.slice A m c) n xs) : A = none → c = 0 := by
  intro hA
  rcases h.2 with ⟨h1, h2⟩ | ⟨g, cap, cur, h1, _⟩
  · simp only [Value.slice.injEq] at h1; exact h1.2.2
  · simp only [Value.slice.injEq] at h1; rw [hA] at h1; cases h1.1
theorem LAt.below' {w w' : World} {base L B n : Nat} {s : E.St} {mv cv : Value} (h : LAt w base L B n s mv cv) (hb : Below w.heap.size w w') : LAt w' base L B n s mv cv := h.below hb
theorem cap_row2 {K : Act → World → Prop} {a : Act} {u : World} {b : Nat} {cs old : Array Value} {t : TypeId} (hb : u.heap[b]? = some (.cells old t (0, 0)))
    (h : ∀ W', W'.heap[b]? = some (.cells cs t (0, 0)) → u.grownBy W' (some b) → (∀ W0 : World, Below W0.heap.size W0 u → W0.heap.size ≤ b → Below W0.heap.size W0 W') → K a W') : K a (u.setRow b cs) :=
  cap_row1 (K := fun a w => u.grownBy w (some b) → K a w) (a := a) hb (fun W' h1 h2 h3 => h W' h1 h3 h2) (setRow_grown u b cs)
theorem entRow : (Tryz.prog.info? 38).map (·.size) = some 4 := by kernel_rfl

set_option maxHeartbeats 6400000 in
set_option maxRecDepth 100000 in
theorem newList_any (f : E.Fd) (w : World) :
    Calls Tryz.prog 34 #[.agg #[.int .i64 f.places, .int .i64 f.wilds, .int .i64 f.guards, .int .i64 f.close, .int .i64 f.freeze]] w fun e w' => e = .returned (.pointer (some ⟨w.heap.size + 1 + 1, 0, none⟩)) ∧ LAt w' w.heap.size (w.heap.size + 1 + 1) (w.heap.size + 1) 0 (E.St.new f) (.slice none 0 0) (.slice none 0 0) ∧ Below w.heap.size w w' := by
  have hmm := @Go.RowKit.run_makeMap Tryz.prog
  go_enter Tryz.func34, Tryz.ntmps34
  go_wp2_with fail
  go_ret
  refine ⟨rfl, ⟨by omega, by omega, ?_, ?_, World.ownsRow_nil _ _ _ _, World.ownsRow_nil _ _ _ _, fun g hg => by cases hg⟩, by (repeat' first | exact zbR _ _ | assumption | refine zbD ?_ | refine zbA ?_ ?_ _ | refine zbS ?_ ?_ _ | refine zbT ?_ (by assumption) ?_ | (simp; done) | (simp; omega) | omega)⟩
  · refine alloc_new_at (by simp)
  · have := MapK.made (E := elP) (w.alloc (.cells #[.int .i64 f.places, .int .i64 f.wilds, .int .i64 f.guards, .int .i64 f.close, .int .i64 f.freeze] 23))
    have h2 := this.below (zbA (zbR _ _) (Nat.le_refl _) (.cells #[.int .i64 f.places, .int .i64 f.wilds, .int .i64 f.guards, .int .i64 f.close, .int .i64 f.freeze, .map (some (w.heap.size + 1)), .int .i64 0, .slice none 0 0, .slice none 0 0] 82))
    simp only [World.size_alloc] at h2
    exact h2

def EntPost (s : E.St) (w : World) (e : Ending) (w' : World) : Prop := ∃ A1 c1 A2 c2 A3 c3, e = .returned (.agg #[.slice A1 s.main.length c1, .slice A2 s.cards.length c2, .slice A3 s.alts.length c3, .int .i64 (s.f.places - (s.main.length : Int))]) ∧ w'.ownsRow w.heap.size 3 1 (.slice A1 s.main.length c1) s.main.length (flatI s.main) ∧ w'.ownsRow w.heap.size 3 1 (.slice A2 s.cards.length c2) s.cards.length (flatI s.cards) ∧ w'.ownsRow w.heap.size 3 1 (.slice A3 s.alts.length c3) s.alts.length (flatI s.alts) ∧ Below w.heap.size w w' ∧ s.alts.length ≤ 1000

set_option maxHeartbeats 6400000 in
set_option maxRecDepth 100000 in
theorem entries_any (base L B n : Nat) (s : E.St) (mv cv : Value) (w : World) (h : LAt w base L B n s mv cv) (ok : E.StOk s) (hn : n ≤ 1000) (hml : s.main.length ≤ 900) (hcl : s.cards.length ≤ 900) (hp0 : 0 ≤ s.f.places) (hp1 : s.f.places ≤ 900) :
    Calls Tryz.prog 31 #[.pointer (some ⟨L, 0, none⟩)] w (EntPost s w) := by
  obtain ⟨mA, mc, hmv⟩ := own_form h.main
  subst hmv
  obtain ⟨cA, cc, hcv⟩ := own_form h.cards
  subst hcv
  have hSof : ∀ v, Below w.heap.size w v → (fun w' => Below w.heap.size w w' ∧ w'.cell? ⟨L, 7, none⟩ = some (.slice mA s.main.length mc) ∧ w'.cell? ⟨L, 8, none⟩ = some (.slice cA s.cards.length cc) ∧ w'.cell? ⟨L, 0, none⟩ = some (.int .i64 s.f.places)) v := by
    intro v hb
    have hL := h.below hb
    exact ⟨hb, (hL.c 7).trans rfl, (hL.c 8).trans rfl, (hL.c 0).trans rfl⟩
  have HL := hide h
  have OK := hide ok
  have HN := hide hn
  have HML := hide hml
  have HCL := hide hcl
  have hm0 : (0 : Int) ≤ (s.main.length : Int) := by omega
  have hm1 : (s.main.length : Int) ≤ 900 := by omega
  clear h ok hn hml hcl
  go_enter Tryz.func31, Tryz.ntmps31
  go_upto_region 1 with fail
  obtain ⟨W0, hW0⟩ : ∃ W0, w.alloc (.cells #[.slice none 0 0, .slice none 0 0, .slice none 0 0, .int .i64 0] 38) = W0 := ⟨_, rfl⟩
  have HB0 := hide (show Below w.heap.size w W0 by rw [← hW0]; (repeat' first | exact zbR _ _ | assumption | refine zbD ?_ | refine zbA ?_ ?_ _ | refine zbS ?_ ?_ _ | refine zbT ?_ (by assumption) ?_ | (simp; done) | (simp; omega) | omega))
  have HQ00 := hide (show W0.heap[w.heap.size]? = some (.cells #[.slice none 0 0, .slice none 0 0, .slice none 0 0, .int .i64 0] 38 (0, 0)) by rw [← hW0]; exact World.alloc_heap_new _ _)
  rw [hW0]
  clear hW0
  obtain ⟨q, hq⟩ : ∃ q, w.heap.size = q := ⟨_, rfl⟩
  have HQL := hide (show w.heap.size ≤ q by omega)
  rw [hq] at HQ00 ⊢
  clear hq
  have HQ0 := hide (show W0.drew.heap[q]? = some (.cells #[.slice none 0 0, .slice none 0 0, .slice none 0 0, .int .i64 0] 38 (0, 0)) from HQ00.out)
  clear HQ00
  have hS : (fun w' => Below w.heap.size w w' ∧ w'.cell? ⟨L, 7, none⟩ = some (.slice mA s.main.length mc) ∧ w'.cell? ⟨L, 8, none⟩ = some (.slice cA s.cards.length cc) ∧ w'.cell? ⟨L, 0, none⟩ = some (.int .i64 s.f.places)) W0 := hSof _ HB0.out
  (try dsimp only at hS)
  refine wp_region_held_drew (S := (fun w' => Below w.heap.size w w' ∧ w'.cell? ⟨L, 7, none⟩ = some (.slice mA s.main.length mc) ∧ w'.cell? ⟨L, 8, none⟩ = some (.slice cA s.cards.length cc) ∧ w'.cell? ⟨L, 0, none⟩ = some (.int .i64 s.f.places))) (by kernel_rfl) ?_ (fun hD0 => ?_)
  · (try dsimp only); first | assumption | exact hSof _ (zbD HB0.out)
  refine tW ?_ 0 rfl (by kernel_rfl) (fun _ _ _ h => h) (by rfl) (by assumption) ?_ ?_; rotate_left; (focus (intro w hSw; (try dsimp only at hSw); go_simp; try with_reducible rfl)); try simp only [Act.put, zl, z0, z1]
  refine tW ?_ 1 rfl (by kernel_rfl) (fun _ _ _ h => h) (by rfl) (by assumption) ?_ ?_; rotate_left; (focus (intro w hSw; (try dsimp only at hSw); go_simp; try with_reducible rfl)); try simp only [Act.put, zl, z0, z1]
  refine tW ?_ 2 rfl (by kernel_rfl) (fun _ _ _ h => h) (by rfl) (by assumption) ?_ ?_; rotate_left; (focus (intro w hSw; (try dsimp only at hSw); go_simp; try with_reducible rfl)); try simp only [Act.put, zl, z0, z1]
  refine tW ?_ 3 rfl (by kernel_rfl) (fun _ _ _ h => h) (by rfl) (by assumption) ?_ ?_; rotate_left; (focus (intro w hSw; (try dsimp only at hSw); go_simp; try with_reducible rfl)); try simp only [Act.put, zl, z0, z1]
  refine tW ?_ 5 rfl (by kernel_rfl) (fun _ _ _ h => h) (by rfl) (by assumption) ?_ ?_; rotate_left; (focus (intro w hSw; (try dsimp only at hSw); go_simp; try with_reducible rfl)); try simp only [Act.put, zl, z0, z1]
  refine tW ?_ 6 rfl (by kernel_rfl) (fun _ _ _ h => h) (by rfl) (by assumption) ?_ ?_; rotate_left; (focus (intro w hSw; (try dsimp only at hSw); go_simp; try with_reducible rfl)); try simp only [Act.put, zl, z0, z1]
  refine tW ?_ 7 rfl (by kernel_rfl) (fun _ _ _ h => h) (by rfl) (by assumption) ?_ ?_; rotate_left; (focus (intro w hSw; (try dsimp only at hSw); go_simp; try with_reducible rfl)); try simp only [Act.put, zl, z0, z1]
  refine tW ?_ 8 rfl (by kernel_rfl) (fun _ _ _ h => h) (by rfl) (by assumption) ?_ ?_; rotate_left; (focus (intro w hSw; (try dsimp only at hSw); go_simp; try with_reducible rfl)); try simp only [Act.put, zl, z0, z1]
  refine tW ?_ 10 rfl (by kernel_rfl) (fun _ _ _ h => h) (by rfl) (by assumption) ?_ ?_; rotate_left; (focus (intro w hSw; (try dsimp only at hSw); go_simp; try with_reducible rfl)); try simp only [Act.put, zl, z0, z1]
  refine tW ?_ 12 rfl (by kernel_rfl) (fun _ _ _ h => h) (by rfl) (by assumption) ?_ ?_; rotate_left; (focus (intro w hSw; (try dsimp only at hSw); go_simp; try with_reducible rfl)); try simp only [Act.put, zl, z0, z1]
  refine tW ?_ 13 rfl (by kernel_rfl) (fun _ _ _ h => h) (by rfl) (by assumption) ?_ ?_; rotate_left; (focus (intro w hSw; (try dsimp only at hSw); go_simp; try with_reducible rfl)); try simp only [Act.put, zl, z0, z1]
  refine tW ?_ 14 rfl (by kernel_rfl) (fun _ _ _ h => h) (by rfl) (by assumption) ?_ ?_; rotate_left; (focus (intro w hSw; (try dsimp only at hSw); go_simp; try with_reducible rfl)); try simp only [Act.put, zl, z0, z1]
  refine tW ?_ 15 rfl (by kernel_rfl) (fun _ _ _ h => h) (by rfl) (by assumption) ?_ ?_; rotate_left; (focus (intro w hSw; (try dsimp only at hSw); go_simp; try with_reducible rfl)); try simp only [Act.put, zl, z0, z1]
  refine tW ?_ 16 rfl (by kernel_rfl) (fun _ _ _ h => h) (by rfl) (by assumption) ?_ ?_; rotate_left; (focus (intro w hSw; (try dsimp only at hSw); go_simp; try with_reducible rfl)); try simp only [Act.put, zl, z0, z1]
  refine tW ?_ 17 rfl (by kernel_rfl) (fun _ _ _ h => h) (by rfl) (by assumption) ?_ ?_; rotate_left; (focus (intro w hSw; (try dsimp only at hSw); go_simp; try with_reducible rfl)); try simp only [Act.put, zl, z0, z1]
  refine tW ?_ 18 rfl (by kernel_rfl) (fun _ _ _ h => h) (by rfl) (by assumption) ?_ ?_; rotate_left; (focus (intro w hSw; (try dsimp only at hSw); go_simp; try with_reducible rfl)); try simp only [Act.put, zl, z0, z1]
  refine tW ?_ 19 rfl (by kernel_rfl) (fun _ _ _ h => h) (by rfl) (by assumption) ?_ ?_; rotate_left; (focus (intro w hSw; (try dsimp only at hSw); go_simp; try with_reducible rfl)); try simp only [Act.put, zl, z0, z1]
  refine tW ?_ 20 rfl (by kernel_rfl) (fun _ _ _ h => h) (by rfl) (by assumption) ?_ ?_; rotate_left; (focus (intro w hSw; (try dsimp only at hSw); go_simp; try with_reducible rfl)); try simp only [Act.put, zl, z0, z1]
  refine tW ?_ 21 rfl (by kernel_rfl) (fun _ _ _ h => h) (by rfl) (by assumption) ?_ ?_; rotate_left; (focus (intro w hSw; (try dsimp only at hSw); go_simp; try with_reducible rfl)); try simp only [Act.put, zl, z0, z1]
  refine tW ?_ 22 rfl (by kernel_rfl) (fun _ _ _ h => h) (by rfl) (by assumption) ?_ ?_; rotate_left; (focus (intro w hSw; (try dsimp only at hSw); go_simp; try with_reducible rfl)); try simp only [Act.put, zl, z0, z1]
  refine wpAnyH_ready (rs := [4]) (by kernel_rfl) (by simp) ?_; refine consL 4 rfl (fun K hK => ?_) AllReadyH.nil
  (go_simp; go_at_call 46; refine (clone_any mA s.main.length mc s.main _ rfl (owns_RdI (HL.out.below' hD0.1).main rfl) (own_nil HL.out.main) (by have := HML.out; omega)).mono ?_; rintro e w91 ⟨A1, c1, rfl, ho9, hb9⟩; have hSn := hSof _ (zbT hD0.1 hb9 hD0.1.size); have HO1 := hide (owns_mono ho9 hD0.1.size); have HQ1 := hide ((hb9.block q (blk_lt HQ0.out)).trans HQ0.out); clear ho9 hb9; (try dsimp only at hSn))
  refine hK.out _ _ ?_ (fun hD1 => ?_)
  · (try dsimp only); first | assumption | exact hSof _ (zbD HB0.out)
  clear hK K hD0; try simp only [Act.put, zl, z0, z1]
  refine wpAnyH_ready (rs := [9]) (by kernel_rfl) (by simp) ?_; refine consL 9 rfl (fun K hK => ?_) AllReadyH.nil
  (go_simp; go_at_call 46; refine (clone_any cA s.cards.length cc s.cards _ rfl (owns_RdI (HL.out.below' hD1.1).cards rfl) (own_nil HL.out.cards) (by have := HCL.out; omega)).mono ?_; rintro e w92 ⟨A2, c2, rfl, ho9, hb9⟩; have hSn := hSof _ (zbT hD1.1 hb9 hD1.1.size); have HO2 := hide (owns_mono ho9 hD1.1.size); have HQ2 := hide ((hb9.block q (blk_lt HQ1.out)).trans HQ1.out); have HO1' := hide (owns_below HO1.out hb9); clear HO1; have HO1 := HO1'; clear HO1'; clear ho9 hb9; (try dsimp only at hSn))
  refine hK.out _ _ ?_ (fun hD2 => ?_)
  · (try dsimp only); first | assumption | exact hSof _ (zbD HB0.out)
  clear hK K hD1; try simp only [Act.put, zl, z0, z1]
  refine wpAnyH_ready (rs := [11]) (by kernel_rfl) (by simp) ?_; refine consL 11 rfl (fun K hK => ?_) AllReadyH.nil
  (go_simp; go_at_call 47; refine (alternates_any base L B n s _ _ _ (HL.out.below' hD2.1) OK.out HN.out (by have := HML.out; omega)).mono ?_; rintro e w93 ⟨A3, c3, rfl, ho9, hb9, hla9⟩; have HLA := hide hla9; clear hla9; have hSn := hSof _ (zbT hD2.1 hb9 hD2.1.size); have HO3 := hide (owns_mono ho9 hD2.1.size); have HQ3 := hide ((hb9.block q (blk_lt HQ2.out)).trans HQ2.out); have HO1' := hide (owns_below HO1.out hb9); have HO2' := hide (owns_below HO2.out hb9); clear ho9 hb9 HO1 HO2; (try dsimp only at hSn))
  refine hK.out _ _ ?_ (fun hD3 => ?_)
  · (try dsimp only); first | assumption | exact hSof _ (zbD HB0.out)
  clear hK K hD2; try simp only [Act.put, zl, z0, z1]
  refine tW ?_ 23 rfl (by kernel_rfl) (fun _ _ _ h => h) (by rfl) (by assumption) ?_ ?_; rotate_left; (focus (intro w hSw; (try dsimp only at hSw); go_simp; try with_reducible rfl)); try simp only [Act.put, zl, z0, z1]
  refine wpAnyH_ready (rs := [24]) (by kernel_rfl) (by simp) ?_; refine consL 24 rfl (fun K hK => ?_) AllReadyH.nil
  (refine step_row rfl 38 (.tmp 2) (.tmp 26) rfl _ _ rfl rfl 38 _ HQ3.out entRow rfl (by simp [Value.oneCell']) ?_; refine cap_row2 HQ3.out (fun W9 hqr hgr hbr => ?_); have hSn := hSof _ (hbr _ hD3.1 HQL.out); have H1R := hide (HO1'.out.kept hgr (.inr (row_ne HO1'.out HQ3.out (by decide)))); have H2R := hide (HO2'.out.kept hgr (.inr (row_ne HO2'.out HQ3.out (by decide)))); have H3R := hide (HO3.out.kept hgr (.inr (row_ne HO3.out HQ3.out (by decide)))); have HQR := hide hqr; clear hqr hgr hbr HO1' HO2' HO3 HQ3; (try dsimp only at hSn))
  refine hK.out _ _ ?_ (fun hD4 => ?_)
  · (try dsimp only); first | assumption | exact hSof _ (zbD HB0.out)
  clear hK K hD3; try simp only [Act.put, zl, z0, z1]
  refine wpAnyH_done (by kernel_rfl) ?_ _
  (try dsimp only [Act.put, List.getElem_toArray, List.getElem_cons_succ, List.getElem_cons_zero])
  (try simp only [zl, z0, z1])
  have HB9 := hide hSn.1
  clear hSn hS hSof
  have hw : IntKind.i64.wrap (s.f.places - (s.main.length : Int)) = s.f.places - (s.main.length : Int) := IntWalk.i64_in _ (by omega)
  rw [hw] at HQR
  clear hw
  have r0 : W9.cell? ⟨q, 0, none⟩ = some (.slice A1 s.main.length c1) := (blk_cell HQR.out 0).trans rfl
  have r1 : W9.cell? ⟨q, 1, none⟩ = some (.slice A2 s.cards.length c2) := (blk_cell HQR.out 1).trans rfl
  have r2 : W9.cell? ⟨q, 2, none⟩ = some (.slice A3 s.alts.length c3) := (blk_cell HQR.out 2).trans rfl
  have r3 : W9.cell? ⟨q, 3, none⟩ = some (.int .i64 (s.f.places - (s.main.length : Int))) := (blk_cell HQR.out 3).trans rfl
  go_wp2_with fail
  exact bodyPost_ret (v := .agg #[.slice A1 s.main.length c1, .slice A2 s.cards.length c2, .slice A3 s.alts.length c3, .int .i64 (s.f.places - (s.main.length : Int))]) (by simp [results, Tryz.results31, go_sem, r0, r1, r2, r3]) rfl ⟨A1, c1, A2, c2, A3, c3, rfl, H1R.out, H2R.out, H3R.out, HB9.out, HLA.out⟩

end Go.Proofs.YtobjahlmjcnfoaaGreat

namespace Go.Proofs.YtobjahlmjcnfoaaGreat
open Go.RowKit Go.Sort
attribute [local go_sem ↓] Go.wp_at_zero Go.wp_at_succ

namespace E
theorem idx_le (xs : List Int) (y : Int) : -1 ≤ idx xs y ∧ idx xs y ≤ (xs.length : Int) := by
  unfold idx
  split
  · rename_i i h
    rw [List.findIdx?_eq_some_iff_getElem] at h
    obtain ⟨h1, _⟩ := h
    omega
  · omega
def part (s : St) : Nat → List Int
  | 0 => s.main
  | 1 => s.cards
  | _ => s.alts
theorem where_hit {s : St} {y : Int} : ∀ {k : Nat}, k < 3 → (∀ j, j < k → idx (part s j) y < 0) → 0 ≤ idx (part s k) y → s.where_ y = ((k : Int) + 1, idx (part s k) y + 1)
  | 0, _, _, h => by
    unfold St.where_
    rw [if_pos (show 0 ≤ idx s.main y from h)]
    rfl
  | 1, _, hj, h => by
    unfold St.where_
    have h0 : idx s.main y < 0 := hj 0 (by omega)
    rw [if_neg (by omega), if_pos (show 0 ≤ idx s.cards y from h)]
    rfl
  | 2, _, hj, h => by
    unfold St.where_
    have h0 : idx s.main y < 0 := hj 0 (by omega)
    have h1 : idx s.cards y < 0 := hj 1 (by omega)
    rw [if_neg (by omega), if_neg (by omega), if_pos (show 0 ≤ idx s.alts y from h)]
    rfl
  | k + 3, hk, _, _ => by omega
theorem where_none {s : St} {y : Int} (hj : ∀ j, j < 3 → idx (part s j) y < 0) : s.where_ y = (0, 0) := by
  have h0 : idx s.main y < 0 := hj 0 (by omega)
  have h1 : idx s.cards y < 0 := hj 1 (by omega)
  have h2 : idx s.alts y < 0 := hj 2 (by omega)
  unfold St.where_
  rw [if_neg (by omega), if_neg (by omega), if_neg (by omega)]
end E

set_option maxHeartbeats 6400000 in
set_option maxRecDepth 100000 in
theorem stand_any (base L B n : Nat) (s : E.St) (mv cv : Value) (y : Int) (w : World) (h : LAt w base L B n s mv cv) (ok : E.StOk s) (hn : n ≤ 1000) (hml : s.main.length ≤ 900) (hcl : s.cards.length ≤ 900) (hp0 : 0 ≤ s.f.places) (hp1 : s.f.places ≤ 900) :
    Calls Tryz.prog 45 #[.pointer (some ⟨L, 0, none⟩), .int .i64 y] w fun e w' => e = .returned (.tuple #[.int .i64 (s.where_ y).1, .int .i64 (s.where_ y).2]) ∧ Below w.heap.size w w' := by
  have HC := hide (entries_any base L B n s mv cv w h ok hn hml hcl hp0 hp1)
  have HML := hide hml
  have HCL := hide hcl
  clear h ok hn hml hcl hp0 hp1
  go_enter Tryz.func45, Tryz.ntmps45
  go_wp2_with (go_at_call 31; refine HC.out.mono ?_; rintro e w2 ⟨A1, c1, A2, c2, A3, c3, rfl, ho1, ho2, ho3, hb2, hal⟩; have HAL := hide hal; clear hal; have HO1 := hide ho1; have HO2 := hide ho2; have HO3 := hide ho3; have HB2 := hide hb2; clear ho1 ho2 ho3 hb2)
  obtain ⟨W, hW⟩ : ∃ W, (w2.alloc (.cells #[.slice A1 s.main.length c1, .slice A2 s.cards.length c2, .slice A3 s.alts.length c3, .int .i64 (s.f.places - (s.main.length : Int))] 38)).alloc (.cells #[.slice A1 s.main.length c1, .slice A2 s.cards.length c2, .slice A3 s.alts.length c3] 36) = W := ⟨_, rfl⟩
  have HBW := hide (show Below w2.heap.size w2 W by rw [← hW]; (repeat' first | exact zbR _ _ | assumption | refine zbD ?_ | refine zbA ?_ ?_ _ | refine zbS ?_ ?_ _ | refine zbT ?_ (by assumption) ?_ | (simp; done) | (simp; omega) | omega))
  have HR := hide (show W.heap[w2.heap.size + 1]? = some (.cells #[.slice A1 s.main.length c1, .slice A2 s.cards.length c2, .slice A3 s.alts.length c3] 36 (0, 0)) by rw [← hW]; exact (congrArg _ (by simp)).trans (World.alloc_heap_new _ _))
  have HO1' := hide (owns_below HO1.out HBW.out)
  have HO2' := hide (owns_below HO2.out HBW.out)
  have HO3' := hide (owns_below HO3.out HBW.out)
  have HBB := hide (zbT HB2.out HBW.out HB2.out.size)
  rw [hW]
  clear hW HO1 HO2 HO3 HB2 HBW HC
  obtain ⟨r, hr⟩ : ∃ r, w2.heap.size + 1 = r := ⟨_, rfl⟩
  rw [hr] at HR ⊢
  clear hr
  go_loop [20] (fun i => ∃ k : Nat, k ≤ 3 ∧ i = .int .i64 k ∧ Hid (∀ j, j < k → E.idx (E.part s j) y < 0)) (fun i => 3 - (intOf i).toNat)
  case atStart => exact ⟨0, by omega, rfl, hide (fun j hj => by omega)⟩
  case round =>
    obtain ⟨k, hk, rfl, HZ⟩ := hrel
    by_cases hlt : k < 3
    · obtain ⟨A, m, c, hcell, hrd, hm⟩ : ∃ A m c, W.cell? ⟨r, k, none⟩ = some (.slice A m c) ∧ RdI W W.heap.size A (E.part s k) ∧ (E.part s k).length = m := by
        match k, hlt with
        | 0, _ => exact ⟨A1, _, c1, (blk_cell HR.out 0).trans rfl, owns_RdI HO1'.out rfl, rfl⟩
        | 1, _ => exact ⟨A2, _, c2, (blk_cell HR.out 1).trans rfl, owns_RdI HO2'.out rfl, rfl⟩
        | 2, _ => exact ⟨A3, _, c3, (blk_cell HR.out 2).trans rfl, owns_RdI HO3'.out rfl, rfl⟩
      have hm1 : m ≤ 1000 := by
        rw [← hm]
        match k, hlt with
        | 0, _ => exact Nat.le_trans HML.out (by omega)
        | 1, _ => exact Nat.le_trans HCL.out (by omega)
        | 2, _ => exact HAL.out
      obtain ⟨q, hq⟩ : ∃ q, E.idx (E.part s k) y = q := ⟨_, rfl⟩
      have hq1 := (E.idx_le (E.part s k) y)
      have HIX := hide (index_any A m c (E.part s k) y W hm hrd (by omega))
      rw [hq, hm] at hq1
      rw [hq] at HIX
      have HQ := hide hq
      obtain ⟨hq1, hq2⟩ := hq1
      have hq3 : q ≤ 1000 := by omega
      clear hq hrd hm hq2
      have hlt' : (k : Int) < 3 := by omega
      have hk0 : (0 : Int) ≤ (k : Int) := by omega
      have hkn : r < W.heap.size := blk_lt HR.out
      by_cases h0 : 0 ≤ q
      · go_wp2_with (go_at_call 60; refine HIX.out.mono ?_; rintro e w' ⟨rfl, rfl⟩)
        have hh := E.where_hit hlt HZ.out (by rw [HQ.out]; exact h0)
        rw [HQ.out] at hh
        refine bodyPost_ret (v := .tuple #[.int .i64 ((k : Int) + 1), .int .i64 (q + 1)]) ?_ rfl ⟨by rw [hh], HBB.out⟩
        have e1 : IntKind.i64.wrap (1 + (k : Int)) = (k : Int) + 1 := (IntWalk.i64_in _ (by omega)).trans (by omega)
        have e2 : IntKind.i64.wrap (q + 1) = q + 1 := IntWalk.i64_in _ (by omega)
        simp [results, Tryz.results45, go_sem, e1, e2]
        omega
      · have h1 : q < 0 := by omega
        clear h0
        go_wp2_with (go_at_call 60; refine HIX.out.mono ?_; rintro e w' ⟨rfl, rfl⟩)
        go_round
        case rel => exact ⟨k + 1, by omega, by go_num, hide (fun j hj => by
          rcases Nat.lt_or_ge j k with h | h
          · exact HZ.out j h
          · have : j = k := by omega
            rw [this, HQ.out]; exact h1)⟩
        case measure => simp [intOf]; omega
    · have hkn : k = 3 := by omega
      subst hkn
      go_wp2_with fail
      exact bodyPost_ret (v := .tuple #[.int .i64 0, .int .i64 0]) (by simp [results, Tryz.results45, go_sem]) rfl ⟨by rw [E.where_none HZ.out], HBB.out⟩

namespace E
theorem quitter_eq (s : St) (k : Int) : s.quitter k = s.main.getD (if 0 ≤ idxP (fun o => (s.pl o).grd == (s.pl k).grd) s.main then (idxP (fun o => (s.pl o).grd == (s.pl k).grd) s.main).toNat else 0) 0 := by
  unfold St.quitter idxP
  cases s.main.findIdx? (fun o => (s.pl o).grd == (s.pl k).grd) with
  | none => rfl
  | some i =>
    have : (0 : Int) ≤ (i : Int) := by omega
    simp [this]
theorem idxP_le (p : Int → Bool) (xs : List Int) (h : xs ≠ []) : -1 ≤ idxP p xs ∧ idxP p xs < (xs.length : Int) := by
  have hl : 0 < xs.length := List.length_pos_iff.2 h
  unfold idxP
  split
  · rename_i i h
    rw [List.findIdx?_eq_some_iff_getElem] at h
    obtain ⟨h1, _⟩ := h
    omega
  · omega
end E

set_option maxHeartbeats 6400000 in
set_option maxRecDepth 100000 in
theorem quitter_any (base L B n : Nat) (s : E.St) (mv cv : Value) (y : Int) (w : World) (h : LAt w base L B n s mv cv) (hml : s.main.length ≤ 900) (hne : s.main ≠ []) (h0 : 0 ≤ y) (h1 : y ≤ 999) (hr : ∀ k ∈ s.main, 0 ≤ k ∧ k ≤ 999) :
    Calls Tryz.prog 42 #[.pointer (some ⟨L, 0, none⟩), .int .i64 y] w fun e w' => e = .returned (.int .i64 (s.quitter y)) ∧ Below w.heap.size w w' := by
  have HL := hide h
  have HML := hide hml
  have HNE := hide hne
  have HRR := hide hr
  obtain ⟨x, hx⟩ : ∃ x, s.pl y = x := ⟨_, rfl⟩
  have HX := hide hx
  obtain ⟨mA, mc, hmv⟩ := own_form h.main
  subst hmv
  clear h hml hne hr
  go_enter Tryz.func42, Tryz.ntmps42
  have hlk : ∀ V, V = w.alloc (.cells #[.pointer (some ⟨L, 0, none⟩)] 47) → (Instr.lookup 80 (.map (some B)) (.int .i64 y) false).run Tryz.prog V = .ok (.agg #[.bool x.ent, .bool x.grd, .bool x.card, .bool x.quit, .bool x.sgn, .int .i64 x.rank, .int .i64 x.turn]) V := by
    intro V hV
    have hb : Below w.heap.size w V := by rw [hV]; (repeat' first | exact zbR _ _ | assumption | refine zbD ?_ | refine zbA ?_ ?_ _ | refine zbS ?_ ?_ _ | refine zbT ?_ (by assumption) ?_ | (simp; done) | (simp; omega) | omega)
    have := (HL.out.below hb).map.look Tryz.underlying80 zeroP h0 h1
    rw [hx] at this
    exact this
  have hlk2 := hlk _ rfl
  have hfl := fldGrd x.ent x.grd x.card x.quit x.sgn x.rank x.turn (w.alloc (.cells #[.pointer (some ⟨L, 0, none⟩)] 47))
  have k1 : w.cell? ⟨L, 5, none⟩ = some (.map (some B)) := (HL.out.c 5).trans rfl
  have k2 : w.cell? ⟨L, 7, none⟩ = some (.slice mA s.main.length mc) := (HL.out.c 7).trans rfl
  have kl : L < w.heap.size := HL.out.lt
  clear hlk hx
  obtain ⟨W1, hW1⟩ : ∃ W1, (w.alloc (.cells #[.pointer (some ⟨L, 0, none⟩)] 47)).alloc (.cells #[.bool x.grd] 4) = W1 := ⟨_, rfl⟩
  have HW1 := hide hW1
  have hB1 : Below w.heap.size w W1 := by rw [← hW1]; (repeat' first | exact zbR _ _ | assumption | refine zbD ?_ | refine zbA ?_ ?_ _ | refine zbS ?_ ?_ _ | refine zbT ?_ (by assumption) ?_ | (simp; done) | (simp; omega) | omega)
  have HB1 := hide hB1
  have HP := hide (show W1.heap[w.heap.size]? = some (.cells #[.pointer (some ⟨L, 0, none⟩)] 47 (0, 0)) by rw [← hW1]; exact (Below.heap_alloc _ _ _ (by first | (simp; done) | (simp; omega) | omega)).trans (World.alloc_heap_new _ _))
  have HQ := hide (show W1.heap[w.heap.size + 1]? = some (.cells #[.bool x.grd] 4 (0, 0)) by rw [← hW1]; exact (congrArg _ (by simp)).trans (World.alloc_heap_new _ _))
  have HL1 := hide (HL.out.below hB1)
  have eg : ∀ args w, (callFunc 66 args).run Tryz.prog w = .ok (.enter 66 args) w := enters_of Tryz.func66 (by kernel_rfl) rfl
  have HIF := indexFunc_any 66 #[.pointer (some ⟨w.heap.size, 0, none⟩), .pointer (some ⟨w.heap.size + 1, 0, none⟩)] eg (fun o => (s.pl o).grd == x.grd) (fun V => W1.grownBy V none) s.main (fun V z hz hV => clQuit_any w.heap.size (w.heap.size + 1) L B n s.pl (fun k => decide (k ∈ s.known)) x.grd z (HRR.out z hz).1 (HRR.out z hz).2 V
      ((gr_cell hV (blk_lt HQ.out) (by simp) 0).trans ((blk_cell HQ.out 0).trans rfl)) ((gr_cell hV (blk_lt HP.out) (by simp) 0).trans ((blk_cell HP.out 0).trans rfl)) ((HL1.out.kept hV).c 5 |>.trans rfl) (Nat.lt_of_lt_of_le (blk_lt HQ.out) hV.size) (Nat.lt_of_lt_of_le (blk_lt HP.out) hV.size) (HL1.out.kept hV).lt (HL1.out.kept hV).map)
    (fun V V' h h' => gr_trans h h') mA s.main.length mc W1 rfl (owns_RdI HL1.out.main rfl) (by have := HML.out; omega) (World.grownBy.refl _ _)
  have hqe := E.quitter_eq s y
  rw [HX.out] at hqe
  have hle := E.idxP_le (fun o => (s.pl o).grd == x.grd) s.main HNE.out
  generalize E.idxP (fun o => (s.pl o).grd == x.grd) s.main = r at HIF hqe hle
  have HIFF := hide HIF
  have HQE := hide hqe
  obtain ⟨hr1, hr2⟩ := hle
  have hml : s.main.length ≤ 900 := HML.out
  clear eg HIF hqe hB1 hW1
  by_cases hr0 : 0 ≤ r
  · obtain ⟨i, rfl⟩ : ∃ i : Nat, r = (i : Int) := ⟨r.toNat, by omega⟩
    obtain ⟨z, hz⟩ : ∃ z, s.main[i]? = some z := ⟨_, List.getElem?_eq_getElem (by omega)⟩
    have hzq : s.quitter y = z := by rw [HQE.out, if_pos hr0, Int.toNat_natCast, List.getD_eq_getElem?_getD, hz]; rfl
    rw [hzq]
    have HZ := hide hz
    clear hz hzq hr1 HQE
    go_wp2_with (go_at_call 65; rw [HW1.out]; refine HIFF.out.mono ?_; rintro e w3 ⟨rfl, hg3⟩; have HG3 := hide hg3; clear hg3; obtain ⟨b, o, hA, hbB, c0⟩ := (owns_RdI (HL1.out.kept HG3.out).main rfl) i z HZ.out; subst hA; have k3 : w3.cell? ⟨w.heap.size, 0, none⟩ = some (.pointer (some ⟨L, 0, none⟩)) := (gr_cell HG3.out (blk_lt HP.out) (by simp) 0).trans ((blk_cell HP.out 0).trans rfl); have k4 : w3.cell? ⟨L, 7, none⟩ = some (.slice (some ⟨b, o, none⟩) s.main.length mc) := ((HL1.out.kept HG3.out).c 7).trans rfl)
    go_ret
    exact ⟨rfl, HB1.out.trans ((bel_of HG3.out).mono HB1.out.size)⟩
  · have hr3 : r < 0 := by omega
    obtain ⟨z, hz⟩ : ∃ z, s.main[0]? = some z := ⟨_, List.getElem?_eq_getElem (List.length_pos_iff.2 HNE.out)⟩
    have hzq : s.quitter y = z := by rw [HQE.out, if_neg hr0, List.getD_eq_getElem?_getD, hz]; rfl
    rw [hzq]
    have HZ := hide hz
    have hl0 : (0 : Int) < (s.main.length : Int) := by have := List.length_pos_iff.2 HNE.out; omega
    have hmx : max r 0 = 0 := by omega
    clear hz hzq hr1 HQE hr0
    go_wp2_with (go_at_call 65; rw [HW1.out]; refine HIFF.out.mono ?_; rintro e w3 ⟨rfl, hg3⟩; have HG3 := hide hg3; clear hg3; obtain ⟨b, o, hA, hbB, c0⟩ := (owns_RdI (HL1.out.kept HG3.out).main rfl) 0 z HZ.out; subst hA; rw [Nat.add_zero] at c0; have k3 : w3.cell? ⟨w.heap.size, 0, none⟩ = some (.pointer (some ⟨L, 0, none⟩)) := (gr_cell HG3.out (blk_lt HP.out) (by simp) 0).trans ((blk_cell HP.out 0).trans rfl); have k4 : w3.cell? ⟨L, 7, none⟩ = some (.slice (some ⟨b, o, none⟩) s.main.length mc) := ((HL1.out.kept HG3.out).c 7).trans rfl)
    go_ret
    exact ⟨rfl, HB1.out.trans ((bel_of HG3.out).mono HB1.out.size)⟩

end Go.Proofs.YtobjahlmjcnfoaaGreat

namespace Go.Proofs.YtobjahlmjcnfoaaGreat
open Go.RowKit Go.Sort
attribute [local go_sem ↓] Go.wp_at_zero Go.wp_at_succ

def RdN (w : World) (B : Nat) (A : Option Addr) (xs : List E.Nt) : Prop :=
  ∀ (k : Nat) (x : E.Nt), xs[k]? = some x → ∃ b o : Nat, A = some ⟨b, o, none⟩ ∧ b < B ∧ w.cell? ⟨b, o + k * 5, none⟩ = some (.int .i64 x.id) ∧ w.cell? ⟨b, o + k * 5 + 1, none⟩ = some (.int .i64 x.hour) ∧ w.cell? ⟨b, o + k * 5 + 2, none⟩ = some (.int .i64 x.kind) ∧ w.cell? ⟨b, o + k * 5 + 3, none⟩ = some (.int .i64 x.player) ∧ w.cell? ⟨b, o + k * 5 + 4, none⟩ = some (.int .i64 x.rank)
theorem RdN.below {w w' : World} {B : Nat} {A : Option Addr} {xs : List E.Nt} (h : RdN w B A xs) (hb : Below B w w') : RdN w' B A xs := fun k p hk => by
  obtain ⟨b, o, e, hB, c0, c1, c2, c3, c4⟩ := h k p hk
  exact ⟨b, o, e, hB, (hb.cell (p := ⟨b, o + k * 5, none⟩) hB).trans c0, (hb.cell (p := ⟨b, o + k * 5 + 1, none⟩) hB).trans c1, (hb.cell (p := ⟨b, o + k * 5 + 2, none⟩) hB).trans c2, (hb.cell (p := ⟨b, o + k * 5 + 3, none⟩) hB).trans c3, (hb.cell (p := ⟨b, o + k * 5 + 4, none⟩) hB).trans c4⟩
theorem RdN.mono {w : World} {B B' : Nat} {A : Option Addr} {xs : List E.Nt} (h : RdN w B A xs) (hB : B ≤ B') : RdN w B' A xs := fun k p hk => by
  obtain ⟨b, o, e, h1, r⟩ := h k p hk
  exact ⟨b, o, e, by omega, r⟩
theorem RdN.nil (w : World) (B : Nat) (A : Option Addr) : RdN w B A [] := fun k p h => by simp at h

theorem LAt.mono {w : World} {base base' L B n : Nat} {s : E.St} {mv cv : Value} (h : LAt w base L B n s mv cv) (hb : base' ≤ base) : LAt w base' L B n s mv cv :=
  ⟨Nat.le_trans hb h.lowL, Nat.le_trans hb h.lowB, h.blk, h.map, owns_mono h.main hb, owns_mono h.cards hb, h.apart⟩

structure LOk (w : World) (base L B k : Nat) (s : E.St) (mv cv : Value) : Prop where
  at_ : ∃ n, n ≤ k ∧ LAt w base L B n s mv cv
  ok : E.StOk s
  bd : E.Bd k s
theorem LOk.below {w w' : World} {base L B k : Nat} {s : E.St} {mv cv : Value} (h : LOk w base L B k s mv cv) (hb : Below w.heap.size w w') : LOk w' base L B k s mv cv := by
  obtain ⟨⟨n, hn, h1⟩, h2, h3⟩ := h
  exact ⟨⟨n, hn, h1.below hb⟩, h2, h3⟩
theorem LOk.c7 {w : World} {base L B k : Nat} {s : E.St} {mv cv : Value} (h : LOk w base L B k s mv cv) : w.cell? ⟨L, 7, none⟩ = some mv := by
  obtain ⟨⟨n, hn, h1⟩, h2, h3⟩ := h
  exact (h1.c 7).trans rfl
theorem take_ok (base L B k : Nat) (s : E.St) (mv cv : Value) (x : E.Nt) (w : World) (h : LOk w base L B k s mv cv) (hk : k ≤ 400) (hbase : base ≤ w.heap.size) (hx0 : 0 ≤ x.player) (hx1 : x.player ≤ 999) :
    Calls Tryz.prog 35 #[.pointer (some ⟨L, 0, none⟩), .agg #[.int .i64 x.id, .int .i64 x.hour, .int .i64 x.kind, .int .i64 x.player, .int .i64 x.rank]] w fun e w' => e = .returned (.tuple #[]) ∧ (∃ mv' cv', LOk w' base L B (k + 1) (s.take x) mv' cv') ∧ Below base w w' ∧ (∀ b, b < w.heap.size → b ≠ L → b ≠ B → some b ≠ mv.ownBlock → some b ≠ cv.ownBlock → w'.heap[b]? = w.heap[b]?) := by
  obtain ⟨⟨n, hn, h1⟩, h2, h3⟩ := h
  refine (take_any base L B n k s mv cv x w h1 h2 h3 hk hbase (by omega) hx0 hx1).mono ?_
  rintro e w' ⟨mv', cv', rfl, hl, hb, hkp⟩
  exact ⟨rfl, ⟨mv', cv', ⟨n + 1, by omega, hl⟩, (E.take_ok h2 x ⟨hx0, hx1⟩ h3.turns0).1, E.take_bd h3 x⟩, hb, hkp⟩

namespace E
theorem needs_hit {h k : Int} {n : Nat} {q : Int} {s : St} (hc : s.main.contains k = true) : St.needs h k (n + 1) q s = some q := by
  rw [St.needs, if_pos hc]
theorem needs_empty {h k : Int} {n : Nat} {q : Int} {s : St} (hc : s.main.contains k = false) (he : s.main = []) : St.needs h k (n + 1) q s = none := by
  rw [St.needs, if_neg (by rw [hc]; simp), if_pos he]
theorem needs_step {h k : Int} {n : Nat} {q : Int} {s : St} (hc : s.main.contains k = false) (he : s.main ≠ []) : St.needs h k (n + 1) q s = St.needs h k n (q + 1) (s.take ⟨0, h, 4, s.quitter k, 0⟩) := by
  rw [St.needs, if_neg (by rw [hc]; simp), if_neg he]
theorem quitter_mem (s : St) (k : Int) (h : s.main ≠ []) : s.quitter k ∈ s.main := by
  have hl := List.length_pos_iff.2 h
  have hle := idxP_le (fun o => (s.pl o).grd == (s.pl k).grd) s.main h
  rw [quitter_eq]
  split
  · rw [List.getD_eq_getElem?_getD, List.getElem?_eq_getElem (by omega)]
    exact List.getElem_mem _
  · rw [List.getD_eq_getElem?_getD, List.getElem?_eq_getElem hl]
    exact List.getElem_mem _
end E

def NeedsVal (r : Option Int) : Value := match r with | some q => .tuple #[.int .i64 q, .bool true] | none => .tuple #[.int .i64 0, .bool false]

set_option maxHeartbeats 6400000 in
set_option maxRecDepth 100000 in
theorem needs_any (base L B k0 : Nat) (s0 : E.St) (mv cv : Value) (h y : Int) (w : World) (hl : LOk w base L B k0 s0 mv cv) (hk0 : k0 ≤ 200) (hbase : base ≤ w.heap.size) (h0 : 0 ≤ y) (h1 : y ≤ 999) :
    Calls Tryz.prog 22 #[.pointer (some ⟨L, 0, none⟩), .int .i64 h, .int .i64 y] w fun e w' => e = .returned (NeedsVal (E.St.needs h y 61 0 s0)) ∧ Below base w w' := by
  have HL := hide hl
  have HK0 := hide hk0
  have HBS := hide hbase
  have H0 := hide h0
  have H1 := hide h1
  clear hl hk0 hbase h0 h1
  go_enter Tryz.func22, Tryz.ntmps22
  go_wp2_with fail
  go_loopw [9] (fun i wr => ∃ (q : Nat) (s : E.St) (mv cv : Value), q ≤ 61 ∧ i = .int .i64 q ∧ Hid (LOk wr base L B (k0 + q) s mv cv) ∧ Hid (E.St.needs h y (61 - q) q s = E.St.needs h y 61 0 s0) ∧ Hid (Below base w wr)) (fun i _ => 61 - (intOf i).toNat)
  case atStart => exact ⟨0, s0, mv, cv, by omega, rfl, HL, hide rfl, hide (Below.refl _ _)⟩
  case round =>
    obtain ⟨q, s, mv, cv, hq, rfl, HLr, HE, HBr⟩ := hrel
    obtain ⟨⟨n, hn, hlat⟩, hok, hbd⟩ := HLr.out
    have HLT := hide hlat
    have HOK := hide hok
    have HBD := hide hbd
    obtain ⟨mA, mc, hmv⟩ := own_form hlat.main
    subst hmv
    have k1 : wr.cell? ⟨L, 7, none⟩ = some (.slice mA s.main.length mc) := (hlat.c 7).trans rfl
    have HML := hide (show s.main.length ≤ 900 by have := hbd.main; have := HK0.out; omega)
    clear hlat hok hbd hn
    by_cases hlt : q < 61
    · obtain ⟨m, hm⟩ : ∃ m, 61 - q = m + 1 := ⟨60 - q, by omega⟩
      rw [hm] at HE
      have HM := hide hm
      clear hm
      have hlt' : (q : Int) < 61 := by omega
      have hq0 : (0 : Int) ≤ (q : Int) := by omega
      have HCT := hide (contains_any mA s.main.length mc s.main y wr rfl (owns_RdI HLT.out.main rfl) (by have := HML.out; omega))
      obtain ⟨ct, hct⟩ : ∃ ct, s.main.contains y = ct := ⟨_, rfl⟩
      have HC := hide hct
      rw [hct] at HCT
      clear hct
      cases ct
      · by_cases hem : s.main = []
        · have HEM := hide hem
          have hl0 : ((s.main.length : Int) == 0) = true := by rw [hem]; rfl
          clear hem
          go_wp2_with (go_at_call 37; refine HCT.out.mono ?_; rintro e w' ⟨rfl, rfl⟩)
          have hv : E.St.needs h y 61 0 s0 = none := HE.out.symm.trans (E.needs_empty HC.out HEM.out)
          exact bodyPost_ret (v := .tuple #[.int .i64 0, .bool false]) (by simp [results, Tryz.results22, go_sem]) rfl ⟨by rw [hv]; rfl, HBr.out⟩
        · have HEM := hide hem
          have hl0 : ((s.main.length : Int) == 0) = false := by have := List.length_pos_iff.2 hem; simp; omega
          have HQ := hide (quitter_any base L B n s (.slice mA s.main.length mc) cv y wr HLT.out HML.out hem H0.out H1.out (fun k hk => HOK.out.range k (HOK.out.main k hk)))
          have hqm := E.quitter_mem s y hem
          obtain ⟨z, hz⟩ : ∃ z, s.quitter y = z := ⟨_, rfl⟩
          have hzr := HOK.out.range z (HOK.out.main z (hz ▸ hqm))
          rw [hz] at HQ
          have HZ := hide hz
          have HZR := hide hzr
          have HE2 := hide ((E.needs_step HC.out HEM.out).symm.trans HE.out)
          rw [HZ.out] at HE2
          clear hem hqm hz hzr
          go_wp2_with (first | (go_at_call 37; refine HCT.out.mono ?_; rintro e w' ⟨rfl, rfl⟩) | (go_at_call 42; refine HQ.out.mono ?_; rintro e w3 ⟨rfl, hb3⟩; have HB3 := hide hb3; clear hb3) | (go_at_call 35; refine (take_ok base L B (k0 + q) s _ cv ⟨0, h, 4, z, 0⟩ w3 (HLr.out.below HB3.out) (by have := HK0.out; omega) (Nat.le_trans (Nat.le_trans HBS.out HBr.out.size) HB3.out.size) HZR.out.1 HZR.out.2).mono ?_; rintro e w4 ⟨rfl, ⟨mv4, cv4, hl4⟩, hb4, -⟩; have HL4 := hide hl4; have HB4 := hide hb4; clear hl4 hb4))
          go_roundw
          case rel => exact ⟨q + 1, _, mv4, cv4, by omega, by go_num, HL4, hide (by have e1 : 61 - (q + 1) = m := by have := HM.out; omega
                                                                                    rw [e1]; have := HE2.out; push_cast; exact this), hide ((zbT HBr.out HB3.out (Nat.le_trans HBS.out HBr.out.size)).trans HB4.out)⟩
          case measure => simp [intOf]; omega
      · have hv : E.St.needs h y 61 0 s0 = some (q : Int) := HE.out.symm.trans (E.needs_hit HC.out)
        have HV := hide hv
        clear hv
        go_wp2_with (go_at_call 37; refine HCT.out.mono ?_; rintro e w' ⟨rfl, rfl⟩)
        exact bodyPost_ret (v := .tuple #[.int .i64 q, .bool true]) (by simp [results, Tryz.results22, go_sem]) rfl ⟨by rw [HV.out]; rfl, HBr.out⟩
    · have hkn : q = 61 := by omega
      subst hkn
      go_wp2_with fail
      exact bodyPost_ret (v := .tuple #[.int .i64 0, .bool false]) (by simp [results, Tryz.results22, go_sem]) rfl ⟨by rw [← HE.out]; rfl, HBr.out⟩

namespace E
def atL (f : Fd) (h : Int) (l : List Nt) : St := (l.filter (fun x => decide (x.hour ≤ h))).foldl St.take (St.new f)
theorem atL_app (f : Fd) (h : Int) (l : List Nt) (x : Nt) : atL f h (l ++ [x]) = if x.hour ≤ h then (atL f h l).take x else atL f h l := by
  unfold atL
  rw [List.filter_append, List.foldl_append]
  by_cases hx : x.hour ≤ h <;> simp [hx]
theorem new_ok (f : Fd) : StOk (St.new f) := ⟨List.nodup_nil, (fun k h => by cases h), fun _ _ => rfl, (fun k h => by cases h), (fun j h => by cases h), (fun k h => by cases h), (fun k h => by cases h)⟩
theorem new_bd {f : Fd} (h0 : 0 ≤ f.places) (h1 : f.places ≤ 32) : Bd 0 (St.new f) := ⟨by show f.places ≤ _; simp; exact h1, by simp [St.new], by simp [St.new], by simp [St.new], h0, by simp [St.new]⟩
end E
theorem LOk.mono_k {w : World} {base L B k k' : Nat} {s : E.St} {mv cv : Value} (h : LOk w base L B k s mv cv) (hk : k ≤ k') : LOk w base L B k' s mv cv := by
  obtain ⟨⟨n, hn, h1⟩, h2, h3⟩ := h
  have e1 := h3.places
  have e2 := h3.main
  have e3 := h3.cards
  have e4 := h3.turns
  exact ⟨⟨n, by omega, h1⟩, h2, ⟨by omega, by omega, by omega, by omega, h3.places0, h3.turns0⟩⟩

set_option maxHeartbeats 6400000 in
set_option maxRecDepth 100000 in
theorem at_any (f : E.Fd) (A : Option Addr) (n c : Nat) (l : List E.Nt) (hh : Int) (w : World) (hp0 : 0 ≤ f.places) (hp1 : f.places ≤ 32) (hn : l.length = n) (hr : RdN w w.heap.size A l) (hn1 : n ≤ 60) (hpl : ∀ x ∈ l, 0 ≤ x.player ∧ x.player ≤ 999) :
    Calls Tryz.prog 16 #[.agg #[.int .i64 f.places, .int .i64 f.wilds, .int .i64 f.guards, .int .i64 f.close, .int .i64 f.freeze, .slice A n c], .int .i64 hh] w fun e w' => ∃ L B mv cv, e = .returned (.pointer (some ⟨L, 0, none⟩)) ∧ LOk w' w.heap.size L B n (E.atL f hh l) mv cv ∧ Below w.heap.size w w' := by
  have HN := hide hn
  have HR := hide hr
  have HN1 := hide hn1
  have HP0 := hide hp0
  have HP1 := hide hp1
  have HPL := hide hpl
  clear hn hr hp0 hp1 hpl hn1
  go_enter Tryz.func16, Tryz.ntmps16
  obtain ⟨w1, hw1⟩ : ∃ w1, w.alloc (.cells #[.int .i64 f.places, .int .i64 f.wilds, .int .i64 f.guards, .int .i64 f.close, .int .i64 f.freeze, .slice A n c] 43) = w1 := ⟨_, rfl⟩
  have HB1 := hide (show Below w.heap.size w w1 by rw [← hw1]; (repeat' first | exact zbR _ _ | assumption | refine zbD ?_ | refine zbA ?_ ?_ _ | refine zbS ?_ ?_ _ | refine zbT ?_ (by assumption) ?_ | (simp; done) | (simp; omega) | omega))
  have HQ := hide (show w1.heap[w.heap.size]? = some (.cells #[.int .i64 f.places, .int .i64 f.wilds, .int .i64 f.guards, .int .i64 f.close, .int .i64 f.freeze, .slice A n c] 43 (0, 0)) by rw [← hw1]; exact World.alloc_heap_new _ _)
  have HW1 := hide hw1
  clear hw1
  go_wp2_with (go_at_call 34; rw [HW1.out]; refine (newList_any f _).mono ?_; rintro e w2 ⟨rfl, hl2, hb2⟩; have HL2 := hide hl2; have HB2 := hide hb2; clear hl2 hb2; have k2 : w2.cell? ⟨w.heap.size, 5, none⟩ = some (.slice A n c) := (blk_cell ((HB2.out.block _ (blk_lt HQ.out)).trans HQ.out) 5).trans rfl)
  obtain ⟨L, hL⟩ : ∃ L, w1.heap.size + 1 + 1 = L := ⟨_, rfl⟩
  rw [hL] at HL2 ⊢
  obtain ⟨B, hB⟩ : ∃ B, w1.heap.size + 1 = B := ⟨_, rfl⟩
  rw [hB] at HL2
  have HBL := hide hL
  have HS1 := hide (show w.heap.size ≤ w1.heap.size from HB1.out.size)
  have HLS := hide (show w1.heap.size ≤ L by omega)
  have HR2 := hide (((HR.out.below HB1.out).below (HB2.out.mono HB1.out.size)))
  clear k2 hL hB
  go_loopw [14] (fun i wr => ∃ (k : Nat) (mv cv : Value), k ≤ n ∧ i = .int .i64 k ∧ Hid (LOk wr w1.heap.size L B k (E.atL f hh (l.take k)) mv cv) ∧ Hid (Below w1.heap.size w2 wr)) (fun i _ => n - (intOf i).toNat)
  case atStart => exact ⟨0, _, _, by omega, rfl, hide (by rw [List.take_zero]; exact ⟨⟨0, by omega, HL2.out⟩, E.new_ok f, E.new_bd HP0.out HP1.out⟩), hide (Below.refl _ _)⟩
  case round =>
    obtain ⟨k, mv, cv, hk, rfl, HLr, HBr⟩ := hrel
    have hn1 := HN1.out
    by_cases hlt : k < n
    · obtain ⟨x, hx⟩ : ∃ q, l[k]? = some q := ⟨_, List.getElem?_eq_getElem (by have := HN.out; omega)⟩
      obtain ⟨b, o, hA, hbB, c0, c1, c2, c3, c4⟩ := (HR2.out.below (HBr.out.mono HS1.out)) k x hx
      subst hA
      have HPX := hide (HPL.out x (List.mem_of_getElem? hx))
      have htk : l.take (k + 1) = l.take k ++ [x] := by rw [List.take_add_one, hx]; rfl
      have HTK := hide htk
      have hlt' : (k : Int) < (n : Int) := by omega
      have hk0 : (0 : Int) ≤ (k : Int) := by omega
      have hbr : b < wr.heap.size := Nat.lt_of_lt_of_le hbB (Nat.le_trans HB1.out.size (Nat.le_trans HB2.out.size HBr.out.size))
      clear hx htk
      by_cases hh0 : x.hour ≤ hh
      · have HH0 := hide hh0
        go_wp2_with (go_at_call 35; refine (take_ok w1.heap.size L B k _ mv cv x _ (HLr.out.below (by (repeat' first | exact zbR _ _ | assumption | refine zbD ?_ | refine zbA ?_ ?_ _ | refine zbS ?_ ?_ _ | refine zbT ?_ (by assumption) ?_ | (simp; done) | (simp; omega) | omega))) (by omega) (by have := HBr.out.size; have := HB2.out.size; simp; omega) HPX.out.1 HPX.out.2).mono ?_; rintro e w4 ⟨rfl, ⟨mv4, cv4, hl4⟩, hb4, -⟩; have HL4 := hide hl4; have HB4 := hide hb4; clear hl4 hb4)
        go_roundw
        case rel => exact ⟨k + 1, mv4, cv4, by omega, by go_num, hide (by rw [HTK.out, E.atL_app, if_pos HH0.out]; exact HL4.out), hide ((zbT HBr.out (show Below wr.heap.size wr _ by (repeat' first | exact zbR _ _ | assumption | refine zbD ?_ | refine zbA ?_ ?_ _ | refine zbS ?_ ?_ _ | refine zbT ?_ (by assumption) ?_ | (simp; done) | (simp; omega) | omega)) (Nat.le_trans HB2.out.size HBr.out.size)).trans HB4.out)⟩
        case measure => simp [intOf]; omega
      · have HH0 := hide hh0
        have hh1 : hh < x.hour := by omega
        clear hh0
        go_wp2_with fail
        go_roundw
        case rel => exact ⟨k + 1, mv, cv, by omega, by go_num, hide (by rw [HTK.out, E.atL_app, if_neg HH0.out]; exact (HLr.out.below (by (repeat' first | exact zbR _ _ | assumption | refine zbD ?_ | refine zbA ?_ ?_ _ | refine zbS ?_ ?_ _ | refine zbT ?_ (by assumption) ?_ | (simp; done) | (simp; omega) | omega))).mono_k (by omega)), hide (zbT HBr.out (show Below wr.heap.size wr _ by (repeat' first | exact zbR _ _ | assumption | refine zbD ?_ | refine zbA ?_ ?_ _ | refine zbS ?_ ?_ _ | refine zbT ?_ (by assumption) ?_ | (simp; done) | (simp; omega) | omega)) (Nat.le_trans HB2.out.size HBr.out.size))⟩
        case measure => simp [intOf]; omega
    · have hkn : k = n := by omega
      subst hkn
      go_wp2_with fail
      go_ret
      have e1 : l.take k = l := List.take_of_length_le (by have := HN.out; omega)
      rw [e1] at HLr
      obtain ⟨⟨n3, hn3, hl3⟩, h4, h5⟩ := HLr.out
      exact ⟨L, B, mv, cv, rfl, ⟨⟨n3, hn3, hl3.mono HS1.out⟩, h4, h5⟩, (HB1.out.trans (HB2.out.mono HS1.out)).trans (HBr.out.mono HS1.out)⟩

end Go.Proofs.YtobjahlmjcnfoaaGreat

namespace Go.Proofs.YtobjahlmjcnfoaaGreat
namespace E

theorem cmp_cases (x y : Int) : (cmp x y = -1 ∧ x < y) ∨ (cmp x y = 0 ∧ x = y) ∨ (cmp x y = 1 ∧ y < x) := by
  unfold cmp
  rcases Int.lt_trichotomy x y with h | h | h
  · exact .inl ⟨if_pos h, h⟩
  · exact .inr (.inl ⟨by rw [if_neg (by omega), if_neg (by omega)], h⟩)
  · exact .inr (.inr ⟨by rw [if_neg (by omega), if_pos h], h⟩)
theorem leN_iff (x y : Nt) : leN x y = true ↔ x.hour < y.hour ∨ x.hour = y.hour ∧ x.id ≤ y.id := by
  unfold leN cmpN
  rw [decide_eq_true_eq]
  simp only [orL]
  rcases cmp_cases y.hour x.hour with ⟨e, h⟩ | ⟨e, h⟩ | ⟨e, h⟩ <;> rcases cmp_cases y.id x.id with ⟨e2, h2⟩ | ⟨e2, h2⟩ | ⟨e2, h2⟩ <;> simp [e, e2] <;> omega
theorem leN_trans (a b c : Nt) (h1 : leN a b = true) (h2 : leN b c = true) : leN a c = true := by
  rw [leN_iff] at *; omega
theorem leN_total (a b : Nt) : (leN a b || leN b a) = true := by
  rw [Bool.or_eq_true, leN_iff, leN_iff]; omega

theorem find_none {acc : List Nt} {i : Int} (h : acc.find? (fun y => y.id == i) = none) : ∀ y ∈ acc, y.id ≠ i := by
  intro y hy e
  have := List.find?_eq_none.1 h y hy
  simp [e] at this
theorem find_some {acc : List Nt} {i : Int} {y : Nt} (h : acc.find? (fun y => y.id == i) = some y) : y ∈ acc ∧ y.id = i := by
  refine ⟨List.mem_of_find?_eq_some h, ?_⟩
  have := List.find?_some h
  simpa using this

theorem diff_spec : ∀ (l acc d : List Nt), diff acc l = some d → acc.Pairwise (fun x y => x.id ≠ y.id) → d.Pairwise (fun x y => x.id ≠ y.id) ∧ (∀ y, y ∈ d ↔ y ∈ acc ∨ y ∈ l) ∧ (∀ x ∈ l, validNotice x = true)
  | [], acc, d, h, hp => by
    have : acc = d := Option.some.inj h
    subst this
    exact ⟨hp, fun y => by simp, fun x hx => by cases hx⟩
  | x :: r, acc, d, h, hp => by
    unfold diff at h
    split at h
    · cases h
    · rename_i hv
      have hv' : validNotice x = true := by simpa using hv
      split at h
      · rename_i y hf
        split at h
        · rename_i e
          subst e
          obtain ⟨h1, h2, h3⟩ := diff_spec r acc d h hp
          have hm := (find_some hf).1
          refine ⟨h1, fun z => ?_, fun z hz => ?_⟩
          · rw [h2, List.mem_cons]
            constructor
            · rintro (h | h); exact .inl h; exact .inr (.inr h)
            · rintro (h | h | h); exact .inl h; exact .inl (h ▸ hm); exact .inr h
          · rcases List.mem_cons.1 hz with h | h
            · exact h ▸ hv'
            · exact h3 z h
        · cases h
      · rename_i hf
        have hn := find_none hf
        obtain ⟨h1, h2, h3⟩ := diff_spec r (acc ++ [x]) d h (by
          rw [List.pairwise_append]
          refine ⟨hp, by simp, fun a ha b hb => ?_⟩
          simp at hb
          subst hb
          exact hn a ha)
        refine ⟨h1, fun z => ?_, fun z hz => ?_⟩
        · rw [h2, List.mem_cons, List.mem_append]
          simp only [List.mem_singleton]
          constructor
          · rintro ((h | h) | h); exact .inl h; exact .inr (.inl h); exact .inr (.inr h)
          · rintro (h | h | h); exact .inl (.inl h); exact .inl (.inr h); exact .inr h
        · rcases List.mem_cons.1 hz with h | h
          · exact h ▸ hv'
          · exact h3 z h
theorem diff_some : ∀ (l acc : List Nt), (∀ x ∈ l, validNotice x = true) → (∀ x ∈ l, ∀ y, y ∈ acc ∨ y ∈ l → y.id = x.id → y = x) → ∃ d, diff acc l = some d
  | [], acc, _, _ => ⟨acc, rfl⟩
  | x :: r, acc, hv, hs => by
    unfold diff
    rw [if_neg (by rw [hv x (List.mem_cons_self ..)]; simp)]
    split
    · rename_i y hf
      obtain ⟨hm, he⟩ := find_some hf
      have := hs x (List.mem_cons_self ..) y (.inl hm) he
      rw [if_pos this]
      exact diff_some r acc (fun z hz => hv z (List.mem_cons_of_mem _ hz)) (fun z hz y hy => hs z (List.mem_cons_of_mem _ hz) y (hy.imp id (List.mem_cons_of_mem _)))
    · refine diff_some r (acc ++ [x]) (fun z hz => hv z (List.mem_cons_of_mem _ hz)) (fun z hz y hy => hs z (List.mem_cons_of_mem _ hz) y ?_)
      rcases hy with h | h
      · rcases List.mem_append.1 h with h | h
        · exact .inl h
        · simp at h; exact .inr (h ▸ List.mem_cons_self ..)
      · exact .inr (List.mem_cons_of_mem _ h)

structure Taken (d : List Nt) : Prop where
  ids : d.Pairwise (fun x y => x.id ≠ y.id)
  sorted : d.Pairwise (fun x y => leN x y = true)
  valid : ∀ x ∈ d, validNotice x = true

theorem ids_inj {d : List Nt} (h : d.Pairwise (fun x y => x.id ≠ y.id)) : ∀ x ∈ d, ∀ y ∈ d, x.id = y.id → x = y := by
  intro x hx y hy e
  obtain ⟨i, hi, rfl⟩ := List.getElem_of_mem hx
  obtain ⟨j, hj, rfl⟩ := List.getElem_of_mem hy
  rcases Nat.lt_trichotomy i j with h1 | h1 | h1
  · exact absurd e (List.pairwise_iff_getElem.1 h i j hi hj h1)
  · subst h1; rfl
  · exact absurd e.symm (List.pairwise_iff_getElem.1 h j i hj hi h1)
theorem ids_nodup {d : List Nt} (h : d.Pairwise (fun x y => x.id ≠ y.id)) : d.Nodup := List.Pairwise.imp (fun {a b} h e => h (congrArg Nt.id e)) h

theorem diffs_spec {l d : List Nt} (h : diffs l = some d) : l.length ≤ 60 ∧ Taken d ∧ ∀ y, y ∈ d ↔ y ∈ l := by
  unfold diffs at h
  split at h
  · cases h
  · rename_i hl
    cases hd : diff [] l with
    | none => rw [hd] at h; cases h
    | some d0 =>
      rw [hd] at h
      have e : d0.mergeSort leN = d := Option.some.inj h
      obtain ⟨h1, h2, h3⟩ := diff_spec l [] d0 hd List.Pairwise.nil
      have hp := List.mergeSort_perm d0 leN
      have hm : ∀ y, y ∈ d ↔ y ∈ l := fun y => by
        rw [← e, hp.mem_iff, h2]; simp
      refine ⟨by omega, ⟨?_, ?_, fun x hx => h3 x ((hm x).1 hx)⟩, hm⟩
      · rw [← e]
        exact (List.Perm.pairwise_iff (fun {a b} h => Ne.symm h) hp).2 h1
      · rw [← e]
        exact List.pairwise_mergeSort leN_trans leN_total d0
theorem taken_eq {d m : List Nt} (hd : Taken d) (hm : Taken m) (h : ∀ y, y ∈ d ↔ y ∈ m) : d = m := by
  have hp : d.Perm m := (List.perm_ext_iff_of_nodup (ids_nodup hd.ids) (ids_nodup hm.ids)).2 h
  refine List.Perm.eq_of_pairwise (le := fun a b => leN a b = true) (fun a b ha hb h1 h2 => ?_) hd.sorted hm.sorted hp
  rw [leN_iff] at h1 h2
  exact ids_inj hd.ids a ha b ((h b).2 hb) (by omega)
theorem diffs_some {l : List Nt} (hl : l.length ≤ 60) (hv : ∀ x ∈ l, validNotice x = true) (hs : ∀ x ∈ l, ∀ y ∈ l, y.id = x.id → y = x) : ∃ d, diffs l = some d := by
  obtain ⟨d, hd⟩ := diff_some l [] hv (fun x hx y hy => hs x hx y (by simpa using hy))
  exact ⟨_, by unfold diffs; rw [if_neg (by omega), hd]; rfl⟩
end E
end Go.Proofs.YtobjahlmjcnfoaaGreat

namespace Go.Proofs.YtobjahlmjcnfoaaGreat
open Go.Shelf Go.RowKit Go.Lib Go.Sort

def Tryz.sortNotes_ren : Go.Shelf.Ren := ⟨fun | 6 => 69 | 15 => 73 | 14 => 77 | 28 => 86 | 29 => 87 | 20 => 88 | 21 => 89 | 22 => 90 | 23 => 91 | 24 => 92 | 25 => 93 | 26 => 94 | 27 => 95 | 46 => 101 | 47 => 97 | 48 => 98 | 49 => 102 | 50 => 103 | 57 => 105 | n => n, fun | 22 => 24 | 24 => 70 | 25 => 108 | 3 => 3 | 39 => 111 | 0 => 0 | 53 => 125 | 55 => 127 | 4 => 4 | 46 => 119 | 45 => 118 | 50 => 46 | 5 => 5 | 9 => 9 | 66 => 133 | 70 => 137 | 76 => 141 | 77 => 61 | n => n, fun n => n⟩
theorem Tryz.sortNotes : SlLaysF0.n6 Tryz.prog Tryz.sortNotes_ren where
  mixed := by kernel_rfl
  f6 := ⟨ "slices.SortFunc[[]deuce/api.Notice,deuce/api.Notice]", by decide, Tryz.func69.trans (congrArg some (by kernel_rfl))⟩
  f14 := ⟨ "slices.pdqsortCmpFunc[deuce/api.Notice]", by decide, Tryz.func77.trans (congrArg some (by kernel_rfl))⟩
  f15 := Tryz.func73.trans (congrArg some (by kernel_rfl))
  f20 := ⟨ "slices.insertionSortCmpFunc[deuce/api.Notice]", by decide, Tryz.func88.trans (congrArg some (by kernel_rfl))⟩
  f21 := ⟨ "slices.heapSortCmpFunc[deuce/api.Notice]", by decide, Tryz.func89.trans (congrArg some (by kernel_rfl))⟩
  f22 := ⟨ "slices.breakPatternsCmpFunc[deuce/api.Notice]", by decide, Tryz.func90.trans (congrArg some (by kernel_rfl))⟩
  f23 := ⟨ "slices.choosePivotCmpFunc[deuce/api.Notice]", by decide, Tryz.func91.trans (congrArg some (by kernel_rfl))⟩
  f24 := ⟨ "slices.reverseRangeCmpFunc[deuce/api.Notice]", by decide, Tryz.func92.trans (congrArg some (by kernel_rfl))⟩
  f25 := ⟨ "slices.partialInsertionSortCmpFunc[deuce/api.Notice]", by decide, Tryz.func93.trans (congrArg some (by kernel_rfl))⟩
  f26 := ⟨ "slices.partitionEqualCmpFunc[deuce/api.Notice]", by decide, Tryz.func94.trans (congrArg some (by kernel_rfl))⟩
  f27 := ⟨ "slices.partitionCmpFunc[deuce/api.Notice]", by decide, Tryz.func95.trans (congrArg some (by kernel_rfl))⟩
  f28 := Tryz.func86.trans (congrArg some (by kernel_rfl))
  f29 := Tryz.func87.trans (congrArg some (by kernel_rfl))
  f46 := ⟨ "slices.siftDownCmpFunc[deuce/api.Notice]", by decide, Tryz.func101.trans (congrArg some (by kernel_rfl))⟩
  f47 := Tryz.func97.trans (congrArg some (by kernel_rfl))
  f48 := Tryz.func98.trans (congrArg some (by kernel_rfl))
  f49 := ⟨ "slices.medianAdjacentCmpFunc[deuce/api.Notice]", by decide, Tryz.func102.trans (congrArg some (by kernel_rfl))⟩
  f50 := ⟨ "slices.medianCmpFunc[deuce/api.Notice]", by decide, Tryz.func103.trans (congrArg some (by kernel_rfl))⟩
  f57 := ⟨ "slices.order2CmpFunc[deuce/api.Notice]", by decide, Tryz.func105.trans (congrArg some (by kernel_rfl))⟩
  t0 := Tryz.underlying0
  a0 := Tryz.isAgg0
  z0 := Tryz.sizeOf0
  v0 := Tryz.zeroValue0
  t3 := Tryz.underlying3
  a3 := Tryz.isAgg3
  z3 := Tryz.sizeOf3
  v3 := Tryz.zeroValue3
  t4 := Tryz.underlying4
  a4 := Tryz.isAgg4
  z4 := Tryz.sizeOf4
  v4 := Tryz.zeroValue4
  t5 := Tryz.underlying5
  a5 := Tryz.isAgg5
  z5 := Tryz.sizeOf5
  v5 := Tryz.zeroValue5
  t9 := Tryz.underlying9
  a9 := Tryz.isAgg9
  z9 := Tryz.sizeOf9
  v9 := Tryz.zeroValue9
  t22 := Tryz.underlying24
  a22 := Tryz.isAgg24
  z22 := Tryz.sizeOf24
  v22 := Tryz.zeroValue24
  t25 := Tryz.underlying108
  a25 := Tryz.isAgg108
  z25 := Tryz.sizeOf108
  v25 := Tryz.zeroValue108
  t39 := Tryz.underlying111
  a39 := Tryz.isAgg111
  z39 := Tryz.sizeOf111
  v39 := Tryz.zeroValue111
  t45 := Tryz.underlying118
  a45 := Tryz.isAgg118
  z45 := Tryz.sizeOf118
  v45 := Tryz.zeroValue118
  t46 := Tryz.underlying119
  a46 := Tryz.isAgg119
  z46 := Tryz.sizeOf119
  v46 := Tryz.zeroValue119
  t50 := Tryz.underlying46
  a50 := Tryz.isAgg46
  z50 := Tryz.sizeOf46
  v50 := Tryz.zeroValue46
  t53 := Tryz.underlying125
  a53 := Tryz.isAgg125
  z53 := Tryz.sizeOf125
  v53 := Tryz.zeroValue125
  t55 := Tryz.underlying127
  a55 := Tryz.isAgg127
  z55 := Tryz.sizeOf127
  v55 := Tryz.zeroValue127
  t66 := Tryz.underlying133
  a66 := Tryz.isAgg133
  z66 := Tryz.sizeOf133
  v66 := Tryz.zeroValue133
  t70 := Tryz.underlying137
  a70 := Tryz.isAgg137
  z70 := Tryz.sizeOf137
  v70 := Tryz.zeroValue137
  t76 := Tryz.underlying141
  a76 := Tryz.isAgg141
  z76 := Tryz.sizeOf141
  v76 := Tryz.zeroValue141
  t77 := Tryz.underlying61
  a77 := Tryz.isAgg61
  z77 := Tryz.sizeOf61
  v77 := Tryz.zeroValue61

end Go.Proofs.YtobjahlmjcnfoaaGreat

namespace Go.Proofs.YtobjahlmjcnfoaaGreat
open Go.Shelf Go.RowKit Go.Lib Go.Sort

namespace E
instance : Inhabited Nt := ⟨⟨0, 0, 0, 0, 0⟩⟩
theorem cmpN_neg (x y : Nt) : cmpN x y < 0 ↔ x.hour < y.hour ∨ (x.hour = y.hour ∧ x.id < y.id) := by
  unfold cmpN
  simp only [orL]
  rcases cmp_cases x.hour y.hour with ⟨e, h⟩ | ⟨e, h⟩ | ⟨e, h⟩ <;> rcases cmp_cases x.id y.id with ⟨e2, h2⟩ | ⟨e2, h2⟩ | ⟨e2, h2⟩ <;> simp [e, e2] <;> omega
theorem leN_cmp (x y : Nt) : leN x y = true ↔ ¬ cmpN y x < 0 := by
  unfold leN
  rw [decide_eq_true_eq]
  omega
end E

def nc (x : E.Nt) : List Value := [.int .i64 x.id, .int .i64 x.hour, .int .i64 x.kind, .int .i64 x.player, .int .i64 x.rank]
def flatN (xs : List E.Nt) : List Value := xs.flatMap nc
theorem flatN_length (xs : List E.Nt) : (flatN xs).length = xs.length * 5 := by
  induction xs with
  | nil => rfl
  | cons x r ih =>
    have : flatN (x :: r) = nc x ++ flatN r := rfl
    rw [this, List.length_append, ih, List.length_cons]
    show 5 + r.length * 5 = _
    omega
theorem flatN_app (l r : List E.Nt) : flatN (l ++ r) = flatN l ++ flatN r := by unfold flatN; simp
theorem flatN_one (xs : List E.Nt) : ∀ u ∈ flatN xs, u.oneCell' = true := by
  intro u hu
  simp only [flatN, nc, List.mem_flatMap, List.mem_cons, List.not_mem_nil, or_false] at hu
  obtain ⟨p, _, rfl | rfl | rfl | rfl | rfl⟩ := hu <;> rfl
theorem flatN_at : ∀ (xs : List E.Nt) (k : Nat) (x : E.Nt) (i : Nat), xs[k]? = some x → i < 5 → (flatN xs)[k * 5 + i]? = (nc x)[i]?
  | a :: r, 0, x, i, h, hi => by
    have hx : a = x := Option.some.inj h
    subst hx
    have : flatN (a :: r) = nc a ++ flatN r := rfl
    rw [this, List.getElem?_append_left (by show 0 * 5 + i < 5; omega)]
    congr 1
    omega
  | a :: r, k + 1, x, i, h, hi => by
    have : flatN (a :: r) = nc a ++ flatN r := rfl
    rw [this, List.getElem?_append_right (by show 5 ≤ (k + 1) * 5 + i; omega)]
    have e : (k + 1) * 5 + i - (nc a).length = k * 5 + i := by show (k + 1) * 5 + i - 5 = _; omega
    rw [e]
    exact flatN_at r k x i h hi
theorem flatK_flatN (d : Array E.Nt) : flatK nc 5 d = (flatN d.toList).toArray := by
  refine Array.ext_getElem? (fun t => ?_)
  rcases Nat.lt_or_ge t (d.size * 5) with h | h
  · have h5 : t / 5 < d.size := by omega
    have e1 : d.toList[t / 5]? = some d[t / 5] := by simp [h5]
    have e2 := flatN_at d.toList (t / 5) d[t / 5] (t % 5) e1 (by omega)
    rw [show t / 5 * 5 + t % 5 = t by omega] at e2
    have e4 : (flatK nc 5 d)[t]? = some ((flatK nc 5 d)[t]!) := by
      rw [getElem!_pos _ t (by simpa using h)]
      exact Array.getElem?_eq_getElem (by simpa using h)
    rw [e4, get_flatK _ _ _ _ h, getElem!_pos d (t / 5) h5]
    have e5 : (flatN d.toList).toArray[t]? = (flatN d.toList)[t]? := by simp
    rw [e5, e2]
    have h6 : t % 5 < (nc d[t / 5]).length := by show t % 5 < 5; omega
    rw [getElem!_pos (nc d[t / 5]) (t % 5) h6, List.getElem?_eq_getElem h6]
  · rw [Array.getElem?_eq_none (by simpa using h), Array.getElem?_eq_none (by simp [flatN_length]; omega)]

theorem own_slice {w : World} {base : Nat} {e : TypeId} {n m c size : Nat} {xs : List Value} {A : Option Addr} (h : w.ownsRow base e size (.slice A m c) n xs) (hn : 0 < n) : ∃ g, A = some ⟨g, 0, none⟩ ∧ m = n ∧ w.ownsRow base e size (.slice (some ⟨g, 0, none⟩) n c) n xs := by
  obtain ⟨h0, ⟨h1, h2⟩ | ⟨g, cap, cur, h1, r⟩⟩ := id h
  · omega
  · simp only [Value.slice.injEq] at h1
    obtain ⟨rfl, rfl, rfl⟩ := h1
    exact ⟨g, rfl, rfl, h⟩
theorem owns_RdN {w : World} {base : Nat} {A : Option Addr} {n c : Nat} {xs : List E.Nt} (h : w.ownsRow base 70 5 (.slice A n c) n (flatN xs)) (hn : xs.length = n) : RdN w w.heap.size A xs := by
  intro k x hk
  have hkl : k < n := by rw [← hn]; exact (List.getElem?_eq_some_iff.1 hk).1
  obtain ⟨g, rfl, _, h'⟩ := own_slice h (by omega)
  have c : ∀ i, i < 5 → w.cell? ⟨g, 0 + k * 5 + i, none⟩ = (nc x)[i]? := fun i hi => by
    rw [Nat.zero_add, h'.cellAt (k * 5 + i) (by omega)]
    exact flatN_at xs k x i hk hi
  exact ⟨g, 0, rfl, (h'.lt g rfl).2, c 0 (by omega), c 1 (by omega), c 2 (by omega), c 3 (by omega), c 4 (by omega)⟩

theorem heap_sortedD {w : World} {g n : Nat} {os : Array Obj} {cur : Array Value} {e : TypeId} {fr : Nat × Nat} (d : Array Value) (hb : w.heap[g]? = some (.cells cur e fr)) :
    (grow (putRow id (Sort.ahead w n) g 0 d) os).heap[g]? = some (.cells (putCells id 0 d cur) e fr) := by
  have hg : g < w.heap.size := (Array.getElem?_eq_some_iff.1 hb).1
  rw [heap_grow_old _ _ (by simpa using hg)]
  simp [putRow, mapBlock, Sort.ahead, Array.getElem?_modify, hb, onCells]
theorem grownBy_sortedD {w : World} {g n : Nat} {os : Array Obj} (d : Array Value) : w.grownBy (grow (putRow id (Sort.ahead w n) g 0 d) os) (some g) := by
  refine ⟨rfl, rfl, rfl, by simp, fun k hk hne => ?_⟩
  rw [heap_grow_old _ _ (by simpa using hk)]
  have : g ≠ k := fun e => hne (by rw [e])
  simp [putRow, mapBlock, Sort.ahead, Array.getElem?_modify, this]
theorem take_putCellsD (cur : Array Value) (ts : List Value) (h : ts.length ≤ cur.size) : (putCells id 0 ts.toArray cur).toList.take ts.length = ts := by
  apply List.ext_getElem?
  intro j
  by_cases hj : j < ts.length
  · rw [List.getElem?_take_of_lt hj, Array.getElem?_toList]
    simp [putCells, hj, show j < cur.size by omega]
  · rw [List.getElem?_take_eq_none (by omega), List.getElem?_eq_none (by omega)]
theorem holds_of_blockD {w : World} {g : Nat} {cur : Array Value} {e : TypeId} {ss : List Value} (hb : w.heap[g]? = some (.cells cur e (0, 0))) (ht : cur.toList.take ss.length = ss) : Holds id w g 0 ss.toArray := by
  intro j hj
  have hj' : j < ss.length := by simpa using hj
  refine ⟨?_, by simp [World.frozen?, hb]⟩
  have h1 : (cur.toList.take ss.length)[j]? = ss[j]? := by rw [ht]
  rw [List.getElem?_take_of_lt hj'] at h1
  simp only [World.cell?, hb, Nat.zero_add]
  simp only [Option.isSome_none, Bool.false_eq_true, if_false]
  rw [← Array.getElem?_toList, h1]
  simp [hj']

theorem swoN : SWO (ltOf E.cmpN) where
  irrefl x := by
    unfold ltOf
    rw [decide_eq_false_iff_not, E.cmpN_neg]
    omega
  trans x y z h1 h2 := by
    unfold ltOf at *
    rw [decide_eq_true_eq, E.cmpN_neg] at *
    omega
  ntrans x y z h1 h2 := by
    unfold ltOf at *
    rw [decide_eq_false_iff_not, E.cmpN_neg] at *
    omega

theorem sortN_any (base : Nat) (A : Option Addr) (m c : Nat) (xs : List E.Nt) (W : World) (hown : W.ownsRow base 70 5 (.slice A m c) m (flatN xs)) (hlen : xs.length = m) (hids : xs.Pairwise fun x y => x.id ≠ y.id) (hx : m ≤ 1000) :
    Calls Tryz.prog 69 #[.slice A m c, .func (.func 70) #[] #[]] W fun e w' => e = .returned (.tuple #[]) ∧ w'.ownsRow base 70 5 (.slice A m c) m (flatN (xs.mergeSort E.leN)) ∧ W.grownBy w' (Value.slice A m c).ownBlock := by
  rcases A with _ | ad
  · have hm0 : m = 0 := by
      rcases Nat.eq_zero_or_pos m with h | h
      · exact h
      · obtain ⟨g, e, _⟩ := own_slice hown h
        cases e
    subst hm0
    have hx0 : xs = [] := List.length_eq_zero_iff.1 hlen
    subst hx0
    have hcon := AnyF.slices_SortFunc_none (P := Tryz.prog) (ρ := Tryz.sortNotes_ren) { Tryz.sortNotes with } none c (.func (.func 70) #[] #[]) W
    change Calls Tryz.prog 69 _ _ _ at hcon
    refine hcon.mono ?_
    rintro e w' ⟨rfl, rfl⟩
    exact ⟨rfl, by simpa using hown, World.grownBy.refl _ _⟩
  · obtain ⟨h0, ⟨h0', _⟩ | ⟨g, cap, cur, e, hbg, hblk, hcap, hcapm, hsz, htk⟩⟩ := id hown
    · cases h0'
    simp only [Value.slice.injEq, Option.some.injEq] at e
    obtain ⟨rfl, -, rfl⟩ := e
    have hgl : g < W.heap.size := blk_lt hblk
    have hds : (xs.toArray).size = m := by simp [hlen]
    have hH : HoldsK nc 5 W g 0 xs.toArray := by
      unfold HoldsK
      rw [flatK_flatN]
      refine holds_of_blockD hblk ?_
      rw [flatN_length, hlen]
      exact htk
    have eg : ∀ args w, (callFunc 70 args).run Tryz.prog w = .ok (.enter 70 args) w := enters_of Tryz.func70 (by kernel_rfl) rfl
    have hcmp : CmpLays Tryz.prog 70 #[] nc 5 E.cmpN g 0 (xs.toArray).size W := by
      intro q os dk hs x y
      exact (cmpN_any x y _)
    have hcon := AnyQ.slices_SortFunc Tryz.sortNotes 5 (Tryz.isAgg70) (Tryz.sizeOf70) nc (fun _ => rfl) (fun x v hv => by
      simp only [nc, List.mem_cons, List.not_mem_nil, or_false] at hv
      rcases hv with rfl | rfl | rfl | rfl | rfl <;> rfl) E.cmpN swoN 70 #[] g 0 c xs.toArray W eg hcmp hH hgl (by omega)
    change Calls Tryz.prog 69 _ _ _ at hcon
    rw [hds] at hcon
    refine hcon.mono ?_
    rintro e w' ⟨rfl, d', q, os, hp, hs, rfl⟩
    obtain ⟨hp1, _, hp3⟩ := hp
    have hd' : d'.size = m := by rw [hp1, hds]
    have hpl : d'.toList.Perm xs := by
      have e1 : (d'.extract 0 m).toList = d'.toList := by rw [← hd']; simp
      have e2 : ((xs.toArray).extract 0 m).toList = xs := by rw [← hds]; simp
      rw [e1, e2] at hp3
      exact hp3
    have hso : d'.toList.Pairwise fun x y => E.leN x y = true := by
      rw [List.pairwise_iff_getElem]
      intro i j hi hj hij
      have hi' : i < d'.size := by simpa using hi
      have hj' : j < d'.size := by simpa using hj
      have := hs i j (Nat.zero_le _) hij (by omega)
      unfold ltOf at this
      rw [decide_eq_false_iff_not, getElem!_pos d' j hj', getElem!_pos d' i hi'] at this
      simp only [Array.getElem_toList]
      rw [E.leN_cmp]
      exact this
    have hms := List.mergeSort_perm xs E.leN
    have heq : d'.toList = xs.mergeSort E.leN := by
      refine List.Perm.eq_of_pairwise (le := fun a b => E.leN a b = true) (fun a b ha hb h1 h2 => ?_) hso (List.pairwise_mergeSort E.leN_trans E.leN_total xs) (hpl.trans hms.symm)
      rw [E.leN_iff] at h1 h2
      exact E.ids_inj hids a (hpl.mem_iff.1 ha) b (hms.mem_iff.1 hb) (by omega)
    refine ⟨rfl, ?_, ?_⟩
    · have e1 : sortWorldK nc 5 W g 0 q d' os = grow (putRow id (Sort.ahead W q) g 0 (flatN (xs.mergeSort E.leN)).toArray) os := by
        unfold sortWorldK putRowK
        rw [flatK_flatN, heq]
      have hfl : (flatN (xs.mergeSort E.leN)).length = m * 5 := by rw [flatN_length, hms.length_eq, hlen]
      rw [e1]
      exact ⟨hfl, .inr ⟨g, c, _, rfl, hbg, heap_sortedD _ hblk, hcap, hcapm, by simp [putCells, hsz], by rw [← hfl]; exact take_putCellsD cur _ (by rw [hfl, hsz]; exact Nat.mul_le_mul_right 5 hcap)⟩⟩
    · unfold sortWorldK putRowK
      exact grownBy_sortedD _

theorem nt_info : (Tryz.prog.info? 70).map (fun i => (i.zero, i.size, i.bytes)) = some (some (encN ⟨0, 0, 0, 0, 0⟩), 5, 40) := by kernel_rfl
theorem run_app_N {w : World} (ty : TypeId) (base : Nat) (v : Value) (ps : List E.Nt) (m0 : Nat) (hown : w.ownsRow base 70 5 v m0 (flatN ps)) (hlen : ps.length = m0)
    (q : Nat) (x : E.Nt) (hq : w.heap[q]? = some (.cells (ntCells x) 70 (0, 0))) (h0 : m0 ≤ 1000) (hbase : base ≤ w.heap.size) :
    ∃ A' c' w', (Builtin.append_ #[24, 24] ty #[v, .slice (some ⟨q, 0, none⟩) 1 1]).run Tryz.prog w = .ok (.slice A' (m0 + 1) c') w' ∧ w'.ownsRow base 70 5 (.slice A' (m0 + 1) c') (m0 + 1) (flatN (ps ++ [x])) ∧ w.grownBy w' v.ownBlock ∧ (∀ g, (Value.slice A' (m0 + 1) c').ownBlock = some g → v.ownBlock = some g ∨ w.heap.size ≤ g) := by
  obtain ⟨i, hi, hz0, hz1, hz2⟩ := info_parts nt_info
  obtain ⟨v', w', hrun, h2, h3, _, h5⟩ := run_append_own_at (P := Tryz.prog) w base 24 ty 70 i _ 5 40 Tryz.underlying24 hi hz0 hz1 hz2 (by rfl) (by decide) v m0 (flatN ps) hown ⟨q, 0, none⟩ 1 1 (flatN [x]) rfl (by
    intro j u hj
    rw [add_plain, Nat.zero_add, blk_cell hq j, ← hj]
    show (nc x).toArray[j]? = (nc x)[j]?
    simp) (flatN_one [x]) (by unfold maxLen; omega) (by omega) hbase
  obtain ⟨A', c', rfl⟩ := own_form h2
  refine ⟨A', c', w', hrun, by rw [flatN_app]; exact h2, h3, fun g hg => ?_⟩
  rcases h5 with e | e
  · exact .inl (e ▸ hg)
  · rw [hg] at e
    exact .inr (by have := Option.some.inj e; omega)

end Go.Proofs.YtobjahlmjcnfoaaGreat

namespace Go.Proofs.YtobjahlmjcnfoaaGreat
open Go.RowKit Go.Maps
attribute [local go_sem ↓] Go.wp_at_zero Go.wp_at_succ

set_option maxRecDepth 100000 in
theorem MapK.lookOk_any {α : Type} {E : Elem α} {w : World} {B n : Nat} {F : Int → α} {kn : Int → Bool} {t e : TypeId} (ht : Tryz.prog.underlying t = some (.map 3 e)) (hz : ∀ w, (zeroValue e).run Tryz.prog w = .ok (E.enc E.zero) w) (h : MapK E w B F kn n) {k : Int} (hwf : (Lit.int .i64 k).wf = true) :
    ∃ z b, (Instr.lookup t (.map (some B)) (.int .i64 k) true).run Tryz.prog w = .ok (.tuple #[E.enc z, .bool b]) w ∧ (b = true → 0 ≤ k ∧ k ≤ 999 ∧ z = F k ∧ kn k = true) ∧ (b = false → 0 ≤ k → k ≤ 999 → kn k = false) := by
  by_cases hr : 0 ≤ k ∧ k ≤ 999
  · exact ⟨_, _, h.lookOk ht hz hr.1 hr.2, fun e => ⟨hr.1, hr.2, rfl, e⟩, fun e _ _ => e⟩
  · obtain ⟨D, h, hF, hR⟩ := h
    obtain ⟨v, ps, hrun, hat⟩ := h.look_ok intKeyed ht (hz w) (E.rd_enc E.zero) (keyOf_int_mk Tryz.underlying3 hwf)
    have hh : Maps.has D (.int .i64 k) = false := by
      cases hc : Maps.has D (.int .i64 k) with
      | false => rfl
      | true =>
        obtain ⟨k', e, h0, h1⟩ := hR _ hc
        injection e with _ e
        subst e
        exact absurd ⟨h0, h1⟩ hr
    rw [atKey_of_not_has hh] at hat
    obtain ⟨x, rfl, hx⟩ := E.rd_inv hat
    have := E.dat_inj _ _ (congrArg Prod.fst hx)
    rw [← this] at hrun
    rw [hh] at hrun
    exact ⟨_, false, hrun, fun e => (by cases e), fun _ h0 h1 => absurd ⟨h0, h1⟩ hr⟩

set_option maxRecDepth 100000 in
theorem run_neq_nt (x y : E.Nt) (w : World) :
    (binOp .neq 70 (.agg #[.int .i64 x.id, .int .i64 x.hour, .int .i64 x.kind, .int .i64 x.player, .int .i64 x.rank]) (.agg #[.int .i64 y.id, .int .i64 y.hour, .int .i64 y.kind, .int .i64 y.player, .int .i64 y.rank])).run Tryz.prog w = .ok (.bool (!decide (x = y))) w := by
  obtain ⟨a1, a2, a3, a4, a5⟩ := x
  obtain ⟨b1, b2, b3, b4, b5⟩ := y
  by_cases h1 : a1 = b1
  · by_cases h2 : a2 = b2
    · by_cases h3 : a3 = b3
      · by_cases h4 : a4 = b4
        · by_cases h5 : a5 = b5
          · simp [go_sem, h1, h2, h3, h4, h5, Tryz.underlying70]
          · simp [go_sem, h1, h2, h3, h4, h5, Tryz.underlying70]
        · simp [go_sem, h1, h2, h3, h4, Tryz.underlying70]
      · simp [go_sem, h1, h2, h3, Tryz.underlying70]
    · simp [go_sem, h1, h2, Tryz.underlying70]
  · simp [go_sem, h1, Tryz.underlying70]

namespace E
def KnownAs (acc : List Nt) (F : Int → Nt) (kn : Int → Bool) : Prop := ∀ j, 0 ≤ j → j ≤ 999 → kn j = (acc.find? (fun y => y.id == j)).isSome ∧ ∀ y, acc.find? (fun y => y.id == j) = some y → F j = y
theorem valid_id {x : Nt} (h : validNotice x = true) : 0 ≤ x.id ∧ x.id ≤ 999 := by
  unfold validNotice within at h
  simp only [Bool.and_eq_true, decide_eq_true_eq] at h
  omega
theorem valid_player {x : Nt} (h : validNotice x = true) : 0 ≤ x.player ∧ x.player ≤ 999 := by
  unfold validNotice within at h
  simp only [Bool.and_eq_true, decide_eq_true_eq] at h
  omega
theorem known_add {acc : List Nt} {F : Int → Nt} {kn : Int → Bool} (h : KnownAs acc F kn) (x : Nt) (hn : acc.find? (fun y => y.id == x.id) = none) : KnownAs (acc ++ [x]) (fun j => if j = x.id then x else F j) (fun j => if j = x.id then true else kn j) := by
  intro j h0 h1
  rw [List.find?_append]
  by_cases e : j = x.id
  · subst e
    rw [hn]
    simp
  · have e2 : [x].find? (fun y => y.id == j) = none := by
      rw [List.find?_eq_none]
      intro y hy
      simp at hy
      subst hy
      simp [Ne.symm e]
    rw [e2, Option.or_none]
    simp only [if_neg e]
    exact h j h0 h1
theorem diff_bad {x : Nt} {acc r : List Nt} (h : validNotice x = false) : diff acc (x :: r) = none := by
  unfold diff; rw [if_pos h]
theorem diff_two {x y : Nt} {acc r : List Nt} (h : validNotice x = true) (hf : acc.find? (fun y => y.id == x.id) = some y) : diff acc (x :: r) = if y = x then diff acc r else none := by
  rw [diff, if_neg (by rw [h]; simp), hf]
theorem diff_new {x : Nt} {acc r : List Nt} (h : validNotice x = true) (hf : acc.find? (fun y => y.id == x.id) = none) : diff acc (x :: r) = diff (acc ++ [x]) r := by
  rw [diff, if_neg (by rw [h]; simp), hf]
end E

theorem wpList_app_N {w : World} {ops : Array Oper} {rest : List Oper} {o : Oper} {a : Act} {Q : Exit → Act → World → Prop} (hgd : o.guard = none) (s x : Operand)
    (ho : o.op = .call { callee := .builtin .append, args := #[s, x], argTypes := #[24, 24] }) (base : Nat) (v : Value) (ps : List E.Nt) (m0 : Nat) (hs : a.eval s = v) (hown : w.ownsRow base 70 5 v m0 (flatN ps)) (hlen : ps.length = m0)
    (q : Nat) (y : E.Nt) (hx : a.eval x = .slice (some ⟨q, 0, none⟩) 1 1) (hq : w.heap[q]? = some (.cells (ntCells y) 70 (0, 0))) (h0 : m0 ≤ 1000) (hbase : base ≤ w.heap.size)
    (h : ∀ A' c' w', w'.ownsRow base 70 5 (.slice A' (m0 + 1) c') (m0 + 1) (flatN (ps ++ [y])) → w.grownBy w' v.ownBlock → (∀ g, (Value.slice A' (m0 + 1) c').ownBlock = some g → v.ownBlock = some g ∨ w.heap.size ≤ g) → wpList Tryz.prog ops Q rest (a.put o.dst (.slice A' (m0 + 1) c')) w') :
    wpList Tryz.prog ops Q (o :: rest) a w := by
  refine wpList_plain hgd fun K hK => ?_
  obtain ⟨A', c', w', hr', h2, h3, h4⟩ := run_app_N o.type base v ps m0 hown hlen q y hq h0 hbase
  unfold Oper.wp execOp
  simp only [ho, resolve, invoke, builtin, Sem.run_bind, Sem.run_pure, Result.andThen_ok, List.map_toArray, List.map_cons, List.map_nil, hs, hx, hr']
  exact hK _ _ (h A' c' w' h2 h3 h4)

def DiffPost (l : List E.Nt) (w : World) (e : Ending) (w' : World) : Prop := (match E.diffs l with | none => e = .returned (.tuple #[.slice none 0 0, .bool false]) | some d => ∃ A c, e = .returned (.tuple #[.slice A d.length c, .bool true]) ∧ w'.ownsRow w.heap.size 70 5 (.slice A d.length c) d.length (flatN d)) ∧ Below w.heap.size w w'

theorem DiffPost.no {l : List E.Nt} {w w' : World} (h : E.diffs l = none) (hb : Below w.heap.size w w') : DiffPost l w (.returned (.tuple #[.slice none 0 0, .bool false])) w' := by
  unfold DiffPost
  rw [h]
  exact ⟨rfl, hb⟩

set_option maxHeartbeats 6400000 in
set_option maxRecDepth 100000 in
theorem diff_any (A : Option Addr) (n c : Nat) (l : List E.Nt) (w : World) (hn : l.length = n) (hr : RdN w w.heap.size A l) (hid : ∀ x ∈ l, (Lit.int .i64 x.id).wf = true) (hm : n ≤ 1000000) :
    Calls Tryz.prog 49 #[.slice A n c] w (DiffPost l w) := by
  have HN := hide hn
  have HR := hide hr
  have HID := hide hid
  clear hn hr hid
  have hmm := @Go.RowKit.run_makeMap Tryz.prog
  go_enter Tryz.func49, Tryz.ntmps49
  by_cases h60 : 60 < n
  · have h1 : (60 : Int) < (n : Int) := by omega
    have HD := hide (show E.diffs l = none by unfold E.diffs; rw [if_pos (by have := HN.out; omega)])
    go_wp2_with fail
    exact bodyPost_ret (v := .tuple #[.slice none 0 0, .bool false]) (by simp [results, Tryz.results49, go_sem]) rfl (DiffPost.no HD.out (Below.refl _ _))
  · have h1 : (n : Int) ≤ 60 := by omega
    have hn60 : n ≤ 60 := by omega
    have HD := hide (show E.diffs l = (E.diff [] l).map (fun d => d.mergeSort E.leN) by unfold E.diffs; rw [if_neg (by have := HN.out; omega)])
    clear h60 hm
    go_wp2_with fail
    obtain ⟨B, hB⟩ : ∃ B, w.heap.size = B := ⟨_, rfl⟩
    have HBB := hide hB
    have hM0 := MapK.made (E := elN) w
    have hb0 : Below w.heap.size w (w.alloc (.map #[] 0)) := zbA (zbR _ _) (Nat.le_refl _) _
    generalize w.alloc (.map #[] 0) = w1 at hM0 hb0 ⊢
    have HB1 := hide hb0
    rw [hB] at hM0 ⊢
    have HM0 := hide hM0
    have HR1 := hide (HR.out.below HB1.out)
    clear hB hM0 hb0 hmm h1
    go_loopw [2, 15] (fun v i wr => ∃ (k : Nat) (acc : List E.Nt) (F : Int → E.Nt) (kn : Int → Bool) (A1 : Option Addr) (c1 : Nat), k ≤ n ∧ i = .int .i64 k ∧ v = .slice A1 acc.length c1 ∧ Hid (E.diff [] l = E.diff acc (l.drop k)) ∧ Hid (∃ m, m ≤ k ∧ MapK elN wr B F kn m) ∧ Hid (E.KnownAs acc F kn) ∧ Hid (∀ y ∈ acc, E.validNotice y = true) ∧ Hid (acc.Pairwise fun x y => x.id ≠ y.id) ∧ Hid (wr.ownsRow w.heap.size 70 5 (.slice A1 acc.length c1) acc.length (flatN acc)) ∧ Hid (Below w.heap.size w1 wr) ∧ acc.length ≤ k) (fun _ i _ => n - (intOf i).toNat)
    case atStart => exact ⟨0, [], _, _, none, 0, by omega, rfl, rfl, hide (by rw [List.drop_zero]), hide ⟨0, Nat.le_refl _, HM0.out⟩, hide (fun j _ _ => ⟨rfl, fun y h => by cases h⟩), hide (fun y h => by cases h), hide List.Pairwise.nil, hide (World.ownsRow_nil _ _ _ _), hide (Below.refl _ _), by simp⟩
    case round =>
      obtain ⟨k, acc, F, kn, A1, c1, hk, rfl, rfl, HE, HMM, HKA, HV, HP, HO, HBr, hal⟩ := hrel
      obtain ⟨m, hmk, hM⟩ := HMM.out
      have HM := hide hM
      have HMK := hide hmk
      clear hM hmk HMM
      by_cases hlt : k < n
      · obtain ⟨x, hx⟩ : ∃ q, l[k]? = some q := ⟨_, List.getElem?_eq_getElem (by have := HN.out; omega)⟩
        obtain ⟨b, o, hA, hbB, d0, d1, d2, d3, d4⟩ := (HR1.out.below HBr.out) k x hx
        subst hA
        have hdrop : l.drop k = x :: l.drop (k + 1) := by
          obtain ⟨hl, he⟩ := List.getElem?_eq_some_iff.1 hx
          rw [List.drop_eq_getElem_cons hl, he]
        rw [hdrop] at HE
        have HWF := hide (HID.out x (List.mem_of_getElem? hx))
        have hlt' : (k : Int) < (n : Int) := by omega
        have hk0 : (0 : Int) ≤ (k : Int) := by omega
        have hbr : b < wr.heap.size := Nat.lt_of_lt_of_le hbB (Nat.le_trans HB1.out.size HBr.out.size)
        obtain ⟨W6, hW6⟩ : ∃ W6, wr.alloc (.cells #[.int .i64 x.id, .int .i64 x.hour, .int .i64 x.kind, .int .i64 x.player, .int .i64 x.rank] 70) = W6 := ⟨_, rfl⟩
        have HB6 := hide (show Below wr.heap.size wr W6 by rw [← hW6]; (repeat' first | exact zbR _ _ | assumption | refine zbD ?_ | refine zbA ?_ ?_ _ | refine zbS ?_ ?_ _ | refine zbT ?_ (by assumption) ?_ | (simp; done) | (simp; omega) | omega))
        have HX6 := hide (show W6.heap[wr.heap.size]? = some (.cells #[.int .i64 x.id, .int .i64 x.hour, .int .i64 x.kind, .int .i64 x.player, .int .i64 x.rank] 70 (0, 0)) by rw [← hW6]; exact World.alloc_heap_new _ _)
        obtain ⟨z, bo, hlk0, hb1, hb2⟩ := MapK.lookOk_any Tryz.underlying105 zeroN (HM.out.below HB6.out) HWF.out
        have hlk : (Instr.lookup 105 (.map (some B)) (.int .i64 x.id) true).run Tryz.prog W6 = .ok (.tuple #[.agg #[.int .i64 z.id, .int .i64 z.hour, .int .i64 z.kind, .int .i64 z.player, .int .i64 z.rank], .bool bo]) W6 := hlk0
        rw [← hW6] at hlk
        have HBO1 := hide hb1
        have HBO0 := hide hb2
        obtain ⟨vn, hvn⟩ : ∃ vn, E.validNotice x = vn := ⟨_, rfl⟩
        have HVN := hide hvn
        have HCV := fun W => hide (validNotice_any x W)
        rw [hvn] at HCV
        clear hx hdrop hW6 hlk0 hb1 hb2 hvn
        cases vn
        · have HNO := hide (show E.diffs l = none by rw [HD.out, HE.out, E.diff_bad HVN.out]; rfl)
          go_wp2_with (go_at_call 68; refine (HCV _).out.mono ?_; rintro e w7 ⟨rfl, hb7⟩; have HB7 := hide (zbT (show Below wr.heap.size wr _ by (repeat' first | exact zbR _ _ | assumption | refine zbD ?_ | refine zbA ?_ ?_ _ | refine zbS ?_ ?_ _ | refine zbT ?_ (by assumption) ?_ | (simp; done) | (simp; omega) | omega)) hb7 (by simp; omega)); have HX7 := hide ((hb7.block wr.heap.size (by simp; omega)).trans (show (World.alloc _ _).heap[wr.heap.size]? = some (.cells #[.int .i64 x.id, .int .i64 x.hour, .int .i64 x.kind, .int .i64 x.player, .int .i64 x.rank] 70 (0, 0)) from (Below.heap_alloc _ _ _ (by first | (simp; done) | (simp; omega) | omega)).trans (World.alloc_heap_new _ _))); have HZ7 := hide ((hb7.block (wr.heap.size + 1) (by simp)).trans (show (World.alloc _ _).heap[wr.heap.size + 1]? = some (.cells #[.int .i64 z.id, .int .i64 z.hour, .int .i64 z.kind, .int .i64 z.player, .int .i64 z.rank] 70 (0, 0)) from (congrArg _ (by simp)).trans (World.alloc_heap_new _ _))); clear hb7)
          exact bodyPost_ret (v := .tuple #[.slice none 0 0, .bool false]) (by simp [results, Tryz.results49, go_sem]) rfl (DiffPost.no HNO.out (HB1.out.trans (zbT HBr.out HB7.out (Nat.le_trans HB1.out.size HBr.out.size))))
        · have hin := E.valid_id HVN.out
          obtain ⟨i0, i1⟩ := hin
          cases bo
          · have hnf : acc.find? (fun y => y.id == x.id) = none := by
              have h1 := HBO0.out rfl i0 i1
              have h2 := (HKA.out x.id i0 i1).1
              rw [h1] at h2
              cases hf : acc.find? (fun y => y.id == x.id) with
              | none => rfl
              | some y => rw [hf] at h2; cases h2
            have HNF := hide hnf
            have HI := hide (And.intro i0 i1)
            have HLB := hide (show w.heap.size < wr.heap.size by have h1 := HM.out.lt; have h2 := HBB.out; omega)
            clear hnf i0 i1
            go_wp2_with (first | (go_at_call 68; refine (HCV _).out.mono ?_; rintro e w7 ⟨rfl, hb7⟩; have HB7 := hide (zbT (show Below wr.heap.size wr _ by (repeat' first | exact zbR _ _ | assumption | refine zbD ?_ | refine zbA ?_ ?_ _ | refine zbS ?_ ?_ _ | refine zbT ?_ (by assumption) ?_ | (simp; done) | (simp; omega) | omega)) hb7 (by simp; omega)); have HX7 := hide ((hb7.block wr.heap.size (by simp; omega)).trans (show (World.alloc _ _).heap[wr.heap.size]? = some (.cells #[.int .i64 x.id, .int .i64 x.hour, .int .i64 x.kind, .int .i64 x.player, .int .i64 x.rank] 70 (0, 0)) from (Below.heap_alloc _ _ _ (by first | (simp; done) | (simp; omega) | omega)).trans (World.alloc_heap_new _ _))); have HZ7 := hide ((hb7.block (wr.heap.size + 1) (by simp)).trans (show (World.alloc _ _).heap[wr.heap.size + 1]? = some (.cells #[.int .i64 z.id, .int .i64 z.hour, .int .i64 z.kind, .int .i64 z.player, .int .i64 z.rank] 70 (0, 0)) from (congrArg _ (by simp)).trans (World.alloc_heap_new _ _))); clear hb7; have y0 : w7.cell? ⟨wr.heap.size, 0, none⟩ = some (.int .i64 x.id) := (blk_cell HX7.out 0).trans rfl; have y1 : w7.cell? ⟨wr.heap.size, 1, none⟩ = some (.int .i64 x.hour) := (blk_cell HX7.out 1).trans rfl; have y2 : w7.cell? ⟨wr.heap.size, 2, none⟩ = some (.int .i64 x.kind) := (blk_cell HX7.out 2).trans rfl; have y3 : w7.cell? ⟨wr.heap.size, 3, none⟩ = some (.int .i64 x.player) := (blk_cell HX7.out 3).trans rfl; have y4 : w7.cell? ⟨wr.heap.size, 4, none⟩ = some (.int .i64 x.rank) := (blk_cell HX7.out 4).trans rfl; obtain ⟨w8, hrun8, hM8, hg8⟩ := (HM.out.below HB7.out).store Tryz.underlying105 (by have := HMK.out; omega) HI.out.1 HI.out.2 x; have hrun : (Instr.mapUpdate 105 (.map (some B)) (.int .i64 x.id) (.agg #[.int .i64 x.id, .int .i64 x.hour, .int .i64 x.kind, .int .i64 x.player, .int .i64 x.rank])).run Tryz.prog w7 = .ok () w8 := hrun8; have HM8 := hide hM8; have HG8 := hide hg8; have HX8 := hide ((HG8.out.block wr.heap.size (blk_lt HX7.out) (fun e => by have h1 := Option.some.inj e; have h2 := HBB.out; have h3 := HLB.out; omega)).trans HX7.out); clear hrun8 hM8 hg8; have p0 : w8.cell? ⟨wr.heap.size, 0, none⟩ = some (.int .i64 x.id) := (blk_cell HX8.out 0).trans rfl; have p1 : w8.cell? ⟨wr.heap.size, 1, none⟩ = some (.int .i64 x.hour) := (blk_cell HX8.out 1).trans rfl; have p2 : w8.cell? ⟨wr.heap.size, 2, none⟩ = some (.int .i64 x.kind) := (blk_cell HX8.out 2).trans rfl; have p3 : w8.cell? ⟨wr.heap.size, 3, none⟩ = some (.int .i64 x.player) := (blk_cell HX8.out 3).trans rfl; have p4 : w8.cell? ⟨wr.heap.size, 4, none⟩ = some (.int .i64 x.rank) := (blk_cell HX8.out 4).trans rfl) | (at_builtin; refine wpList_app_N rfl (.tmp 43) (.tmp 45) rfl w.heap.size _ acc acc.length rfl (((owns_below HO.out HB7.out).kept HG8.out (.inr (fun e => row_ne_map (owns_below HO.out HB7.out) (HM.out.below HB7.out) e.symm))).kept (World.grownBy_alloc _ _ none) (Classical.em _)) rfl w8.heap.size x rfl (World.alloc_heap_new _ _) (by omega) (by have h1 := HB1.out.size; have h2 := HBr.out.size; have h3 := HB7.out.size; have h4 := HG8.out.size; simp; omega) ?_; intro A9 c9 w9 ho9 hg9 hl9; have HO9 := hide ho9; have HG9 := hide hg9; have HLC9 := hide hl9; clear ho9 hg9 hl9))
            go_roundw
            case rel =>
              have l1 : w.heap.size ≤ wr.heap.size := Nat.le_of_lt HLB.out
              have l7 : w.heap.size ≤ w7.heap.size := Nat.le_trans l1 HB7.out.size
              have l8 : w.heap.size ≤ w8.heap.size := Nat.le_trans l7 HG8.out.size
              have hb8 : Below w.heap.size w7 w8 := grown_below HG8.out l7 (fun g e => by have h1 := Option.some.inj e; have h2 := HBB.out; omega)
              have hb9 := grown_below HG9.out (B := w.heap.size) (by simp; omega) (fun g hg => (HO.out.lt g hg).1)
              have hb10 := ((zbT HBr.out HB7.out l1).trans hb8).trans ((zbA (zbR _ _) l8 _).trans hb9)
              have hm9 := (HM8.out.kept (World.grownBy_alloc w8 (.cells #[.int .i64 x.id, .int .i64 x.hour, .int .i64 x.kind, .int .i64 x.player, .int .i64 x.rank] 70) none) (by simp)).kept HG9.out (row_ne_map HO.out HM.out)
              exact ⟨k + 1, acc ++ [x], _, _, A9, c9, by omega, by go_num, by rw [List.length_append]; rfl, hide (HE.out.trans (E.diff_new HVN.out HNF.out)), hide ⟨m + 1, by have := HMK.out; omega, hm9⟩, hide (E.known_add HKA.out x HNF.out), hide (fun y hy => by
                rcases List.mem_append.1 hy with h | h
                · exact HV.out y h
                · simp at h; subst h; exact HVN.out), hide (List.pairwise_append.2 ⟨HP.out, by simp, fun a ha b hb => by simp at hb; subst hb; exact E.find_none HNF.out a ha⟩), hide (by rw [List.length_append]; exact HO9.out), hide hb10, by rw [List.length_append]; simp only [List.length_singleton]; omega⟩
            case measure => simp [intOf]; omega
          · obtain ⟨_, _, hzF, hkn⟩ := HBO1.out rfl
            have hf : acc.find? (fun y => y.id == x.id) = some z := by
              obtain ⟨h1, h2⟩ := HKA.out x.id i0 i1
              rw [hkn] at h1
              cases hf : acc.find? (fun y => y.id == x.id) with
              | none => rw [hf] at h1; cases h1
              | some y => rw [hzF, h2 y hf]
            have HF := hide hf
            have hne := fun W => run_neq_nt z x W
            obtain ⟨dz, hdz⟩ : ∃ dz, decide (z = x) = dz := ⟨_, rfl⟩
            rw [hdz] at hne
            have HDZ := hide hdz
            clear hf hzF hkn hdz i0 i1
            cases dz
            · have HNO := hide (show E.diffs l = none by rw [HD.out, HE.out, E.diff_two HVN.out HF.out, if_neg (of_decide_eq_false HDZ.out)]; rfl)
              go_wp2_with (go_at_call 68; refine (HCV _).out.mono ?_; rintro e w7 ⟨rfl, hb7⟩; have HB7 := hide (zbT (show Below wr.heap.size wr _ by (repeat' first | exact zbR _ _ | assumption | refine zbD ?_ | refine zbA ?_ ?_ _ | refine zbS ?_ ?_ _ | refine zbT ?_ (by assumption) ?_ | (simp; done) | (simp; omega) | omega)) hb7 (by simp; omega)); have HX7 := hide ((hb7.block wr.heap.size (by simp; omega)).trans (show (World.alloc _ _).heap[wr.heap.size]? = some (.cells #[.int .i64 x.id, .int .i64 x.hour, .int .i64 x.kind, .int .i64 x.player, .int .i64 x.rank] 70 (0, 0)) from (Below.heap_alloc _ _ _ (by first | (simp; done) | (simp; omega) | omega)).trans (World.alloc_heap_new _ _))); have HZ7 := hide ((hb7.block (wr.heap.size + 1) (by simp)).trans (show (World.alloc _ _).heap[wr.heap.size + 1]? = some (.cells #[.int .i64 z.id, .int .i64 z.hour, .int .i64 z.kind, .int .i64 z.player, .int .i64 z.rank] 70 (0, 0)) from (congrArg _ (by simp)).trans (World.alloc_heap_new _ _))); clear hb7; have y0 : w7.cell? ⟨wr.heap.size, 0, none⟩ = some (.int .i64 x.id) := (blk_cell HX7.out 0).trans rfl; have y1 : w7.cell? ⟨wr.heap.size, 1, none⟩ = some (.int .i64 x.hour) := (blk_cell HX7.out 1).trans rfl; have y2 : w7.cell? ⟨wr.heap.size, 2, none⟩ = some (.int .i64 x.kind) := (blk_cell HX7.out 2).trans rfl; have y3 : w7.cell? ⟨wr.heap.size, 3, none⟩ = some (.int .i64 x.player) := (blk_cell HX7.out 3).trans rfl; have y4 : w7.cell? ⟨wr.heap.size, 4, none⟩ = some (.int .i64 x.rank) := (blk_cell HX7.out 4).trans rfl; have z0 : w7.cell? ⟨wr.heap.size + 1, 0, none⟩ = some (.int .i64 z.id) := (blk_cell HZ7.out 0).trans rfl; have z1 : w7.cell? ⟨wr.heap.size + 1, 1, none⟩ = some (.int .i64 z.hour) := (blk_cell HZ7.out 1).trans rfl; have z2 : w7.cell? ⟨wr.heap.size + 1, 2, none⟩ = some (.int .i64 z.kind) := (blk_cell HZ7.out 2).trans rfl; have z3 : w7.cell? ⟨wr.heap.size + 1, 3, none⟩ = some (.int .i64 z.player) := (blk_cell HZ7.out 3).trans rfl; have z4 : w7.cell? ⟨wr.heap.size + 1, 4, none⟩ = some (.int .i64 z.rank) := (blk_cell HZ7.out 4).trans rfl)
              exact bodyPost_ret (v := .tuple #[.slice none 0 0, .bool false]) (by simp [results, Tryz.results49, go_sem]) rfl (DiffPost.no HNO.out (HB1.out.trans (zbT HBr.out HB7.out (Nat.le_trans HB1.out.size HBr.out.size))))
            · have HE2 := hide (HE.out.trans (by rw [E.diff_two HVN.out HF.out, if_pos (of_decide_eq_true HDZ.out)]))
              go_wp2_with (go_at_call 68; refine (HCV _).out.mono ?_; rintro e w7 ⟨rfl, hb7⟩; have HB7 := hide (zbT (show Below wr.heap.size wr _ by (repeat' first | exact zbR _ _ | assumption | refine zbD ?_ | refine zbA ?_ ?_ _ | refine zbS ?_ ?_ _ | refine zbT ?_ (by assumption) ?_ | (simp; done) | (simp; omega) | omega)) hb7 (by simp; omega)); have HX7 := hide ((hb7.block wr.heap.size (by simp; omega)).trans (show (World.alloc _ _).heap[wr.heap.size]? = some (.cells #[.int .i64 x.id, .int .i64 x.hour, .int .i64 x.kind, .int .i64 x.player, .int .i64 x.rank] 70 (0, 0)) from (Below.heap_alloc _ _ _ (by first | (simp; done) | (simp; omega) | omega)).trans (World.alloc_heap_new _ _))); have HZ7 := hide ((hb7.block (wr.heap.size + 1) (by simp)).trans (show (World.alloc _ _).heap[wr.heap.size + 1]? = some (.cells #[.int .i64 z.id, .int .i64 z.hour, .int .i64 z.kind, .int .i64 z.player, .int .i64 z.rank] 70 (0, 0)) from (congrArg _ (by simp)).trans (World.alloc_heap_new _ _))); clear hb7; have y0 : w7.cell? ⟨wr.heap.size, 0, none⟩ = some (.int .i64 x.id) := (blk_cell HX7.out 0).trans rfl; have y1 : w7.cell? ⟨wr.heap.size, 1, none⟩ = some (.int .i64 x.hour) := (blk_cell HX7.out 1).trans rfl; have y2 : w7.cell? ⟨wr.heap.size, 2, none⟩ = some (.int .i64 x.kind) := (blk_cell HX7.out 2).trans rfl; have y3 : w7.cell? ⟨wr.heap.size, 3, none⟩ = some (.int .i64 x.player) := (blk_cell HX7.out 3).trans rfl; have y4 : w7.cell? ⟨wr.heap.size, 4, none⟩ = some (.int .i64 x.rank) := (blk_cell HX7.out 4).trans rfl; have z0 : w7.cell? ⟨wr.heap.size + 1, 0, none⟩ = some (.int .i64 z.id) := (blk_cell HZ7.out 0).trans rfl; have z1 : w7.cell? ⟨wr.heap.size + 1, 1, none⟩ = some (.int .i64 z.hour) := (blk_cell HZ7.out 1).trans rfl; have z2 : w7.cell? ⟨wr.heap.size + 1, 2, none⟩ = some (.int .i64 z.kind) := (blk_cell HZ7.out 2).trans rfl; have z3 : w7.cell? ⟨wr.heap.size + 1, 3, none⟩ = some (.int .i64 z.player) := (blk_cell HZ7.out 3).trans rfl; have z4 : w7.cell? ⟨wr.heap.size + 1, 4, none⟩ = some (.int .i64 z.rank) := (blk_cell HZ7.out 4).trans rfl)
              go_roundw
              case rel => exact ⟨k + 1, acc, F, kn, A1, c1, by omega, by go_num, rfl, HE2, hide ⟨m, by have := HMK.out; omega, HM.out.below HB7.out⟩, HKA, HV, HP, hide (owns_below HO.out HB7.out), hide (zbT HBr.out HB7.out (Nat.le_trans HB1.out.size HBr.out.size)), by omega⟩
              case measure => simp [intOf]; omega
      · have hkn : k = n := by omega
        subst hkn
        have hdr : l.drop k = [] := List.drop_of_length_le (by have := HN.out; omega)
        have HDF := hide (show E.diffs l = some (acc.mergeSort E.leN) by rw [HD.out, HE.out, hdr]; rfl)
        clear hdr
        go_wp2_with (go_at_call 69; refine (sortN_any w.heap.size A1 acc.length c1 acc wr HO.out rfl HP.out (by omega)).mono ?_; rintro e w9 ⟨rfl, ho9, hg9⟩; have HO9 := hide ho9; have HG9 := hide hg9; clear ho9 hg9)
        refine bodyPost_ret (v := .tuple #[.slice A1 acc.length c1, .bool true]) (by simp [results, Tryz.results49, go_sem]) rfl ?_
        unfold DiffPost
        rw [HDF.out]
        have hl := List.length_mergeSort (le := E.leN) acc
        refine ⟨⟨A1, c1, by rw [hl], by rw [hl]; exact HO9.out⟩, HB1.out.trans (HBr.out.trans (grown_below HG9.out (Nat.le_trans HB1.out.size HBr.out.size) (fun g hg => (HO.out.lt g hg).1)))⟩

end Go.Proofs.YtobjahlmjcnfoaaGreat
