/-
  Part of a claim's texts: contracts of the program's functions and the plain functions that they compute, in build order.
-/
import Derived.Test.YtgnobonhohfofaaZB01
import Derived.Test.YtgnobonhohfofaaZB02
import Derived.Test.YtgnobonhohfofaaZB03
namespace Go.Proofs.Ytgnobonhohfofaa
open Go.RowKit
attribute [local go_sem ↓] Go.wp_at_zero Go.wp_at_succ

theorem refcen_results {Z : World} {g3 g4 : Nat} {m a b c d e : Int} {c3 c4 tmps : Array Value} (h3 : Z.heap[g3]? = some (.cells c3 24 (0, 0))) (h4 : Z.heap[g4]? = some (.cells c4 24 (0, 0)))
    (e3 : c3 = #[.int .i64 a, .int .i64 b]) (e4 : c4 = #[.int .i64 c, .int .i64 d]) (t2 : tmps[2]? = some (.int .i64 m)) (t3 : tmps[3]? = some (.pointer (some ⟨g3, 0, none⟩))) (t4 : tmps[4]? = some (.pointer (some ⟨g4, 0, none⟩))) (t5 : tmps[5]? = some (.int .i64 e)) :
    (results Try.f38 tmps).run Try.prog Z = .ok (.tuple #[.int .i64 m, .agg #[.int .i64 a, .int .i64 b], .agg #[.int .i64 c, .int .i64 d], .int .i64 e]) Z := by
  subst e3 e4
  have k1 : Z.cell? ⟨g3, 0, none⟩ = some (.int .i64 a) := blk_cell h3 0
  have k2 : Z.cell? ⟨g3, 1, none⟩ = some (.int .i64 b) := blk_cell h3 1
  have k3 : Z.cell? ⟨g4, 0, none⟩ = some (.int .i64 c) := blk_cell h4 0
  have k4 : Z.cell? ⟨g4, 1, none⟩ = some (.int .i64 d) := blk_cell h4 1
  simp [results, Try.results38, go_sem, t2, t3, t4, t5, k1, k2, k3, k4]

set_option maxRecDepth 100000 in
set_option maxHeartbeats 6400000 in
theorem refCentres_any (v : L.Vw) (A : Option Addr) (n c : Nat) (w : World) (hn : v.ss.length = n) (hr : RdS w w.heap.size A v.ss) :
    Calls Try.prog 38 #[.agg #[.int .i64 v.size, .slice A n c, .int .i64 v.wrong, .int .i64 v.hxl, .int .i64 v.hxh, .int .i64 v.hyl, .int .i64 v.hyh]] w fun e w' => e = .returned (.tuple #[.int .i64 (L.cenN v), .agg #[.int .i64 (L.cenX v).1, .int .i64 (L.cenX v).2], .agg #[.int .i64 (L.cenY v).1, .int .i64 (L.cenY v).2], .int .i64 (L.cenE v)]) ∧ Below w.heap.size w w' := by
  have HN := hide hn
  have HR := hide hr
  clear hn hr
  go_enter Try.func38, Try.ntmps38
  go_upto_region 1 with fail
  obtain ⟨W0, hW0⟩ : ∃ W0, ((w.alloc (.cells #[.int .i64 v.size, .slice A n c, .int .i64 v.wrong, .int .i64 v.hxl, .int .i64 v.hxh, .int .i64 v.hyl, .int .i64 v.hyh] 26)).alloc (.cells #[.int .i64 0, .int .i64 0] 24)).alloc (.cells #[.int .i64 0, .int .i64 0] 24) = W0 := ⟨_, rfl⟩
  have gp : W0.heap[w.heap.size]? = some (.cells #[.int .i64 v.size, .slice A n c, .int .i64 v.wrong, .int .i64 v.hxl, .int .i64 v.hxh, .int .i64 v.hyl, .int .i64 v.hyh] 26 (0, 0)) := by
    rw [← hW0]; exact (Below.heap_alloc _ _ _ (by first | (simp; done) | (simp; omega) | omega)).trans ((Below.heap_alloc _ _ _ (by first | (simp; done) | (simp; omega) | omega)).trans (World.alloc_heap_new _ _))
  have g3 : W0.heap[w.heap.size + 1]? = some (.cells #[.int .i64 0, .int .i64 0] 24 (0, 0)) := by
    rw [← hW0]; exact (Below.heap_alloc _ _ _ (by first | (simp; done) | (simp; omega) | omega)).trans ((congrArg _ (by simp)).trans (World.alloc_heap_new _ _))
  have g4 : W0.heap[w.heap.size + 1 + 1]? = some (.cells #[.int .i64 0, .int .i64 0] 24 (0, 0)) := by
    rw [← hW0]; exact (congrArg _ (by simp)).trans (World.alloc_heap_new _ _)
  have gs : W0.heap.size = w.heap.size + 1 + 1 + 1 := by rw [← hW0]; simp
  have gB : Below w.heap.size w W0 := by rw [← hW0]; (repeat' first | exact zbR _ _ | assumption | refine zbD ?_ | refine zbA ?_ ?_ _ | refine zbS ?_ ?_ _ | refine zbT ?_ (by assumption) ?_ | (simp; done) | (simp; omega) | omega)
  rw [hW0]
  clear hW0
  obtain ⟨p, hp⟩ : ∃ p, w.heap.size = p := ⟨_, rfl⟩
  obtain ⟨q, hq⟩ : ∃ q, w.heap.size + 1 = q := ⟨_, rfl⟩
  obtain ⟨r, hr⟩ : ∃ r, w.heap.size + 1 + 1 = r := ⟨_, rfl⟩
  rw [hr, hq, hp]
  rw [hp] at gp
  rw [hq] at g3
  rw [hr] at g4
  have lp : p < W0.heap.size := by omega
  have lq : q < W0.heap.size := by omega
  have lr : r < W0.heap.size := by omega
  have hqr : q ≠ r := by omega
  have hpq : w.heap.size ≤ q := by omega
  have hpr : w.heap.size ≤ r := by omega
  have HR0 := hide ((HR.out.below gB).mono gB.size)
  have GB := hide gB
  have GP := hide gp
  have G3 := hide g3
  have G4 := hide g4
  have cp0 := (blk_cell gp 0).trans rfl; have cp1 := (blk_cell gp 1).trans rfl; have cp2 := (blk_cell gp 2).trans rfl; have cp3 := (blk_cell gp 3).trans rfl; have cp4 := (blk_cell gp 4).trans rfl; have cp5 := (blk_cell gp 5).trans rfl; have cp6 := (blk_cell gp 6).trans rfl
  clear gp g3 g4 gB gs hp hq hr
  rcases L.checkE_cases v with h | h
  · have hv := L.checkE_ok h
    have HV := hide hv
    have H := hide h
    clear h
    obtain ⟨N, hN⟩ : ∃ N : Nat, v.size = (N : Int) := ⟨v.size.toNat, (Int.toNat_of_nonneg hv.s0).symm⟩
    have HSz := hide hN
    obtain ⟨tc, htc⟩ : ∃ tc, (L.tcents v 0).map L.mk0 = tc := ⟨_, rfl⟩
    have HTC := hide htc
    have hlen : tc.length ≤ 1681 := by rw [← htc, List.length_map]; exact L.tcents_length hv 0
    have E1 := hide (show L.cenN v = (tc.length : Int) by unfold L.cenN; rw [if_pos H.out, ← htc, List.length_map])
    by_cases h0 : L.tcents v 0 = []
    · have htc0 : tc = [] := by rw [← htc, h0]; rfl
      have E2 := hide (show L.cenX v = (0, 0) by unfold L.cenX; rw [if_pos H.out, h0]; rfl)
      have E3 := hide (show L.cenY v = (0, 0) by unfold L.cenY; rw [if_pos H.out, h0]; rfl)
      have E4 := hide (show L.cenE v = 3 by unfold L.cenE; rw [if_pos H.out, if_pos h0])
      subst htc0
      clear hv hN htc h0
      go_wp2_with (first | (go_at_call 23; refine (RefCheck_any v A n c _ HN.out ((HR0.out.below (by (repeat' first | exact zbR _ _ | assumption | refine zbD ?_ | refine zbA ?_ ?_ _ | refine zbS ?_ ?_ _ | refine zbT ?_ (by assumption) ?_ | (simp; done) | (simp; omega) | omega))).mono (by first | (simp; done) | (simp; omega) | omega))).mono ?_; rintro e w2 ⟨rfl, hb2⟩; rw [H.out]; obtain ⟨hc2, hf2⟩ := bcell hb2; have q2 := hb2.size; have z2_p : p < w2.heap.size := (by omega)) | (go_at_call 64; refine (refCents_any v A n c N _ HV.out.w HSz.out HN.out ((HR0.out.below (by (repeat' first | exact zbR _ _ | assumption | refine zbD ?_ | refine zbA ?_ ?_ _ | refine zbS ?_ ?_ _ | refine zbT ?_ (by assumption) ?_ | (simp; done) | (simp; omega) | omega))).mono (by first | (simp; done) | (simp; omega) | omega))).mono ?_; rintro e w3 ⟨svc, cc, rfl, hownc, hb3⟩; rw [HTC.out] at hownc ⊢; have k3 := (hb3.block q (by omega)).trans ((hb2.block q lq).trans G3.out); have k4 := (hb3.block r (by omega)).trans ((hb2.block r lr).trans G4.out); have c3 := (blk_cell k3 0).trans rfl; have c4 := (blk_cell k3 1).trans rfl; have c5 := (blk_cell k4 0).trans rfl; have c6 := (blk_cell k4 1).trans rfl; have f3 := blk_frozen k3 0; have f4 := blk_frozen k3 1; have f5 := blk_frozen k4 0; have f6 := blk_frozen k4 1; have K3 := hide k3; have K4 := hide k4; have q3 := hb3.size; have z3q : q < w3.heap.size := (by omega); have z3r : r < w3.heap.size := (by omega); clear k3 k4))
      rw [E1.out, E2.out, E3.out, E4.out]
      refine bodyPost_ret (v := .tuple #[.int .i64 (([] : List L.Mk).length : Int), .agg #[.int .i64 0, .int .i64 0], .agg #[.int .i64 0, .int .i64 0], .int .i64 3]) (refcen_results (blk_other (blk_other (blk_set (blk_set K3.out 0 (.int .i64 0)) 1 (.int .i64 0)) hqr 0 (.int .i64 0)) hqr 1 (.int .i64 0)) (blk_set (blk_set (blk_other (blk_other K4.out (Ne.symm hqr) 0 (.int .i64 0)) (Ne.symm hqr) 1 (.int .i64 0)) 0 (.int .i64 0)) 1 (.int .i64 0)) rfl rfl rfl rfl rfl rfl) rfl ?_
      exact ⟨rfl, zbS (zbS (zbS (zbS ((GB.out.trans (hb2.mono GB.out.size)).trans (hb3.mono (by have := GB.out.size; omega))) hpq _) hpq _) hpr _) hpr _⟩
    · have E2 := hide (show L.cenX v = L.spTo (·.x) tc tc.length by unfold L.cenX; rw [if_pos H.out, ← htc, L.spTo_all (g := (·.1)) (fun _ => rfl) _ h0])
      have E3 := hide (show L.cenY v = L.spTo (·.y) tc tc.length by unfold L.cenY; rw [if_pos H.out, ← htc, L.spTo_all (g := (·.2)) (fun _ => rfl) _ h0])
      have E4 := hide (show L.cenE v = 0 by unfold L.cenE; rw [if_pos H.out, if_neg h0])
      have hpos : 0 < tc.length := by
        rw [← htc, List.length_map]
        exact List.length_pos_iff.2 h0
      have dpos : ((tc.length : Int) == 0) = false := by simp only [beq_eq_false_iff_ne, ne_eq]; omega
      obtain ⟨m0, hm0⟩ : ∃ m0, tc[0]? = some m0 := ⟨_, List.getElem?_eq_getElem hpos⟩
      have SX := hide (L.spTo_zero (f := (·.x)) hm0)
      have SY := hide (L.spTo_zero (f := (·.y)) hm0)
      have HXY := hide (show ∀ m ∈ tc, 0 ≤ m.x ∧ m.x ≤ 40 ∧ 0 ≤ m.y ∧ m.y ≤ 40 by
        intro m hm
        rw [← htc] at hm
        obtain ⟨d, hd, rfl⟩ := List.mem_map.1 hm
        obtain ⟨⟨a1, a2, a3, a4⟩, _⟩ := (L.mem_tcents hv).1 hd
        have := hv.s1
        exact ⟨a1, by show d.1 ≤ 40; omega, a3, by show d.2 ≤ 40; omega⟩)
      clear hv hN htc h0
      go_upto_region 6 with (first | (go_at_call 23; refine (RefCheck_any v A n c _ HN.out ((HR0.out.below (by (repeat' first | exact zbR _ _ | assumption | refine zbD ?_ | refine zbA ?_ ?_ _ | refine zbS ?_ ?_ _ | refine zbT ?_ (by assumption) ?_ | (simp; done) | (simp; omega) | omega))).mono (by first | (simp; done) | (simp; omega) | omega))).mono ?_; rintro e w2 ⟨rfl, hb2⟩; rw [H.out]; obtain ⟨hc2, hf2⟩ := bcell hb2; have q2 := hb2.size; have z2_p : p < w2.heap.size := (by omega)) | (go_at_call 64; refine (refCents_any v A n c N _ HV.out.w HSz.out HN.out ((HR0.out.below (by (repeat' first | exact zbR _ _ | assumption | refine zbD ?_ | refine zbA ?_ ?_ _ | refine zbS ?_ ?_ _ | refine zbT ?_ (by assumption) ?_ | (simp; done) | (simp; omega) | omega))).mono (by first | (simp; done) | (simp; omega) | omega))).mono ?_; rintro e w3 ⟨svc, cc, rfl, hownc, hb3⟩; rw [HTC.out] at hownc ⊢))
      obtain ⟨g, cap, e, hbg, hgl⟩ := hownc.form (by omega)
      have e' : svc = some ⟨g, 0, none⟩ ∧ cc = cap := by
        simp only [Value.slice.injEq] at e
        exact ⟨e.1, e.2.2⟩
      obtain ⟨rfl, rfl⟩ := e'
      have q3 := hb3.size
      have k3 := (hb3.block q (by omega)).trans ((hb2.block q lq).trans G3.out)
      have k4 := (hb3.block r (by omega)).trans ((hb2.block r lr).trans G4.out)
      have hgq : g ≠ q := by omega
      have hgr : g ≠ r := by omega
      obtain ⟨m0x, m0y, _, _⟩ := flatM_at hm0
      have s0 := (hownc.cellAt (0 * 4) (by omega)).trans m0x
      have s1 := (hownc.cellAt (0 * 4 + 1) (by omega)).trans m0y
      simp only [Nat.zero_mul, Nat.zero_add] at s0 s1
      have hS : (fun w' => g < w'.heap.size ∧ q < w'.heap.size ∧ r < w'.heap.size ∧ w'.frozen? ⟨q, 0, none⟩ = false ∧ w'.frozen? ⟨q, 1, none⟩ = false ∧ w'.frozen? ⟨r, 0, none⟩ = false ∧ w'.frozen? ⟨r, 1, none⟩ = false ∧ w'.cell? ⟨g, 0, none⟩ = some (.int .i64 m0.x) ∧ w'.cell? ⟨g, 1, none⟩ = some (.int .i64 m0.y) ∧ w'.cell? ⟨r, 0, none⟩ = some (.int .i64 0) ∧ w'.cell? ⟨r, 1, none⟩ = some (.int .i64 0)) w3 := ⟨hgl, by omega, by omega, blk_frozen k3 0, blk_frozen k3 1, blk_frozen k4 0, blk_frozen k4 1, s0, s1, (blk_cell k4 0).trans rfl, (blk_cell k4 1).trans rfl⟩
      have cq0 := (blk_cell k3 0).trans rfl
      have cq1 := (blk_cell k3 1).trans rfl
      have fq0 := blk_frozen k3 0
      have fq1 := blk_frozen k3 1
      have HC := hide hownc
      have HBW := hide ((GB.out.trans (hb2.mono GB.out.size)).trans (hb3.mono (by have := GB.out.size; omega)))
      have K3 := hide k3
      have K4 := hide k4
      have lq3 : q < w3.heap.size := by omega
      have lr3 : r < w3.heap.size := by omega
      clear e m0x m0y s0 s1 k3 k4 cp0 cp1 cp2 cp3 cp4 cp5 cp6 hc2 hf2 hb2 hb3 hownc q2 q3 z2_p hm0 dpos
      (try dsimp only at hS)
      refine wp_region_T_drew (S := (fun w' => g < w'.heap.size ∧ q < w'.heap.size ∧ r < w'.heap.size ∧ w'.frozen? ⟨q, 0, none⟩ = false ∧ w'.frozen? ⟨q, 1, none⟩ = false ∧ w'.frozen? ⟨r, 0, none⟩ = false ∧ w'.frozen? ⟨r, 1, none⟩ = false ∧ w'.cell? ⟨g, 0, none⟩ = some (.int .i64 m0.x) ∧ w'.cell? ⟨g, 1, none⟩ = some (.int .i64 m0.y) ∧ w'.cell? ⟨r, 0, none⟩ = some (.int .i64 0) ∧ w'.cell? ⟨r, 1, none⟩ = some (.int .i64 0))) 19 (by kernel_rfl) ?_ (fun hHeld0 => ?_)
      · (try dsimp only); (first | (go_keep; done) | (go_split_ands; (repeat' apply And.intro) <;> first | (go_keep; done) | (simp [*, zcA, zcP, zfA, zfP]; done) | (simp [zcA, zcP] <;> rfl) | (simp [*, zsS, zsO, zsA]; done) | ((first | refine (hc _ _ ?_).trans ?_ | refine (hf _ _ ?_).trans ?_) <;> first | assumption | (simp; done) | (simp; omega) | omega | (go_keep; done) | (simp [*, zcA, zcP, zfA, zfP]; done) | (simp [zcA, zcP]; rfl)) | (repeat' first | exact zbR _ _ | assumption | refine zbD ?_ | refine zbA ?_ ?_ _ | refine zbS ?_ ?_ _ | refine zbT ?_ (by assumption) ?_ | (simp; done) | (simp; omega) | omega)))
      refine takeT (v := ?_) 0 rfl (by kernel_rfl) (by kernel_rfl) (by kernel_rfl) (by kernel_rfl) (fun _ _ _ h => h) (Or.inl ⟨by rfl, ?_⟩) (by assumption) ?_; rotate_left
      · (intro w hSw; (try dsimp only at hSw); go_simp; try with_reducible rfl)
      try simp only [Act.put, zl, z0, z1]
      refine takeT (v := ?_) 1 rfl (by kernel_rfl) (by kernel_rfl) (by kernel_rfl) (by kernel_rfl) (fun _ _ _ h => h) (Or.inl ⟨by rfl, ?_⟩) (by assumption) ?_; rotate_left
      · (intro w hSw; (try dsimp only at hSw); go_simp; try with_reducible rfl)
      try simp only [Act.put, zl, z0, z1]
      refine takeT (v := ?_) 2 rfl (by kernel_rfl) (by kernel_rfl) (by kernel_rfl) (by kernel_rfl) (fun _ _ _ h => h) (Or.inl ⟨by rfl, ?_⟩) (by assumption) ?_; rotate_left
      · (intro w hSw; (try dsimp only at hSw); go_simp; try with_reducible rfl)
      try simp only [Act.put, zl, z0, z1]
      refine takeT (v := ?_) 3 rfl (by kernel_rfl) (by kernel_rfl) (by kernel_rfl) (by kernel_rfl) (fun _ _ _ h => h) (Or.inl ⟨by rfl, ?_⟩) (by assumption) ?_; rotate_left
      · (intro w hSw; (try dsimp only at hSw); go_simp; try with_reducible rfl)
      try simp only [Act.put, zl, z0, z1]
      refine takeT (v := ?_) 4 rfl (by kernel_rfl) (by kernel_rfl) (by kernel_rfl) (by kernel_rfl) (fun _ _ _ h => h) (Or.inl ⟨by rfl, ?_⟩) (by assumption) ?_; rotate_left
      · (intro w hSw; (try dsimp only at hSw); go_simp; try with_reducible rfl)
      try simp only [Act.put, zl, z0, z1]
      refine takeT (v := ?_) 5 rfl (by kernel_rfl) (by kernel_rfl) (by kernel_rfl) (by kernel_rfl) (fun _ _ _ h => h) (Or.inl ⟨by rfl, ?_⟩) (by assumption) ?_; rotate_left
      · (intro w hSw; (try dsimp only at hSw); go_simp; try with_reducible rfl)
      try simp only [Act.put, zl, z0, z1]
      refine takeT (v := ?_) 6 rfl (by kernel_rfl) (by kernel_rfl) (by kernel_rfl) (by kernel_rfl) (fun _ _ _ h => h) (Or.inl ⟨by rfl, ?_⟩) (by assumption) ?_; rotate_left
      · (intro w hSw; (try dsimp only at hSw); go_simp; try with_reducible rfl)
      try simp only [Act.put, zl, z0, z1]
      refine takeT (v := ?_) 7 rfl (by kernel_rfl) (by kernel_rfl) (by kernel_rfl) (by kernel_rfl) (fun _ _ _ h => h) (Or.inl ⟨by rfl, ?_⟩) (by assumption) ?_; rotate_left
      · (intro w hSw; (try dsimp only at hSw); go_simp; try with_reducible rfl)
      try simp only [Act.put, zl, z0, z1]
      refine takeT (v := ?_) 8 rfl (by kernel_rfl) (by kernel_rfl) (by kernel_rfl) (by kernel_rfl) (fun _ _ _ h => h) (Or.inl ⟨by rfl, ?_⟩) (by assumption) ?_; rotate_left
      · (intro w hSw; (try dsimp only at hSw); go_simp; try with_reducible rfl)
      try simp only [Act.put, zl, z0, z1]
      refine takeT (v := ?_) 9 rfl (by kernel_rfl) (by kernel_rfl) (by kernel_rfl) (by kernel_rfl) (fun _ _ _ h => h) (Or.inl ⟨by rfl, ?_⟩) (by assumption) ?_; rotate_left
      · (intro w hSw; (try dsimp only at hSw); go_simp; try with_reducible rfl)
      try simp only [Act.put, zl, z0, z1]
      refine takeT (v := ?_) 10 rfl (by kernel_rfl) (by kernel_rfl) (by kernel_rfl) (by kernel_rfl) (fun _ _ _ h => h) (Or.inl ⟨by rfl, ?_⟩) (by assumption) ?_; rotate_left
      · (intro w hSw; (try dsimp only at hSw); go_simp; try with_reducible rfl)
      try simp only [Act.put, zl, z0, z1]
      refine takeT (v := ?_) 11 rfl (by kernel_rfl) (by kernel_rfl) (by kernel_rfl) (by kernel_rfl) (fun _ _ _ h => h) (Or.inl ⟨by rfl, ?_⟩) (by assumption) ?_; rotate_left
      · (intro w hSw; (try dsimp only at hSw); go_simp; try with_reducible rfl)
      try simp only [Act.put, zl, z0, z1]
      refine takeT (v := ?_) 12 rfl (by kernel_rfl) (by kernel_rfl) (by kernel_rfl) (by kernel_rfl) (fun _ _ _ h => h) (Or.inl ⟨by rfl, ?_⟩) (by assumption) ?_; rotate_left
      · (intro w hSw; (try dsimp only at hSw); go_simp; try with_reducible rfl)
      try simp only [Act.put, zl, z0, z1]
      refine takeT (v := ?_) 13 rfl (by kernel_rfl) (by kernel_rfl) (by kernel_rfl) (by kernel_rfl) (fun _ _ _ h => h) (Or.inl ⟨by rfl, ?_⟩) (by assumption) ?_; rotate_left
      · (intro w hSw; (try dsimp only at hSw); go_simp; try with_reducible rfl)
      try simp only [Act.put, zl, z0, z1]
      refine takeT (v := ?_) 14 rfl (by kernel_rfl) (by kernel_rfl) (by kernel_rfl) (by kernel_rfl) (fun _ _ _ h => h) (Or.inl ⟨by rfl, ?_⟩) (by assumption) ?_; rotate_left
      · (intro w hSw; (try dsimp only at hSw); go_simp; try with_reducible rfl)
      try simp only [Act.put, zl, z0, z1]
      refine takeT (v := ?_) 15 rfl (by kernel_rfl) (by kernel_rfl) (by kernel_rfl) (by kernel_rfl) (fun _ _ _ h => h) (Or.inl ⟨by rfl, ?_⟩) (by assumption) ?_; rotate_left
      · (intro w hSw; (try dsimp only at hSw); go_simp; try with_reducible rfl)
      try simp only [Act.put, zl, z0, z1]
      refine takeT (v := ?_) 16 rfl (by kernel_rfl) (by kernel_rfl) (by kernel_rfl) (by kernel_rfl) (fun _ _ _ h => h) (Or.inl ⟨by rfl, ?_⟩) (by assumption) ?_; rotate_left
      · (intro w hSw; (try dsimp only at hSw); go_simp; try with_reducible rfl)
      try simp only [Act.put, zl, z0, z1]
      refine takeT (v := ?_) 17 rfl (by kernel_rfl) (by kernel_rfl) (by kernel_rfl) (by kernel_rfl) (fun _ _ _ h => h) (Or.inl ⟨by rfl, ?_⟩) (by assumption) ?_; rotate_left
      · (intro w hSw; (try dsimp only at hSw); go_simp; try with_reducible rfl)
      try simp only [Act.put, zl, z0, z1]
      refine wpAnyT_ready (rs := [18]) (by kernel_rfl) (by simp) ?_
      refine consT 18 rfl (fun K hK => ?_) AllReadyT.nil
      go_simp
      refine hK.out _ _ ?_ (fun hHeld1 => ?_)
      · (try dsimp only); (first | (go_keep; done) | (go_split_ands; (repeat' apply And.intro) <;> first | (go_keep; done) | (simp [*, zcA, zcP, zfA, zfP]; done) | (simp [zcA, zcP] <;> rfl) | (simp [*, zsS, zsO, zsA]; done) | ((first | refine (hc _ _ ?_).trans ?_ | refine (hf _ _ ?_).trans ?_) <;> first | assumption | (simp; done) | (simp; omega) | omega | (go_keep; done) | (simp [*, zcA, zcP, zfA, zfP]; done) | (simp [zcA, zcP]; rfl)) | (repeat' first | exact zbR _ _ | assumption | refine zbD ?_ | refine zbA ?_ ?_ _ | refine zbS ?_ ?_ _ | refine zbT ?_ (by assumption) ?_ | (simp; done) | (simp; omega) | omega)))
      clear hK K hHeld0
      try simp only [Act.put, zl, z0, z1]
      refine wpAnyT_ready (rs := [19]) (by kernel_rfl) (by simp) ?_
      refine lastT rfl (fun K hK => ?_)
      (try dsimp only at hHeld1)
      go_simp
      refine hK.out _ _ ?_
      clear hK K
      try simp only [Act.put, zl, z0, z1]
      refine wpAnyT_done (by kernel_rfl) ?_ _
      clear hHeld1 hS
      go_upto_region 8 with fail
      obtain ⟨W1, hW1⟩ : ∃ W1, World.drew (World.setCell (World.setCell (World.setCell (World.setCell w3 ⟨q, 0, none⟩ (.int .i64 m0.x)) ⟨q, 1, none⟩ (.int .i64 m0.x)) ⟨r, 0, none⟩ (.int .i64 m0.y)) ⟨r, 1, none⟩ (.int .i64 m0.y)) = W1 := ⟨_, rfl⟩
      have k1 : W1.heap[q]? = some (.cells #[.int .i64 m0.x, .int .i64 m0.x] 24 (0, 0)) := by rw [← hW1]; exact blk_other (blk_other (blk_set (blk_set (drew_blk K3.out) 0 _) 1 _) hqr 0 _) hqr 1 _
      have k2 : W1.heap[r]? = some (.cells #[.int .i64 m0.y, .int .i64 m0.y] 24 (0, 0)) := by rw [← hW1]; exact blk_set (blk_set (blk_other (blk_other (drew_blk K4.out) (Ne.symm hqr) 0 _) (Ne.symm hqr) 1 _) 0 _) 1 _
      have kK : Keeps (fun y => y ≠ q ∧ y ≠ r) w3 W1 := by rw [← hW1]; exact (((((Keeps.refl _ w3).st (fun h => h.1 rfl)).st (fun h => h.1 rfl)).st (fun h => h.2 rfl)).st (fun h => h.2 rfl)).trans (Keeps.of_below (zbD (zbR _ _)))
      rw [hW1]
      clear hW1 cq0 cq1 fq0 fq1
      have HC0 := HC.out
      go_loopw [7] (fun t wr => ∃ i : Nat, i ≤ tc.length ∧ t = .int .i64 i ∧ Hid (wr.heap[q]? = some (.cells #[.int .i64 (L.spTo (·.x) tc i).1, .int .i64 (L.spTo (·.x) tc i).2] 24 (0, 0))) ∧ Hid (wr.heap[r]? = some (.cells #[.int .i64 (L.spTo (·.y) tc i).1, .int .i64 (L.spTo (·.y) tc i).2] 24 (0, 0))) ∧ Keeps (fun y => y ≠ q ∧ y ≠ r) w3 wr) (fun t _ => tc.length - (intOf t).toNat)
      case atStart => exact ⟨0, by omega, rfl, hide (by rw [SX.out]; exact k1), hide (by rw [SY.out]; exact k2), kK⟩
      case round =>
        clear k1 k2 kK
        obtain ⟨i, hi, rfl, HQ, HRB, hK⟩ := hrel
        have qK := hK.rest.size
        have hi0 : (0 : Int) ≤ (i : Int) := by omega
        have lqr : q < wr.heap.size := by omega
        have lrr : r < wr.heap.size := by omega
        obtain ⟨a1, ha1⟩ : ∃ a1, (L.spTo (·.x) tc i).1 = a1 := ⟨_, rfl⟩
        obtain ⟨a2, ha2⟩ : ∃ a2, (L.spTo (·.x) tc i).2 = a2 := ⟨_, rfl⟩
        obtain ⟨b1, hb1⟩ : ∃ b1, (L.spTo (·.y) tc i).1 = b1 := ⟨_, rfl⟩
        obtain ⟨b2, hb2⟩ : ∃ b2, (L.spTo (·.y) tc i).2 = b2 := ⟨_, rfl⟩
        rw [ha1, ha2] at HQ
        rw [hb1, hb2] at HRB
        have k1 := HQ.out
        have k2 := HRB.out
        by_cases hlt : i < tc.length
        · obtain ⟨cm, hcm⟩ : ∃ cm, tc[i]? = some cm := ⟨_, List.getElem?_eq_getElem hlt⟩
          have hlt' : (i : Int) < (tc.length : Int) := by omega
          obtain ⟨x0, x1, y0, y1⟩ := HXY.out cm (List.mem_of_getElem? hcm)
          have NX := hide (show L.spTo (·.x) tc (i + 1) = (min a1 cm.x, max a2 cm.x) by rw [L.spTo_next hcm, ha1, ha2])
          have NY := hide (show L.spTo (·.y) tc (i + 1) = (min b1 cm.y, max b2 cm.y) by rw [L.spTo_next hcm, hb1, hb2])
          obtain ⟨m0x, m0y, _, _⟩ := flatM_at hcm
          have s0 := (hK.cell (b := g) (o := i * 4) ⟨hgq, hgr⟩ hgl).trans ((HC0.cellAt (i * 4) (by omega)).trans m0x)
          have s1 := (hK.cell (b := g) (o := i * 4 + 1) ⟨hgq, hgr⟩ hgl).trans ((HC0.cellAt (i * 4 + 1) (by omega)).trans m0y)
          have lgr : g < wr.heap.size := by omega
          clear m0x m0y hcm ha1 ha2 hb1 hb2
          go_upto_region 10 with fail
          have hS : (fun w' => g < w'.heap.size ∧ q < w'.heap.size ∧ w'.frozen? ⟨q, 0, none⟩ = false ∧ w'.frozen? ⟨q, 1, none⟩ = false ∧ w'.cell? ⟨q, 0, none⟩ = some (.int .i64 a1) ∧ w'.cell? ⟨q, 1, none⟩ = some (.int .i64 a2) ∧ w'.cell? ⟨g, i * 4, none⟩ = some (.int .i64 cm.x)) wr := ⟨lgr, lqr, blk_frozen k1 0, blk_frozen k1 1, (blk_cell k1 0).trans rfl, (blk_cell k1 1).trans rfl, s0⟩
          clear k1
          have HK2 := hide k2
          clear k2
          (try dsimp only at hS)
          refine wp_region_T_drew (S := (fun w' => g < w'.heap.size ∧ q < w'.heap.size ∧ w'.frozen? ⟨q, 0, none⟩ = false ∧ w'.frozen? ⟨q, 1, none⟩ = false ∧ w'.cell? ⟨q, 0, none⟩ = some (.int .i64 a1) ∧ w'.cell? ⟨q, 1, none⟩ = some (.int .i64 a2) ∧ w'.cell? ⟨g, i * 4, none⟩ = some (.int .i64 cm.x))) 17 (by kernel_rfl) ?_ (fun hHeld0 => ?_)
          · (try dsimp only); (first | (go_keep; done) | (go_split_ands; (repeat' apply And.intro) <;> first | (go_keep; done) | (simp [*, zcA, zcP, zfA, zfP]; done) | (simp [zcA, zcP] <;> rfl) | (simp [*, zsS, zsO, zsA]; done) | ((first | refine (hc _ _ ?_).trans ?_ | refine (hf _ _ ?_).trans ?_) <;> first | assumption | (simp; done) | (simp; omega) | omega | (go_keep; done) | (simp [*, zcA, zcP, zfA, zfP]; done) | (simp [zcA, zcP]; rfl)) | (repeat' first | exact zbR _ _ | assumption | refine zbD ?_ | refine zbA ?_ ?_ _ | refine zbS ?_ ?_ _ | refine zbT ?_ (by assumption) ?_ | (simp; done) | (simp; omega) | omega)))
          refine takeT (v := ?_) 0 rfl (by kernel_rfl) (by kernel_rfl) (by kernel_rfl) (by kernel_rfl) (fun _ _ _ h => h) (Or.inl ⟨by rfl, ?_⟩) (by assumption) ?_; rotate_left
          · (intro w hSw; (try dsimp only at hSw); go_simp; try with_reducible rfl)
          try simp only [Act.put, zl, z0, z1]
          refine takeT (v := ?_) 1 rfl (by kernel_rfl) (by kernel_rfl) (by kernel_rfl) (by kernel_rfl) (fun _ _ _ h => h) (Or.inl ⟨by rfl, ?_⟩) (by assumption) ?_; rotate_left
          · (intro w hSw; (try dsimp only at hSw); go_simp; try with_reducible rfl)
          try simp only [Act.put, zl, z0, z1]
          refine takeT (v := ?_) 2 rfl (by kernel_rfl) (by kernel_rfl) (by kernel_rfl) (by kernel_rfl) (fun _ _ _ h => h) (Or.inl ⟨by rfl, ?_⟩) (by assumption) ?_; rotate_left
          · (intro w hSw; (try dsimp only at hSw); go_simp; try with_reducible rfl)
          try simp only [Act.put, zl, z0, z1]
          refine takeT (v := ?_) 3 rfl (by kernel_rfl) (by kernel_rfl) (by kernel_rfl) (by kernel_rfl) (fun _ _ _ h => h) (Or.inl ⟨by rfl, ?_⟩) (by assumption) ?_; rotate_left
          · (intro w hSw; (try dsimp only at hSw); go_simp; try with_reducible rfl)
          try simp only [Act.put, zl, z0, z1]
          refine takeT (v := ?_) 4 rfl (by kernel_rfl) (by kernel_rfl) (by kernel_rfl) (by kernel_rfl) (fun _ _ _ h => h) (Or.inl ⟨by rfl, ?_⟩) (by assumption) ?_; rotate_left
          · (intro w hSw; (try dsimp only at hSw); go_simp; try with_reducible rfl)
          try simp only [Act.put, zl, z0, z1]
          refine takeT (v := ?_) 5 rfl (by kernel_rfl) (by kernel_rfl) (by kernel_rfl) (by kernel_rfl) (fun _ _ _ h => h) (Or.inl ⟨by rfl, ?_⟩) (by assumption) ?_; rotate_left
          · (intro w hSw; (try dsimp only at hSw); go_simp; try with_reducible rfl)
          try simp only [Act.put, zl, z0, z1]
          refine takeT (v := ?_) 6 rfl (by kernel_rfl) (by kernel_rfl) (by kernel_rfl) (by kernel_rfl) (fun _ _ _ h => h) (Or.inl ⟨by rfl, ?_⟩) (by assumption) ?_; rotate_left
          · (intro w hSw; (try dsimp only at hSw); go_simp; try with_reducible rfl)
          try simp only [Act.put, zl, z0, z1]
          refine takeT (v := ?_) 7 rfl (by kernel_rfl) (by kernel_rfl) (by kernel_rfl) (by kernel_rfl) (fun _ _ _ h => h) (Or.inl ⟨by rfl, ?_⟩) (by assumption) ?_; rotate_left
          · (intro w hSw; (try dsimp only at hSw); go_simp; try with_reducible rfl)
          try simp only [Act.put, zl, z0, z1]
          refine takeT (v := ?_) 8 rfl (by kernel_rfl) (by kernel_rfl) (by kernel_rfl) (by kernel_rfl) (fun _ _ _ h => h) (Or.inl ⟨by rfl, ?_⟩) (by assumption) ?_; rotate_left
          · (intro w hSw; (try dsimp only at hSw); go_simp; try with_reducible rfl)
          try simp only [Act.put, zl, z0, z1]
          refine takeT (v := ?_) 9 rfl (by kernel_rfl) (by kernel_rfl) (by kernel_rfl) (by kernel_rfl) (fun _ _ _ h => h) (Or.inl ⟨by rfl, ?_⟩) (by assumption) ?_; rotate_left
          · (intro w hSw; (try dsimp only at hSw); go_simp; try with_reducible rfl)
          try simp only [Act.put, zl, z0, z1]
          refine takeT (v := ?_) 10 rfl (by kernel_rfl) (by kernel_rfl) (by kernel_rfl) (by kernel_rfl) (fun _ _ _ h => h) (Or.inl ⟨by rfl, ?_⟩) (by assumption) ?_; rotate_left
          · (intro w hSw; (try dsimp only at hSw); go_simp; try with_reducible rfl)
          try simp only [Act.put, zl, z0, z1]
          refine takeT (v := ?_) 11 rfl (by kernel_rfl) (by kernel_rfl) (by kernel_rfl) (by kernel_rfl) (fun _ _ _ h => h) (Or.inl ⟨by rfl, ?_⟩) (by assumption) ?_; rotate_left
          · (intro w hSw; (try dsimp only at hSw); go_simp; try with_reducible rfl)
          try simp only [Act.put, zl, z0, z1]
          refine takeT (v := ?_) 12 rfl (by kernel_rfl) (by kernel_rfl) (by kernel_rfl) (by kernel_rfl) (fun _ _ _ h => h) (Or.inl ⟨by rfl, ?_⟩) (by assumption) ?_; rotate_left
          · (intro w hSw; (try dsimp only at hSw); go_simp; try with_reducible rfl)
          try simp only [Act.put, zl, z0, z1]
          refine takeT (v := ?_) 13 rfl (by kernel_rfl) (by kernel_rfl) (by kernel_rfl) (by kernel_rfl) (fun _ _ _ h => h) (Or.inl ⟨by rfl, ?_⟩) (by assumption) ?_; rotate_left
          · (intro w hSw; (try dsimp only at hSw); go_simp; try with_reducible rfl)
          try simp only [Act.put, zl, z0, z1]
          refine takeT (v := ?_) 14 rfl (by kernel_rfl) (by kernel_rfl) (by kernel_rfl) (by kernel_rfl) (fun _ _ _ h => h) (Or.inl ⟨by rfl, ?_⟩) (by assumption) ?_; rotate_left
          · (intro w hSw; (try dsimp only at hSw); go_simp; try with_reducible rfl)
          try simp only [Act.put, zl, z0, z1]
          refine takeT (v := ?_) 15 rfl (by kernel_rfl) (by kernel_rfl) (by kernel_rfl) (by kernel_rfl) (fun _ _ _ h => h) (Or.inl ⟨by rfl, ?_⟩) (by assumption) ?_; rotate_left
          · (intro w hSw; (try dsimp only at hSw); go_simp; try with_reducible rfl)
          try simp only [Act.put, zl, z0, z1]
          refine takeT (v := ?_) 16 rfl (by kernel_rfl) (by kernel_rfl) (by kernel_rfl) (by kernel_rfl) (fun _ _ _ h => h) (Or.inl ⟨by rfl, ?_⟩) (by assumption) ?_; rotate_left
          · (intro w hSw; (try dsimp only at hSw); go_simp; try with_reducible rfl)
          try simp only [Act.put, zl, z0, z1]
          refine wpAnyT_ready (rs := [17]) (by kernel_rfl) (by simp) ?_
          refine lastT rfl (fun K hK => ?_)
          (try dsimp only at hHeld0)
          go_simp
          refine hK.out _ _ ?_
          clear hK K
          try simp only [Act.put, zl, z0, z1]
          refine wpAnyT_done (by kernel_rfl) ?_ _
          obtain ⟨c1, hc1⟩ : ∃ c1, (if cm.x < a1 then cm.x else a1) = c1 := ⟨_, rfl⟩
          obtain ⟨c2, hc2⟩ : ∃ c2, (if a2 < cm.x then cm.x else a2) = c2 := ⟨_, rfl⟩
          obtain ⟨W1, hW1⟩ : ∃ W1, World.drew (World.setCell (World.setCell wr ⟨q, 0, none⟩ (.int .i64 c1)) ⟨q, 1, none⟩ (.int .i64 c2)) = W1 := ⟨_, rfl⟩
          have q1 : W1.heap[q]? = some (.cells #[.int .i64 c1, .int .i64 c2] 24 (0, 0)) := by rw [← hW1]; exact drew_blk (blk_set (blk_set HQ.out 0 _) 1 _)
          have r1 : W1.heap[r]? = some (.cells #[.int .i64 b1, .int .i64 b2] 24 (0, 0)) := by rw [← hW1]; exact drew_blk (blk_other (blk_other HK2.out (Ne.symm hqr) 0 _) (Ne.symm hqr) 1 _)
          have K1 : Keeps (fun y => y ≠ q ∧ y ≠ r) wr W1 := by rw [← hW1]; exact (((Keeps.refl _ wr).st (fun h => h.1 rfl)).st (fun h => h.1 rfl)).trans (Keeps.of_below (zbD (zbR _ _)))
          rw [hc1, hc2, hW1]
          clear hW1 hS
          have s1' := (K1.cell (b := g) (o := i * 4 + 1) ⟨hgq, hgr⟩ lgr).trans s1
          have qK1 := K1.rest.size
          have lg1 : g < W1.heap.size := by omega
          have lr1 : r < W1.heap.size := by omega
          have NX' := hide (show L.spTo (·.x) tc (i + 1) = (c1, c2) by rw [NX.out, ← hc1, ← hc2]; congr 1 <;> (split <;> omega))
          clear hc1 hc2 s1 s0
          go_upto_region 11 with fail
          have hS : (fun w' => g < w'.heap.size ∧ r < w'.heap.size ∧ w'.frozen? ⟨r, 0, none⟩ = false ∧ w'.frozen? ⟨r, 1, none⟩ = false ∧ w'.cell? ⟨r, 0, none⟩ = some (.int .i64 b1) ∧ w'.cell? ⟨r, 1, none⟩ = some (.int .i64 b2) ∧ w'.cell? ⟨g, i * 4 + 1, none⟩ = some (.int .i64 cm.y)) W1 := ⟨lg1, lr1, blk_frozen r1 0, blk_frozen r1 1, (blk_cell r1 0).trans rfl, (blk_cell r1 1).trans rfl, s1'⟩
          have HQ1 := hide q1
          have HR1 := hide r1
          clear q1 r1 s1'
          (try dsimp only at hS)
          refine wp_region_T_drew (S := (fun w' => g < w'.heap.size ∧ r < w'.heap.size ∧ w'.frozen? ⟨r, 0, none⟩ = false ∧ w'.frozen? ⟨r, 1, none⟩ = false ∧ w'.cell? ⟨r, 0, none⟩ = some (.int .i64 b1) ∧ w'.cell? ⟨r, 1, none⟩ = some (.int .i64 b2) ∧ w'.cell? ⟨g, i * 4 + 1, none⟩ = some (.int .i64 cm.y))) 17 (by kernel_rfl) ?_ (fun hHeld0 => ?_)
          · (try dsimp only); (first | (go_keep; done) | (go_split_ands; (repeat' apply And.intro) <;> first | (go_keep; done) | (simp [*, zcA, zcP, zfA, zfP]; done) | (simp [zcA, zcP] <;> rfl) | (simp [*, zsS, zsO, zsA]; done) | ((first | refine (hc _ _ ?_).trans ?_ | refine (hf _ _ ?_).trans ?_) <;> first | assumption | (simp; done) | (simp; omega) | omega | (go_keep; done) | (simp [*, zcA, zcP, zfA, zfP]; done) | (simp [zcA, zcP]; rfl)) | (repeat' first | exact zbR _ _ | assumption | refine zbD ?_ | refine zbA ?_ ?_ _ | refine zbS ?_ ?_ _ | refine zbT ?_ (by assumption) ?_ | (simp; done) | (simp; omega) | omega)))
          refine takeT (v := ?_) 0 rfl (by kernel_rfl) (by kernel_rfl) (by kernel_rfl) (by kernel_rfl) (fun _ _ _ h => h) (Or.inl ⟨by rfl, ?_⟩) (by assumption) ?_; rotate_left
          · (intro w hSw; (try dsimp only at hSw); go_simp; try with_reducible rfl)
          try simp only [Act.put, zl, z0, z1]
          refine takeT (v := ?_) 1 rfl (by kernel_rfl) (by kernel_rfl) (by kernel_rfl) (by kernel_rfl) (fun _ _ _ h => h) (Or.inl ⟨by rfl, ?_⟩) (by assumption) ?_; rotate_left
          · (intro w hSw; (try dsimp only at hSw); go_simp; try with_reducible rfl)
          try simp only [Act.put, zl, z0, z1]
          refine takeT (v := ?_) 2 rfl (by kernel_rfl) (by kernel_rfl) (by kernel_rfl) (by kernel_rfl) (fun _ _ _ h => h) (Or.inl ⟨by rfl, ?_⟩) (by assumption) ?_; rotate_left
          · (intro w hSw; (try dsimp only at hSw); go_simp; try with_reducible rfl)
          try simp only [Act.put, zl, z0, z1]
          refine takeT (v := ?_) 3 rfl (by kernel_rfl) (by kernel_rfl) (by kernel_rfl) (by kernel_rfl) (fun _ _ _ h => h) (Or.inl ⟨by rfl, ?_⟩) (by assumption) ?_; rotate_left
          · (intro w hSw; (try dsimp only at hSw); go_simp; try with_reducible rfl)
          try simp only [Act.put, zl, z0, z1]
          refine takeT (v := ?_) 4 rfl (by kernel_rfl) (by kernel_rfl) (by kernel_rfl) (by kernel_rfl) (fun _ _ _ h => h) (Or.inl ⟨by rfl, ?_⟩) (by assumption) ?_; rotate_left
          · (intro w hSw; (try dsimp only at hSw); go_simp; try with_reducible rfl)
          try simp only [Act.put, zl, z0, z1]
          refine takeT (v := ?_) 5 rfl (by kernel_rfl) (by kernel_rfl) (by kernel_rfl) (by kernel_rfl) (fun _ _ _ h => h) (Or.inl ⟨by rfl, ?_⟩) (by assumption) ?_; rotate_left
          · (intro w hSw; (try dsimp only at hSw); go_simp; try with_reducible rfl)
          try simp only [Act.put, zl, z0, z1]
          refine takeT (v := ?_) 6 rfl (by kernel_rfl) (by kernel_rfl) (by kernel_rfl) (by kernel_rfl) (fun _ _ _ h => h) (Or.inl ⟨by rfl, ?_⟩) (by assumption) ?_; rotate_left
          · (intro w hSw; (try dsimp only at hSw); go_simp; try with_reducible rfl)
          try simp only [Act.put, zl, z0, z1]
          refine takeT (v := ?_) 7 rfl (by kernel_rfl) (by kernel_rfl) (by kernel_rfl) (by kernel_rfl) (fun _ _ _ h => h) (Or.inl ⟨by rfl, ?_⟩) (by assumption) ?_; rotate_left
          · (intro w hSw; (try dsimp only at hSw); go_simp; try with_reducible rfl)
          try simp only [Act.put, zl, z0, z1]
          refine takeT (v := ?_) 8 rfl (by kernel_rfl) (by kernel_rfl) (by kernel_rfl) (by kernel_rfl) (fun _ _ _ h => h) (Or.inl ⟨by rfl, ?_⟩) (by assumption) ?_; rotate_left
          · (intro w hSw; (try dsimp only at hSw); go_simp; try with_reducible rfl)
          try simp only [Act.put, zl, z0, z1]
          refine takeT (v := ?_) 9 rfl (by kernel_rfl) (by kernel_rfl) (by kernel_rfl) (by kernel_rfl) (fun _ _ _ h => h) (Or.inl ⟨by rfl, ?_⟩) (by assumption) ?_; rotate_left
          · (intro w hSw; (try dsimp only at hSw); go_simp; try with_reducible rfl)
          try simp only [Act.put, zl, z0, z1]
          refine takeT (v := ?_) 10 rfl (by kernel_rfl) (by kernel_rfl) (by kernel_rfl) (by kernel_rfl) (fun _ _ _ h => h) (Or.inl ⟨by rfl, ?_⟩) (by assumption) ?_; rotate_left
          · (intro w hSw; (try dsimp only at hSw); go_simp; try with_reducible rfl)
          try simp only [Act.put, zl, z0, z1]
          refine takeT (v := ?_) 11 rfl (by kernel_rfl) (by kernel_rfl) (by kernel_rfl) (by kernel_rfl) (fun _ _ _ h => h) (Or.inl ⟨by rfl, ?_⟩) (by assumption) ?_; rotate_left
          · (intro w hSw; (try dsimp only at hSw); go_simp; try with_reducible rfl)
          try simp only [Act.put, zl, z0, z1]
          refine takeT (v := ?_) 12 rfl (by kernel_rfl) (by kernel_rfl) (by kernel_rfl) (by kernel_rfl) (fun _ _ _ h => h) (Or.inl ⟨by rfl, ?_⟩) (by assumption) ?_; rotate_left
          · (intro w hSw; (try dsimp only at hSw); go_simp; try with_reducible rfl)
          try simp only [Act.put, zl, z0, z1]
          refine takeT (v := ?_) 13 rfl (by kernel_rfl) (by kernel_rfl) (by kernel_rfl) (by kernel_rfl) (fun _ _ _ h => h) (Or.inl ⟨by rfl, ?_⟩) (by assumption) ?_; rotate_left
          · (intro w hSw; (try dsimp only at hSw); go_simp; try with_reducible rfl)
          try simp only [Act.put, zl, z0, z1]
          refine takeT (v := ?_) 14 rfl (by kernel_rfl) (by kernel_rfl) (by kernel_rfl) (by kernel_rfl) (fun _ _ _ h => h) (Or.inl ⟨by rfl, ?_⟩) (by assumption) ?_; rotate_left
          · (intro w hSw; (try dsimp only at hSw); go_simp; try with_reducible rfl)
          try simp only [Act.put, zl, z0, z1]
          refine takeT (v := ?_) 15 rfl (by kernel_rfl) (by kernel_rfl) (by kernel_rfl) (by kernel_rfl) (fun _ _ _ h => h) (Or.inl ⟨by rfl, ?_⟩) (by assumption) ?_; rotate_left
          · (intro w hSw; (try dsimp only at hSw); go_simp; try with_reducible rfl)
          try simp only [Act.put, zl, z0, z1]
          refine takeT (v := ?_) 16 rfl (by kernel_rfl) (by kernel_rfl) (by kernel_rfl) (by kernel_rfl) (fun _ _ _ h => h) (Or.inl ⟨by rfl, ?_⟩) (by assumption) ?_; rotate_left
          · (intro w hSw; (try dsimp only at hSw); go_simp; try with_reducible rfl)
          try simp only [Act.put, zl, z0, z1]
          refine wpAnyT_ready (rs := [17]) (by kernel_rfl) (by simp) ?_
          refine lastT rfl (fun K hK => ?_)
          (try dsimp only at hHeld0)
          go_simp
          refine hK.out _ _ ?_
          clear hK K
          try simp only [Act.put, zl, z0, z1]
          refine wpAnyT_done (by kernel_rfl) ?_ _
          obtain ⟨d1, hd1⟩ : ∃ d1, (if cm.y < b1 then cm.y else b1) = d1 := ⟨_, rfl⟩
          obtain ⟨d2, hd2⟩ : ∃ d2, (if b2 < cm.y then cm.y else b2) = d2 := ⟨_, rfl⟩
          rw [hd1, hd2]
          have NY' := hide (show L.spTo (·.y) tc (i + 1) = (d1, d2) by rw [NY.out, ← hd1, ← hd2]; congr 1 <;> (split <;> omega))
          clear hd1 hd2 hS
          go_wp2_with fail
          go_roundw
          case rel => exact ⟨i + 1, by omega, by go_num, hide (by rw [NX'.out]; exact drew_blk (blk_other (blk_other HQ1.out hqr 0 _) hqr 1 _)), hide (by rw [NY'.out]; exact drew_blk (blk_set (blk_set HR1.out 0 _) 1 _)), (hK.trans K1).trans ((((Keeps.refl _ W1).st (fun h => h.2 rfl)).st (fun h => h.2 rfl)).trans (Keeps.of_below (zbD (zbR _ _))))⟩
          case measure => simp [intOf]; omega
        · have hin : i = tc.length := by omega
          subst hin
          clear HC0
          go_upto_region 12 with fail
          have hS : (fun w' => q < w'.heap.size ∧ r < w'.heap.size ∧ w'.frozen? ⟨q, 0, none⟩ = false ∧ w'.frozen? ⟨q, 1, none⟩ = false ∧ w'.frozen? ⟨r, 0, none⟩ = false ∧ w'.frozen? ⟨r, 1, none⟩ = false ∧ w'.cell? ⟨q, 0, none⟩ = some (.int .i64 a1) ∧ w'.cell? ⟨q, 1, none⟩ = some (.int .i64 a2) ∧ w'.cell? ⟨r, 0, none⟩ = some (.int .i64 b1) ∧ w'.cell? ⟨r, 1, none⟩ = some (.int .i64 b2)) wr := ⟨lqr, lrr, blk_frozen k1 0, blk_frozen k1 1, blk_frozen k2 0, blk_frozen k2 1, (blk_cell k1 0).trans rfl, (blk_cell k1 1).trans rfl, (blk_cell k2 0).trans rfl, (blk_cell k2 1).trans rfl⟩
          clear k1 k2
          (try dsimp only at hS)
          refine wp_region_held_drew (S := (fun w' => q < w'.heap.size ∧ r < w'.heap.size ∧ w'.frozen? ⟨q, 0, none⟩ = false ∧ w'.frozen? ⟨q, 1, none⟩ = false ∧ w'.frozen? ⟨r, 0, none⟩ = false ∧ w'.frozen? ⟨r, 1, none⟩ = false ∧ w'.cell? ⟨q, 0, none⟩ = some (.int .i64 a1) ∧ w'.cell? ⟨q, 1, none⟩ = some (.int .i64 a2) ∧ w'.cell? ⟨r, 0, none⟩ = some (.int .i64 b1) ∧ w'.cell? ⟨r, 1, none⟩ = some (.int .i64 b2))) (by kernel_rfl) ?_ (fun hHeld0 => ?_)
          · (try dsimp only); (first | (go_keep; done) | (go_split_ands; (repeat' apply And.intro) <;> first | (go_keep; done) | (simp [*, zcA, zcP, zfA, zfP]; done) | (simp [zcA, zcP] <;> rfl) | (simp [*, zsS, zsO, zsA]; done) | ((first | refine (hc _ _ ?_).trans ?_ | refine (hf _ _ ?_).trans ?_) <;> first | assumption | (simp; done) | (simp; omega) | omega | (go_keep; done) | (simp [*, zcA, zcP, zfA, zfP]; done) | (simp [zcA, zcP]; rfl)) | (repeat' first | exact zbR _ _ | assumption | refine zbD ?_ | refine zbA ?_ ?_ _ | refine zbS ?_ ?_ _ | refine zbT ?_ (by assumption) ?_ | (simp; done) | (simp; omega) | omega)))
          refine tL (v := ?_) 0 rfl (by kernel_rfl) (fun _ _ _ h => h) (Or.inl ⟨by rfl, ?_⟩) (by assumption) ?_; rotate_left
          · (intro w hSw; (try dsimp only at hSw); go_simp; try with_reducible rfl)
          try simp only [Act.put, zl, z0, z1]
          refine tL (v := ?_) 1 rfl (by kernel_rfl) (fun _ _ _ h => h) (Or.inl ⟨by rfl, ?_⟩) (by assumption) ?_; rotate_left
          · (intro w hSw; (try dsimp only at hSw); go_simp; try with_reducible rfl)
          try simp only [Act.put, zl, z0, z1]
          refine tL (v := ?_) 2 rfl (by kernel_rfl) (fun _ _ _ h => h) (Or.inl ⟨by rfl, ?_⟩) (by assumption) ?_; rotate_left
          · (intro w hSw; (try dsimp only at hSw); go_simp; try with_reducible rfl)
          try simp only [Act.put, zl, z0, z1]
          refine tL (v := ?_) 3 rfl (by kernel_rfl) (fun _ _ _ h => h) (Or.inl ⟨by rfl, ?_⟩) (by assumption) ?_; rotate_left
          · (intro w hSw; (try dsimp only at hSw); go_simp; try with_reducible rfl)
          try simp only [Act.put, zl, z0, z1]
          refine tL (v := ?_) 4 rfl (by kernel_rfl) (fun _ _ _ h => h) (Or.inl ⟨by rfl, ?_⟩) (by assumption) ?_; rotate_left
          · (intro w hSw; (try dsimp only at hSw); go_simp; try with_reducible rfl)
          try simp only [Act.put, zl, z0, z1]
          refine wpAnyH_ready (rs := [5]) (by kernel_rfl) (by simp) ?_
          refine consL 5 rfl (fun K hK => ?_) AllReadyH.nil
          go_simp
          refine hK.out _ _ ?_ (fun hHeld1 => ?_)
          · (try dsimp only); (first | (go_keep; done) | (go_split_ands; (repeat' apply And.intro) <;> first | (go_keep; done) | (simp [*, zcA, zcP, zfA, zfP]; done) | (simp [zcA, zcP] <;> rfl) | (simp [*, zsS, zsO, zsA]; done) | ((first | refine (hc _ _ ?_).trans ?_ | refine (hf _ _ ?_).trans ?_) <;> first | assumption | (simp; done) | (simp; omega) | omega | (go_keep; done) | (simp [*, zcA, zcP, zfA, zfP]; done) | (simp [zcA, zcP]; rfl)) | (repeat' first | exact zbR _ _ | assumption | refine zbD ?_ | refine zbA ?_ ?_ _ | refine zbS ?_ ?_ _ | refine zbT ?_ (by assumption) ?_ | (simp; done) | (simp; omega) | omega)))
          clear hK K hHeld0
          try simp only [Act.put, zl, z0, z1]
          refine wpAnyH_ready (rs := [6]) (by kernel_rfl) (by simp) ?_
          refine consL 6 rfl (fun K hK => ?_) AllReadyH.nil
          go_simp
          refine hK.out _ _ ?_ (fun hHeld2 => ?_)
          · (try dsimp only); (first | (go_keep; done) | (go_split_ands; (repeat' apply And.intro) <;> first | (go_keep; done) | (simp [*, zcA, zcP, zfA, zfP]; done) | (simp [zcA, zcP] <;> rfl) | (simp [*, zsS, zsO, zsA]; done) | ((first | refine (hc _ _ ?_).trans ?_ | refine (hf _ _ ?_).trans ?_) <;> first | assumption | (simp; done) | (simp; omega) | omega | (go_keep; done) | (simp [*, zcA, zcP, zfA, zfP]; done) | (simp [zcA, zcP]; rfl)) | (repeat' first | exact zbR _ _ | assumption | refine zbD ?_ | refine zbA ?_ ?_ _ | refine zbS ?_ ?_ _ | refine zbT ?_ (by assumption) ?_ | (simp; done) | (simp; omega) | omega)))
          clear hK K hHeld1
          try simp only [Act.put, zl, z0, z1]
          refine tL (v := ?_) 7 rfl (by kernel_rfl) (fun _ _ _ h => h) (Or.inl ⟨by rfl, ?_⟩) (by assumption) ?_; rotate_left
          · (intro w hSw; (try dsimp only at hSw); go_simp; try with_reducible rfl)
          try simp only [Act.put, zl, z0, z1]
          refine wpAnyH_done (by kernel_rfl) ?_ _
          go_wp2_with fail
          rw [E1.out, E2.out, E3.out, E4.out, ha1, ha2, hb1, hb2]
          refine bodyPost_ret (v := .tuple #[.int .i64 (tc.length : Int), .agg #[.int .i64 a1, .int .i64 a2], .agg #[.int .i64 b1, .int .i64 b2], .int .i64 0]) (refcen_results (blk_other (blk_other (blk_set (blk_set (drew_blk HQ.out) 0 _) 1 _) hqr 0 _) hqr 1 _) (blk_set (blk_set (blk_other (blk_other (drew_blk HRB.out) (Ne.symm hqr) 0 _) (Ne.symm hqr) 1 _) 0 _) 1 _) rfl rfl rfl rfl rfl rfl) rfl ?_
          exact ⟨rfl, zbS (zbS (zbS (zbS (zbD (HBW.out.trans (hK.below (n := w.heap.size) (fun y hy => ⟨by omega, by omega⟩) (by have := HBW.out.size; omega)))) hpq _) hpq _) hpr _) hpr _⟩
  · have E1 := hide (show L.cenN v = 0 by unfold L.cenN; rw [if_neg (by rw [h]; omega)])
    have E2 := hide (show L.cenX v = (0, 0) by unfold L.cenX; rw [if_neg (by rw [h]; omega)])
    have E3 := hide (show L.cenY v = (0, 0) by unfold L.cenY; rw [if_neg (by rw [h]; omega)])
    have E4 := hide (show L.cenE v = 20 by unfold L.cenE; rw [if_neg (by rw [h]; omega)]; exact h)
    have H := hide h
    clear h
    go_wp2_with (go_at_call 23; refine (RefCheck_any v A n c _ HN.out ((HR0.out.below (by (repeat' first | exact zbR _ _ | assumption | refine zbD ?_ | refine zbA ?_ ?_ _ | refine zbS ?_ ?_ _ | refine zbT ?_ (by assumption) ?_ | (simp; done) | (simp; omega) | omega))).mono (by first | (simp; done) | (simp; omega) | omega))).mono ?_; rintro e w3 ⟨rfl, hb3⟩; rw [H.out]; have k3 := (hb3.block q (by omega)).trans G3.out; have k4 := (hb3.block r (by omega)).trans G4.out; have c3 := (blk_cell k3 0).trans rfl; have c4 := (blk_cell k3 1).trans rfl; have c5 := (blk_cell k4 0).trans rfl; have c6 := (blk_cell k4 1).trans rfl; have f3 := blk_frozen k3 0; have f4 := blk_frozen k3 1; have f5 := blk_frozen k4 0; have f6 := blk_frozen k4 1; have K3 := hide k3; have K4 := hide k4; clear k3 k4)
    rw [E1.out, E2.out, E3.out, E4.out]
    refine bodyPost_ret (v := .tuple #[.int .i64 0, .agg #[.int .i64 0, .int .i64 0], .agg #[.int .i64 0, .int .i64 0], .int .i64 20]) (refcen_results (blk_other (blk_other (blk_set (blk_set K3.out 0 (.int .i64 0)) 1 (.int .i64 0)) hqr 0 (.int .i64 0)) hqr 1 (.int .i64 0)) (blk_set (blk_set (blk_other (blk_other K4.out (Ne.symm hqr) 0 (.int .i64 0)) (Ne.symm hqr) 1 (.int .i64 0)) 0 (.int .i64 0)) 1 (.int .i64 0)) rfl rfl rfl rfl rfl rfl) rfl ?_
    exact ⟨rfl, zbS (zbS (zbS (zbS (GB.out.trans (hb3.mono GB.out.size)) hpq _) hpq _) hpr _) hpr _⟩

end Go.Proofs.Ytgnobonhohfofaa

namespace Go.Proofs.Ytgnobonhohfofaa
open Go.RowKit
attribute [local go_sem ↓] Go.wp_at_zero Go.wp_at_succ

theorem dec_app_f {z y : Int} {l : List Int} (h : decide (z ∈ l) = false) : decide (z ∈ l ++ [y]) = (y == z) := by
  rw [decide_eq_false_iff_not] at h
  by_cases e : y = z
  · subst e; simp
  · have e' : z ≠ y := fun h => e h.symm
    simp [h, e, e']
theorem dec_app_t {z y : Int} {l : List Int} (h : decide (z ∈ l) = true) : decide (z ∈ l ++ [y]) = true := by
  rw [decide_eq_true_eq] at h
  simp [h]
theorem L.wrgL_len' (v : L.Vw) (m : L.Mk) : (L.wrgL v m).length ≤ v.ss.length := by
  unfold L.wrgL
  split
  · split
    · rw [L.wrongL_length]; exact L.many_le _ _ _ _
    · simp
  · simp
theorem Centres_any' (v : L.Vw) (A : Option Addr) (n c : Nat) (w : World) (hn : v.ss.length = n) (hr : RdS w w.heap.size A v.ss) :
    Calls Try.prog 24 #[.agg #[.int .i64 v.size, .slice A n c, .int .i64 v.wrong, .int .i64 v.hxl, .int .i64 v.hxh, .int .i64 v.hyl, .int .i64 v.hyh]] w fun e w' => e = .returned (.tuple #[.int .i64 (L.cenN v), .agg #[.int .i64 (L.cenX v).1, .int .i64 (L.cenX v).2], .agg #[.int .i64 (L.cenY v).1, .int .i64 (L.cenY v).2], .int .i64 (L.cenE v)]) ∧ Below w.heap.size w w' := by
  rcases L.checkE_cases v with h | h
  · exact Centres_yes v A n c w hn hr h
  · exact Centres_no v A n c w hn hr h

set_option maxRecDepth 100000 in
set_option maxHeartbeats 6400000 in
theorem blamedLaw_far (v : L.Vw) (A : Option Addr) (n c : Nat) (m : L.Mk) (w : World) (hn : v.ss.length = n) (hr : RdS w w.heap.size A v.ss) (h : L.farB v = true) :
    Calls Try.prog 7 #[.agg #[.int .i64 v.size, .slice A n c, .int .i64 v.wrong, .int .i64 v.hxl, .int .i64 v.hxh, .int .i64 v.hyl, .int .i64 v.hyh], .agg #[.int .i64 m.x, .int .i64 m.y, .int .i64 m.hx, .int .i64 m.hy]] w fun e w' => e = .returned (.bool true) ∧ Below w.heap.size w w' := by
  have HN := hide hn
  have HR := hide hr
  clear hn hr
  have HF := hide h
  clear h
  go_enter Try.func7, Try.ntmps7
  go_upto_region 1 with fail
  obtain ⟨W0, hW0⟩ : ∃ W0, (w.alloc (.cells #[.int .i64 v.size, .slice A n c, .int .i64 v.wrong, .int .i64 v.hxl, .int .i64 v.hxh, .int .i64 v.hyl, .int .i64 v.hyh] 26)).alloc (.cells #[.int .i64 m.x, .int .i64 m.y, .int .i64 m.hx, .int .i64 m.hy] 30) = W0 := ⟨_, rfl⟩
  have gp : W0.heap[w.heap.size]? = some (.cells #[.int .i64 v.size, .slice A n c, .int .i64 v.wrong, .int .i64 v.hxl, .int .i64 v.hxh, .int .i64 v.hyl, .int .i64 v.hyh] 26 (0, 0)) := by
    rw [← hW0]; exact ((Below.heap_alloc _ _ _ (by first | (simp; done) | (simp; omega) | omega)).trans (World.alloc_heap_new _ _))
  have gq : W0.heap[w.heap.size + 1]? = some (.cells #[.int .i64 m.x, .int .i64 m.y, .int .i64 m.hx, .int .i64 m.hy] 30 (0, 0)) := by
    rw [← hW0]; exact ((congrArg _ (by simp)).trans (World.alloc_heap_new _ _))
  have gs : W0.heap.size = w.heap.size + 1 + 1 := by rw [← hW0]; simp
  have gB : Below w.heap.size w W0 := by rw [← hW0]; (repeat' first | exact zbR _ _ | assumption | refine zbD ?_ | refine zbA ?_ ?_ _ | refine zbS ?_ ?_ _ | refine zbT ?_ (by assumption) ?_ | (simp; done) | (simp; omega) | omega)
  rw [hW0]
  clear hW0
  obtain ⟨p, hp⟩ : ∃ p, w.heap.size = p := ⟨_, rfl⟩
  obtain ⟨q, hq⟩ : ∃ q, w.heap.size + 1 = q := ⟨_, rfl⟩
  rw [hq, hp]
  rw [hp] at gp
  rw [hq] at gq
  have lp : p < W0.heap.size := by omega
  have lq : q < W0.heap.size := by omega
  have HR0 := hide ((HR.out.below gB).mono gB.size)
  have GB := hide gB
  have GP := hide gp
  have cp0 := (blk_cell gp 0).trans rfl; have cp1 := (blk_cell gp 1).trans rfl; have cp2 := (blk_cell gp 2).trans rfl; have cp3 := (blk_cell gp 3).trans rfl; have cp4 := (blk_cell gp 4).trans rfl; have cp5 := (blk_cell gp 5).trans rfl; have cp6 := (blk_cell gp 6).trans rfl
  have GQ := hide gq
  have cq0 := (blk_cell gq 0).trans rfl; have cq1 := (blk_cell gq 1).trans rfl; have cq2 := (blk_cell gq 2).trans rfl; have cq3 := (blk_cell gq 3).trans rfl
  clear gp gq gB gs hp hq
  go_wp2_with (first | (go_at_call 28; refine (Far_any v A n c _ HN.out ((HR0.out.below (by (repeat' first | exact zbR _ _ | assumption | refine zbD ?_ | refine zbA ?_ ?_ _ | refine zbS ?_ ?_ _ | refine zbT ?_ (by assumption) ?_ | (simp; done) | (simp; omega) | omega))).mono (by first | (simp; done) | (simp; omega) | omega))).mono ?_; rintro e w2 ⟨rfl, hb2⟩; rw [HF.out]; obtain ⟨hc2, hf2⟩ := bcell hb2; have q2 := hb2.size; (try simp only [World.size_alloc] at q2); have z2_p : p < w2.heap.size := (by omega); have z2_q : q < w2.heap.size := (by omega)) | (go_at_call 16; refine (works_any _).mono ?_; rintro e w19 ⟨rfl, hb19⟩))
  go_ret
  exact ⟨rfl, GB.out.trans ((show Below W0.heap.size W0 _ by (repeat' first | exact zbR _ _ | assumption | refine zbD ?_ | refine zbA ?_ ?_ _ | refine zbS ?_ ?_ _ | refine zbT ?_ (by assumption) ?_ | (simp; done) | (simp; omega) | omega)).mono GB.out.size)⟩

set_option maxRecDepth 100000 in
set_option maxHeartbeats 6400000 in
theorem blamedLaw_bad (v : L.Vw) (A : Option Addr) (n c : Nat) (m : L.Mk) (w : World) (hn : v.ss.length = n) (hr : RdS w w.heap.size A v.ss) (hf : L.farB v = false) (h : L.viewB v = false) :
    Calls Try.prog 7 #[.agg #[.int .i64 v.size, .slice A n c, .int .i64 v.wrong, .int .i64 v.hxl, .int .i64 v.hxh, .int .i64 v.hyl, .int .i64 v.hyh], .agg #[.int .i64 m.x, .int .i64 m.y, .int .i64 m.hx, .int .i64 m.hy]] w fun e w' => e = .returned (.bool true) ∧ Below w.heap.size w w' := by
  have HN := hide hn
  have HR := hide hr
  clear hn hr
  have HF := hide hf
  have HC := hide (L.check_f h)
  clear h hf
  go_enter Try.func7, Try.ntmps7
  go_upto_region 1 with fail
  obtain ⟨W0, hW0⟩ : ∃ W0, (w.alloc (.cells #[.int .i64 v.size, .slice A n c, .int .i64 v.wrong, .int .i64 v.hxl, .int .i64 v.hxh, .int .i64 v.hyl, .int .i64 v.hyh] 26)).alloc (.cells #[.int .i64 m.x, .int .i64 m.y, .int .i64 m.hx, .int .i64 m.hy] 30) = W0 := ⟨_, rfl⟩
  have gp : W0.heap[w.heap.size]? = some (.cells #[.int .i64 v.size, .slice A n c, .int .i64 v.wrong, .int .i64 v.hxl, .int .i64 v.hxh, .int .i64 v.hyl, .int .i64 v.hyh] 26 (0, 0)) := by
    rw [← hW0]; exact ((Below.heap_alloc _ _ _ (by first | (simp; done) | (simp; omega) | omega)).trans (World.alloc_heap_new _ _))
  have gq : W0.heap[w.heap.size + 1]? = some (.cells #[.int .i64 m.x, .int .i64 m.y, .int .i64 m.hx, .int .i64 m.hy] 30 (0, 0)) := by
    rw [← hW0]; exact ((congrArg _ (by simp)).trans (World.alloc_heap_new _ _))
  have gs : W0.heap.size = w.heap.size + 1 + 1 := by rw [← hW0]; simp
  have gB : Below w.heap.size w W0 := by rw [← hW0]; (repeat' first | exact zbR _ _ | assumption | refine zbD ?_ | refine zbA ?_ ?_ _ | refine zbS ?_ ?_ _ | refine zbT ?_ (by assumption) ?_ | (simp; done) | (simp; omega) | omega)
  rw [hW0]
  clear hW0
  obtain ⟨p, hp⟩ : ∃ p, w.heap.size = p := ⟨_, rfl⟩
  obtain ⟨q, hq⟩ : ∃ q, w.heap.size + 1 = q := ⟨_, rfl⟩
  rw [hq, hp]
  rw [hp] at gp
  rw [hq] at gq
  have lp : p < W0.heap.size := by omega
  have lq : q < W0.heap.size := by omega
  have HR0 := hide ((HR.out.below gB).mono gB.size)
  have GB := hide gB
  have GP := hide gp
  have cp0 := (blk_cell gp 0).trans rfl; have cp1 := (blk_cell gp 1).trans rfl; have cp2 := (blk_cell gp 2).trans rfl; have cp3 := (blk_cell gp 3).trans rfl; have cp4 := (blk_cell gp 4).trans rfl; have cp5 := (blk_cell gp 5).trans rfl; have cp6 := (blk_cell gp 6).trans rfl
  have GQ := hide gq
  have cq0 := (blk_cell gq 0).trans rfl; have cq1 := (blk_cell gq 1).trans rfl; have cq2 := (blk_cell gq 2).trans rfl; have cq3 := (blk_cell gq 3).trans rfl
  clear gp gq gB gs hp hq
  go_wp2_with (first | (go_at_call 28; refine (Far_any v A n c _ HN.out ((HR0.out.below (by (repeat' first | exact zbR _ _ | assumption | refine zbD ?_ | refine zbA ?_ ?_ _ | refine zbS ?_ ?_ _ | refine zbT ?_ (by assumption) ?_ | (simp; done) | (simp; omega) | omega))).mono (by first | (simp; done) | (simp; omega) | omega))).mono ?_; rintro e w2 ⟨rfl, hb2⟩; rw [HF.out]; obtain ⟨hc2, hf2⟩ := bcell hb2; have q2 := hb2.size; (try simp only [World.size_alloc] at q2); have z2_p : p < w2.heap.size := (by omega); have z2_q : q < w2.heap.size := (by omega)) | (go_at_call 23; refine (RefCheck_any v A n c _ HN.out ((HR0.out.below (by (repeat' first | exact zbR _ _ | assumption | refine zbD ?_ | refine zbA ?_ ?_ _ | refine zbS ?_ ?_ _ | refine zbT ?_ (by assumption) ?_ | (simp; done) | (simp; omega) | omega))).mono (by first | (simp; done) | (simp; omega) | omega))).mono ?_; rintro e w3 ⟨rfl, hb3⟩; rw [HC.out]; obtain ⟨hc3, hf3⟩ := bcell hb3; have q3 := hb3.size; (try simp only [World.size_alloc] at q3); have z3_p : p < w3.heap.size := (by omega); have z3_q : q < w3.heap.size := (by omega)) | (go_at_call 16; refine (works_any _).mono ?_; rintro e w19 ⟨rfl, hb19⟩))
  go_ret
  exact ⟨rfl, GB.out.trans ((show Below W0.heap.size W0 _ by (repeat' first | exact zbR _ _ | assumption | refine zbD ?_ | refine zbA ?_ ?_ _ | refine zbS ?_ ?_ _ | refine zbT ?_ (by assumption) ?_ | (simp; done) | (simp; omega) | omega)).mono GB.out.size)⟩

set_option maxRecDepth 100000 in
set_option maxHeartbeats 6400000 in
theorem blamedLaw_no (v : L.Vw) (A : Option Addr) (n c : Nat) (m : L.Mk) (w : World) (hn : v.ss.length = n) (hr : RdS w w.heap.size A v.ss) (hf : L.farB v = false) (h : L.viewB v = true) (hb : L.BlmNo v m) :
    Calls Try.prog 7 #[.agg #[.int .i64 v.size, .slice A n c, .int .i64 v.wrong, .int .i64 v.hxl, .int .i64 v.hxh, .int .i64 v.hyl, .int .i64 v.hyh], .agg #[.int .i64 m.x, .int .i64 m.y, .int .i64 m.hx, .int .i64 m.hy]] w fun e w' => e = .returned (.bool true) ∧ Below w.heap.size w w' := by
  have HN := hide hn
  have HR := hide hr
  clear hn hr
  have HF := hide hf
  have HC := hide (L.check_t h)
  have HV := hide (L.viewB_ok h)
  obtain ⟨h1, h2, h3, h4, h5, h6⟩ := hb
  have HFE := hide h2
  have HCE := hide h3
  have HBE := hide h4
  have HBL := hide h5
  have HT := hide h6
  obtain ⟨few, hfew⟩ : ∃ x, L.fewV v = x := ⟨_, rfl⟩
  rw [hfew] at h1
  have HFW := hide hfew
  clear h hf h2 h3 h4 h5 h6 hfew
  go_enter Try.func7, Try.ntmps7
  go_upto_region 1 with fail
  obtain ⟨W0, hW0⟩ : ∃ W0, (w.alloc (.cells #[.int .i64 v.size, .slice A n c, .int .i64 v.wrong, .int .i64 v.hxl, .int .i64 v.hxh, .int .i64 v.hyl, .int .i64 v.hyh] 26)).alloc (.cells #[.int .i64 m.x, .int .i64 m.y, .int .i64 m.hx, .int .i64 m.hy] 30) = W0 := ⟨_, rfl⟩
  have gp : W0.heap[w.heap.size]? = some (.cells #[.int .i64 v.size, .slice A n c, .int .i64 v.wrong, .int .i64 v.hxl, .int .i64 v.hxh, .int .i64 v.hyl, .int .i64 v.hyh] 26 (0, 0)) := by
    rw [← hW0]; exact ((Below.heap_alloc _ _ _ (by first | (simp; done) | (simp; omega) | omega)).trans (World.alloc_heap_new _ _))
  have gq : W0.heap[w.heap.size + 1]? = some (.cells #[.int .i64 m.x, .int .i64 m.y, .int .i64 m.hx, .int .i64 m.hy] 30 (0, 0)) := by
    rw [← hW0]; exact ((congrArg _ (by simp)).trans (World.alloc_heap_new _ _))
  have gs : W0.heap.size = w.heap.size + 1 + 1 := by rw [← hW0]; simp
  have gB : Below w.heap.size w W0 := by rw [← hW0]; (repeat' first | exact zbR _ _ | assumption | refine zbD ?_ | refine zbA ?_ ?_ _ | refine zbS ?_ ?_ _ | refine zbT ?_ (by assumption) ?_ | (simp; done) | (simp; omega) | omega)
  rw [hW0]
  clear hW0
  obtain ⟨p, hp⟩ : ∃ p, w.heap.size = p := ⟨_, rfl⟩
  obtain ⟨q, hq⟩ : ∃ q, w.heap.size + 1 = q := ⟨_, rfl⟩
  rw [hq, hp]
  rw [hp] at gp
  rw [hq] at gq
  have lp : p < W0.heap.size := by omega
  have lq : q < W0.heap.size := by omega
  have HR0 := hide ((HR.out.below gB).mono gB.size)
  have GB := hide gB
  have GP := hide gp
  have cp0 := (blk_cell gp 0).trans rfl; have cp1 := (blk_cell gp 1).trans rfl; have cp2 := (blk_cell gp 2).trans rfl; have cp3 := (blk_cell gp 3).trans rfl; have cp4 := (blk_cell gp 4).trans rfl; have cp5 := (blk_cell gp 5).trans rfl; have cp6 := (blk_cell gp 6).trans rfl
  have GQ := hide gq
  have cq0 := (blk_cell gq 0).trans rfl; have cq1 := (blk_cell gq 1).trans rfl; have cq2 := (blk_cell gq 2).trans rfl; have cq3 := (blk_cell gq 3).trans rfl
  clear gp gq gB gs hp hq
  go_wp2_with (first | (go_at_call 28; refine (Far_any v A n c _ HN.out ((HR0.out.below (by (repeat' first | exact zbR _ _ | assumption | refine zbD ?_ | refine zbA ?_ ?_ _ | refine zbS ?_ ?_ _ | refine zbT ?_ (by assumption) ?_ | (simp; done) | (simp; omega) | omega))).mono (by first | (simp; done) | (simp; omega) | omega))).mono ?_; rintro e w2 ⟨rfl, hb2⟩; rw [HF.out]; obtain ⟨hc2, hf2⟩ := bcell hb2; have q2 := hb2.size; (try simp only [World.size_alloc] at q2); have z2_p : p < w2.heap.size := (by omega); have z2_q : q < w2.heap.size := (by omega)) | (go_at_call 23; refine (RefCheck_any v A n c _ HN.out ((HR0.out.below (by (repeat' first | exact zbR _ _ | assumption | refine zbD ?_ | refine zbA ?_ ?_ _ | refine zbS ?_ ?_ _ | refine zbT ?_ (by assumption) ?_ | (simp; done) | (simp; omega) | omega))).mono (by first | (simp; done) | (simp; omega) | omega))).mono ?_; rintro e w3 ⟨rfl, hb3⟩; rw [HC.out]; obtain ⟨hc3, hf3⟩ := bcell hb3; have q3 := hb3.size; (try simp only [World.size_alloc] at q3); have z3_p : p < w3.heap.size := (by omega); have z3_q : q < w3.heap.size := (by omega)) | (go_at_call 29; refine (Fewest_any v A n c _ HN.out ((HR0.out.below (by (repeat' first | exact zbR _ _ | assumption | refine zbD ?_ | refine zbA ?_ ?_ _ | refine zbS ?_ ?_ _ | refine zbT ?_ (by assumption) ?_ | (simp; done) | (simp; omega) | omega))).mono (by first | (simp; done) | (simp; omega) | omega))).mono ?_; rintro e w4 ⟨rfl, hb4⟩; rw [HFE.out, HFW.out]; obtain ⟨hc4, hf4⟩ := bcell hb4; have q4 := hb4.size; (try simp only [World.size_alloc] at q4); have z4_p : p < w4.heap.size := (by omega); have z4_q : q < w4.heap.size := (by omega)) | (go_at_call 24; refine (Centres_any' v A n c _ HN.out ((HR0.out.below (by (repeat' first | exact zbR _ _ | assumption | refine zbD ?_ | refine zbA ?_ ?_ _ | refine zbS ?_ ?_ _ | refine zbT ?_ (by assumption) ?_ | (simp; done) | (simp; omega) | omega))).mono (by first | (simp; done) | (simp; omega) | omega))).mono ?_; rintro e w5 ⟨rfl, hb5⟩; rw [HCE.out]; obtain ⟨hc5, hf5⟩ := bcell hb5; have q5 := hb5.size; (try simp only [World.size_alloc] at q5); have z5_p : p < w5.heap.size := (by omega); have z5_q : q < w5.heap.size := (by omega)) | (go_at_call 30; refine (Blame_any v A n c _ HN.out ((HR0.out.below (by (repeat' first | exact zbR _ _ | assumption | refine zbD ?_ | refine zbA ?_ ?_ _ | refine zbS ?_ ?_ _ | refine zbT ?_ (by assumption) ?_ | (simp; done) | (simp; omega) | omega))).mono (by first | (simp; done) | (simp; omega) | omega))).mono ?_; rintro e w6 ⟨svB, cB, rfl, hoB, hb6⟩; have y1 : p < w5.heap.size + 1 := (by omega); have y2 : p < w5.heap.size + 1 + 1 := (by omega); have y3 : q < w5.heap.size + 1 := (by omega); have y4 : q < w5.heap.size + 1 + 1 := (by omega); have y5 : w5.heap.size < w5.heap.size + 1 + 1 := (by omega); obtain ⟨hc6, hf6⟩ := bcell hb6; (try simp only [World.size_alloc] at hc6 hf6); have q6 := hb6.size; (try simp only [World.size_alloc] at q6); have z6_p : p < w6.heap.size := (by omega); have z6_q : q < w6.heap.size := (by omega); have z6_w5 : w5.heap.size < w6.heap.size := (by omega); have z6_w5_1 : w5.heap.size + 1 < w6.heap.size := (by omega); rw [HBE.out, HBL.out]; have HIB := hide (owns_RdI hoB rfl); clear hoB) | (go_at_call 18; refine (isTruth_any v A n c m _ HV.out HN.out ((HR0.out.below (by (repeat' first | exact zbR _ _ | assumption | refine zbD ?_ | refine zbA ?_ ?_ _ | refine zbS ?_ ?_ _ | refine zbT ?_ (by assumption) ?_ | (simp; done) | (simp; omega) | omega))).mono (by first | (simp; done) | (simp; omega) | omega))).mono ?_; rintro e w7 ⟨rfl, hb7⟩; rw [HT.out]; obtain ⟨hc7, hf7⟩ := bcell hb7; have q7 := hb7.size; (try simp only [World.size_alloc] at q7); have z7_p : p < w7.heap.size := (by omega); have z7_q : q < w7.heap.size := (by omega); have z7_w5 : w5.heap.size < w7.heap.size := (by omega); have z7_w5_1 : w5.heap.size + 1 < w7.heap.size := (by omega)) | (go_at_call 16; refine (works_any _).mono ?_; rintro e w19 ⟨rfl, hb19⟩))
  go_ret
  exact ⟨rfl, GB.out.trans ((show Below W0.heap.size W0 _ by (repeat' first | exact zbR _ _ | assumption | refine zbD ?_ | refine zbA ?_ ?_ _ | refine zbS ?_ ?_ _ | refine zbT ?_ (by assumption) ?_ | (simp; done) | (simp; omega) | omega)).mono GB.out.size)⟩

set_option maxRecDepth 100000 in
set_option maxHeartbeats 6400000 in
theorem blamedLaw_un (v : L.Vw) (A : Option Addr) (n c : Nat) (m : L.Mk) (w : World) (hn : v.ss.length = n) (hr : RdS w w.heap.size A v.ss) (hf : L.farB v = false) (h : L.viewB v = true) (hb : L.BlmYes v m) (ht : L.truthB v m = false) :
    Calls Try.prog 7 #[.agg #[.int .i64 v.size, .slice A n c, .int .i64 v.wrong, .int .i64 v.hxl, .int .i64 v.hxh, .int .i64 v.hyl, .int .i64 v.hyh], .agg #[.int .i64 m.x, .int .i64 m.y, .int .i64 m.hx, .int .i64 m.hy]] w fun e w' => e = .returned (.bool true) ∧ Below w.heap.size w w' := by
  have HN := hide hn
  have HR := hide hr
  clear hn hr
  have HF := hide hf
  have HC := hide (L.check_t h)
  have HV := hide (L.viewB_ok h)
  obtain ⟨h1, h2, h3, h4, h5, h6⟩ := hb
  have HFE := hide h2
  have HCE := hide h3
  have HBE := hide h4
  have HT := hide ht
  obtain ⟨few, hfew⟩ : ∃ x, L.fewV v = x := ⟨_, rfl⟩
  rw [hfew] at h1
  have HFW := hide hfew
  obtain ⟨lb, hlb⟩ : ∃ x, (L.blmL v).length = x := ⟨_, rfl⟩
  have hlb2 : (lb : Int) ≤ (n : Int) := by have := HN.out; omega
  have HLB := hide hlb
  clear h hf h2 h3 h4 h5 h6 hfew ht hlb
  go_enter Try.func7, Try.ntmps7
  go_upto_region 1 with fail
  obtain ⟨W0, hW0⟩ : ∃ W0, (w.alloc (.cells #[.int .i64 v.size, .slice A n c, .int .i64 v.wrong, .int .i64 v.hxl, .int .i64 v.hxh, .int .i64 v.hyl, .int .i64 v.hyh] 26)).alloc (.cells #[.int .i64 m.x, .int .i64 m.y, .int .i64 m.hx, .int .i64 m.hy] 30) = W0 := ⟨_, rfl⟩
  have gp : W0.heap[w.heap.size]? = some (.cells #[.int .i64 v.size, .slice A n c, .int .i64 v.wrong, .int .i64 v.hxl, .int .i64 v.hxh, .int .i64 v.hyl, .int .i64 v.hyh] 26 (0, 0)) := by
    rw [← hW0]; exact ((Below.heap_alloc _ _ _ (by first | (simp; done) | (simp; omega) | omega)).trans (World.alloc_heap_new _ _))
  have gq : W0.heap[w.heap.size + 1]? = some (.cells #[.int .i64 m.x, .int .i64 m.y, .int .i64 m.hx, .int .i64 m.hy] 30 (0, 0)) := by
    rw [← hW0]; exact ((congrArg _ (by simp)).trans (World.alloc_heap_new _ _))
  have gs : W0.heap.size = w.heap.size + 1 + 1 := by rw [← hW0]; simp
  have gB : Below w.heap.size w W0 := by rw [← hW0]; (repeat' first | exact zbR _ _ | assumption | refine zbD ?_ | refine zbA ?_ ?_ _ | refine zbS ?_ ?_ _ | refine zbT ?_ (by assumption) ?_ | (simp; done) | (simp; omega) | omega)
  rw [hW0]
  clear hW0
  obtain ⟨p, hp⟩ : ∃ p, w.heap.size = p := ⟨_, rfl⟩
  obtain ⟨q, hq⟩ : ∃ q, w.heap.size + 1 = q := ⟨_, rfl⟩
  rw [hq, hp]
  rw [hp] at gp
  rw [hq] at gq
  have lp : p < W0.heap.size := by omega
  have lq : q < W0.heap.size := by omega
  have HR0 := hide ((HR.out.below gB).mono gB.size)
  have GB := hide gB
  have GP := hide gp
  have cp0 := (blk_cell gp 0).trans rfl; have cp1 := (blk_cell gp 1).trans rfl; have cp2 := (blk_cell gp 2).trans rfl; have cp3 := (blk_cell gp 3).trans rfl; have cp4 := (blk_cell gp 4).trans rfl; have cp5 := (blk_cell gp 5).trans rfl; have cp6 := (blk_cell gp 6).trans rfl
  have GQ := hide gq
  have cq0 := (blk_cell gq 0).trans rfl; have cq1 := (blk_cell gq 1).trans rfl; have cq2 := (blk_cell gq 2).trans rfl; have cq3 := (blk_cell gq 3).trans rfl
  clear gp gq gB gs hp hq
  go_wp2_with (first | (go_at_call 28; refine (Far_any v A n c _ HN.out ((HR0.out.below (by (repeat' first | exact zbR _ _ | assumption | refine zbD ?_ | refine zbA ?_ ?_ _ | refine zbS ?_ ?_ _ | refine zbT ?_ (by assumption) ?_ | (simp; done) | (simp; omega) | omega))).mono (by first | (simp; done) | (simp; omega) | omega))).mono ?_; rintro e w2 ⟨rfl, hb2⟩; rw [HF.out]; obtain ⟨hc2, hf2⟩ := bcell hb2; have q2 := hb2.size; (try simp only [World.size_alloc] at q2); have z2_p : p < w2.heap.size := (by omega); have z2_q : q < w2.heap.size := (by omega)) | (go_at_call 23; refine (RefCheck_any v A n c _ HN.out ((HR0.out.below (by (repeat' first | exact zbR _ _ | assumption | refine zbD ?_ | refine zbA ?_ ?_ _ | refine zbS ?_ ?_ _ | refine zbT ?_ (by assumption) ?_ | (simp; done) | (simp; omega) | omega))).mono (by first | (simp; done) | (simp; omega) | omega))).mono ?_; rintro e w3 ⟨rfl, hb3⟩; rw [HC.out]; obtain ⟨hc3, hf3⟩ := bcell hb3; have q3 := hb3.size; (try simp only [World.size_alloc] at q3); have z3_p : p < w3.heap.size := (by omega); have z3_q : q < w3.heap.size := (by omega)) | (go_at_call 29; refine (Fewest_any v A n c _ HN.out ((HR0.out.below (by (repeat' first | exact zbR _ _ | assumption | refine zbD ?_ | refine zbA ?_ ?_ _ | refine zbS ?_ ?_ _ | refine zbT ?_ (by assumption) ?_ | (simp; done) | (simp; omega) | omega))).mono (by first | (simp; done) | (simp; omega) | omega))).mono ?_; rintro e w4 ⟨rfl, hb4⟩; rw [HFE.out, HFW.out]; obtain ⟨hc4, hf4⟩ := bcell hb4; have q4 := hb4.size; (try simp only [World.size_alloc] at q4); have z4_p : p < w4.heap.size := (by omega); have z4_q : q < w4.heap.size := (by omega)) | (go_at_call 24; refine (Centres_any' v A n c _ HN.out ((HR0.out.below (by (repeat' first | exact zbR _ _ | assumption | refine zbD ?_ | refine zbA ?_ ?_ _ | refine zbS ?_ ?_ _ | refine zbT ?_ (by assumption) ?_ | (simp; done) | (simp; omega) | omega))).mono (by first | (simp; done) | (simp; omega) | omega))).mono ?_; rintro e w5 ⟨rfl, hb5⟩; rw [HCE.out]; obtain ⟨hc5, hf5⟩ := bcell hb5; have q5 := hb5.size; (try simp only [World.size_alloc] at q5); have z5_p : p < w5.heap.size := (by omega); have z5_q : q < w5.heap.size := (by omega)) | (go_at_call 30; refine (Blame_any v A n c _ HN.out ((HR0.out.below (by (repeat' first | exact zbR _ _ | assumption | refine zbD ?_ | refine zbA ?_ ?_ _ | refine zbS ?_ ?_ _ | refine zbT ?_ (by assumption) ?_ | (simp; done) | (simp; omega) | omega))).mono (by first | (simp; done) | (simp; omega) | omega))).mono ?_; rintro e w6 ⟨svB, cB, rfl, hoB, hb6⟩; have y1 : p < w5.heap.size + 1 := (by omega); have y2 : p < w5.heap.size + 1 + 1 := (by omega); have y3 : q < w5.heap.size + 1 := (by omega); have y4 : q < w5.heap.size + 1 + 1 := (by omega); have y5 : w5.heap.size < w5.heap.size + 1 + 1 := (by omega); obtain ⟨hc6, hf6⟩ := bcell hb6; (try simp only [World.size_alloc] at hc6 hf6); have q6 := hb6.size; (try simp only [World.size_alloc] at q6); have z6_p : p < w6.heap.size := (by omega); have z6_q : q < w6.heap.size := (by omega); have z6_w5 : w5.heap.size < w6.heap.size := (by omega); have z6_w5_1 : w5.heap.size + 1 < w6.heap.size := (by omega); rw [HBE.out, HLB.out]; have HIB := hide (owns_RdI hoB rfl); clear hoB) | (go_at_call 18; refine (isTruth_any v A n c m _ HV.out HN.out ((HR0.out.below (by (repeat' first | exact zbR _ _ | assumption | refine zbD ?_ | refine zbA ?_ ?_ _ | refine zbS ?_ ?_ _ | refine zbT ?_ (by assumption) ?_ | (simp; done) | (simp; omega) | omega))).mono (by first | (simp; done) | (simp; omega) | omega))).mono ?_; rintro e w7 ⟨rfl, hb7⟩; rw [HT.out]; obtain ⟨hc7, hf7⟩ := bcell hb7; have q7 := hb7.size; (try simp only [World.size_alloc] at q7); have z7_p : p < w7.heap.size := (by omega); have z7_q : q < w7.heap.size := (by omega); have z7_w5 : w5.heap.size < w7.heap.size := (by omega); have z7_w5_1 : w5.heap.size + 1 < w7.heap.size := (by omega)) | (go_at_call 16; refine (works_any _).mono ?_; rintro e w19 ⟨rfl, hb19⟩))
  go_ret
  exact ⟨rfl, GB.out.trans ((show Below W0.heap.size W0 _ by (repeat' first | exact zbR _ _ | assumption | refine zbD ?_ | refine zbA ?_ ?_ _ | refine zbS ?_ ?_ _ | refine zbT ?_ (by assumption) ?_ | (simp; done) | (simp; omega) | omega)).mono GB.out.size)⟩

set_option maxRecDepth 100000 in
set_option maxHeartbeats 6400000 in
theorem blamedLaw_yes (v : L.Vw) (A : Option Addr) (n c : Nat) (m : L.Mk) (w : World) (hn : v.ss.length = n) (hr : RdS w w.heap.size A v.ss) (hf : L.farB v = false) (h : L.viewB v = true) (hb : L.BlmYes v m) (ht : L.truthB v m = true) :
    Calls Try.prog 7 #[.agg #[.int .i64 v.size, .slice A n c, .int .i64 v.wrong, .int .i64 v.hxl, .int .i64 v.hxh, .int .i64 v.hyl, .int .i64 v.hyh], .agg #[.int .i64 m.x, .int .i64 m.y, .int .i64 m.hx, .int .i64 m.hy]] w fun e w' => e = .returned (.bool true) ∧ Below w.heap.size w w' := by
  have HN := hide hn
  have HR := hide hr
  clear hn hr
  have HF := hide hf
  have HC := hide (L.check_t h)
  have HV := hide (L.viewB_ok h)
  obtain ⟨h1, h2, h3, h4, h5, h6⟩ := hb
  obtain ⟨k1, k2, k3, k4, k5, k6, k7, k8⟩ := h6 ht
  have HFE := hide h2
  have HCE := hide h3
  have HBE := hide h4
  have HT := hide ht
  have HWE := hide k1
  have HSub := hide k8
  obtain ⟨few, hfew⟩ : ∃ x, L.fewV v = x := ⟨_, rfl⟩
  obtain ⟨cn, hcn⟩ : ∃ x, L.cenN v = x := ⟨_, rfl⟩
  obtain ⟨xl, hxl⟩ : ∃ x, (L.cenX v).1 = x := ⟨_, rfl⟩
  obtain ⟨xh, hxh⟩ : ∃ x, (L.cenX v).2 = x := ⟨_, rfl⟩
  obtain ⟨yl, hyl⟩ : ∃ x, (L.cenY v).1 = x := ⟨_, rfl⟩
  obtain ⟨yh, hyh⟩ : ∃ x, (L.cenY v).2 = x := ⟨_, rfl⟩
  obtain ⟨lb, hlb⟩ : ∃ x, (L.blmL v).length = x := ⟨_, rfl⟩
  obtain ⟨lw, hlw⟩ : ∃ x, (L.wrgL v m).length = x := ⟨_, rfl⟩
  have hlb2 : (lb : Int) ≤ (n : Int) := by have := HN.out; omega
  rw [hfew] at h1 k3
  rw [hlw] at k3
  rw [hcn] at k2
  rw [hxl] at k4
  rw [hxh] at k5
  rw [hyl] at k6
  rw [hyh] at k7
  have HFW := hide hfew
  have HCN := hide hcn
  have HXL := hide hxl
  have HXH := hide hxh
  have HYL := hide hyl
  have HYH := hide hyh
  have HLB := hide hlb
  have HLW := hide hlw
  have hn8 : (n : Int) ≤ 8 := by have := HV.out.n8; have := HN.out; omega
  have hlw8 : (lw : Int) ≤ 8 := by have := L.wrgL_len' v m; have := HN.out; omega
  clear h hf h2 h3 h4 h5 h6 k1 k8 hfew ht hcn hxl hxh hyl hyh hlb hlw
  go_enter Try.func7, Try.ntmps7
  go_upto_region 1 with fail
  obtain ⟨W0, hW0⟩ : ∃ W0, (w.alloc (.cells #[.int .i64 v.size, .slice A n c, .int .i64 v.wrong, .int .i64 v.hxl, .int .i64 v.hxh, .int .i64 v.hyl, .int .i64 v.hyh] 26)).alloc (.cells #[.int .i64 m.x, .int .i64 m.y, .int .i64 m.hx, .int .i64 m.hy] 30) = W0 := ⟨_, rfl⟩
  have gp : W0.heap[w.heap.size]? = some (.cells #[.int .i64 v.size, .slice A n c, .int .i64 v.wrong, .int .i64 v.hxl, .int .i64 v.hxh, .int .i64 v.hyl, .int .i64 v.hyh] 26 (0, 0)) := by
    rw [← hW0]; exact ((Below.heap_alloc _ _ _ (by first | (simp; done) | (simp; omega) | omega)).trans (World.alloc_heap_new _ _))
  have gq : W0.heap[w.heap.size + 1]? = some (.cells #[.int .i64 m.x, .int .i64 m.y, .int .i64 m.hx, .int .i64 m.hy] 30 (0, 0)) := by
    rw [← hW0]; exact ((congrArg _ (by simp)).trans (World.alloc_heap_new _ _))
  have gs : W0.heap.size = w.heap.size + 1 + 1 := by rw [← hW0]; simp
  have gB : Below w.heap.size w W0 := by rw [← hW0]; (repeat' first | exact zbR _ _ | assumption | refine zbD ?_ | refine zbA ?_ ?_ _ | refine zbS ?_ ?_ _ | refine zbT ?_ (by assumption) ?_ | (simp; done) | (simp; omega) | omega)
  rw [hW0]
  clear hW0
  obtain ⟨p, hp⟩ : ∃ p, w.heap.size = p := ⟨_, rfl⟩
  obtain ⟨q, hq⟩ : ∃ q, w.heap.size + 1 = q := ⟨_, rfl⟩
  rw [hq, hp]
  rw [hp] at gp
  rw [hq] at gq
  have lp : p < W0.heap.size := by omega
  have lq : q < W0.heap.size := by omega
  have HR0 := hide ((HR.out.below gB).mono gB.size)
  have GB := hide gB
  have GP := hide gp
  have cp0 := (blk_cell gp 0).trans rfl; have cp1 := (blk_cell gp 1).trans rfl; have cp2 := (blk_cell gp 2).trans rfl; have cp3 := (blk_cell gp 3).trans rfl; have cp4 := (blk_cell gp 4).trans rfl; have cp5 := (blk_cell gp 5).trans rfl; have cp6 := (blk_cell gp 6).trans rfl
  have GQ := hide gq
  have cq0 := (blk_cell gq 0).trans rfl; have cq1 := (blk_cell gq 1).trans rfl; have cq2 := (blk_cell gq 2).trans rfl; have cq3 := (blk_cell gq 3).trans rfl
  clear gp gq gB gs hp hq
  go_wp2_with (first | (go_at_call 28; refine (Far_any v A n c _ HN.out ((HR0.out.below (by (repeat' first | exact zbR _ _ | assumption | refine zbD ?_ | refine zbA ?_ ?_ _ | refine zbS ?_ ?_ _ | refine zbT ?_ (by assumption) ?_ | (simp; done) | (simp; omega) | omega))).mono (by first | (simp; done) | (simp; omega) | omega))).mono ?_; rintro e w2 ⟨rfl, hb2⟩; rw [HF.out]; obtain ⟨hc2, hf2⟩ := bcell hb2; have q2 := hb2.size; (try simp only [World.size_alloc] at q2); have z2_p : p < w2.heap.size := (by omega); have z2_q : q < w2.heap.size := (by omega)) | (go_at_call 23; refine (RefCheck_any v A n c _ HN.out ((HR0.out.below (by (repeat' first | exact zbR _ _ | assumption | refine zbD ?_ | refine zbA ?_ ?_ _ | refine zbS ?_ ?_ _ | refine zbT ?_ (by assumption) ?_ | (simp; done) | (simp; omega) | omega))).mono (by first | (simp; done) | (simp; omega) | omega))).mono ?_; rintro e w3 ⟨rfl, hb3⟩; rw [HC.out]; obtain ⟨hc3, hf3⟩ := bcell hb3; have q3 := hb3.size; (try simp only [World.size_alloc] at q3); have z3_p : p < w3.heap.size := (by omega); have z3_q : q < w3.heap.size := (by omega)) | (go_at_call 29; refine (Fewest_any v A n c _ HN.out ((HR0.out.below (by (repeat' first | exact zbR _ _ | assumption | refine zbD ?_ | refine zbA ?_ ?_ _ | refine zbS ?_ ?_ _ | refine zbT ?_ (by assumption) ?_ | (simp; done) | (simp; omega) | omega))).mono (by first | (simp; done) | (simp; omega) | omega))).mono ?_; rintro e w4 ⟨rfl, hb4⟩; rw [HFE.out, HFW.out]; obtain ⟨hc4, hf4⟩ := bcell hb4; have q4 := hb4.size; (try simp only [World.size_alloc] at q4); have z4_p : p < w4.heap.size := (by omega); have z4_q : q < w4.heap.size := (by omega)) | (go_at_call 24; refine (Centres_any' v A n c _ HN.out ((HR0.out.below (by (repeat' first | exact zbR _ _ | assumption | refine zbD ?_ | refine zbA ?_ ?_ _ | refine zbS ?_ ?_ _ | refine zbT ?_ (by assumption) ?_ | (simp; done) | (simp; omega) | omega))).mono (by first | (simp; done) | (simp; omega) | omega))).mono ?_; rintro e w5 ⟨rfl, hb5⟩; rw [HCE.out, HCN.out, HXL.out, HXH.out, HYL.out, HYH.out]; obtain ⟨hc5, hf5⟩ := bcell hb5; have q5 := hb5.size; (try simp only [World.size_alloc] at q5); have z5_p : p < w5.heap.size := (by omega); have z5_q : q < w5.heap.size := (by omega)) | (go_at_call 30; refine (Blame_any v A n c _ HN.out ((HR0.out.below (by (repeat' first | exact zbR _ _ | assumption | refine zbD ?_ | refine zbA ?_ ?_ _ | refine zbS ?_ ?_ _ | refine zbT ?_ (by assumption) ?_ | (simp; done) | (simp; omega) | omega))).mono (by first | (simp; done) | (simp; omega) | omega))).mono ?_; rintro e w6 ⟨svB, cB, rfl, hoB, hb6⟩; have y1 : p < w5.heap.size + 1 := (by omega); have y2 : p < w5.heap.size + 1 + 1 := (by omega); have y3 : q < w5.heap.size + 1 := (by omega); have y4 : q < w5.heap.size + 1 + 1 := (by omega); have y5 : w5.heap.size < w5.heap.size + 1 + 1 := (by omega); obtain ⟨hc6, hf6⟩ := bcell hb6; (try simp only [World.size_alloc] at hc6 hf6); have q6 := hb6.size; (try simp only [World.size_alloc] at q6); have z6_p : p < w6.heap.size := (by omega); have z6_q : q < w6.heap.size := (by omega); have z6_w5 : w5.heap.size < w6.heap.size := (by omega); have z6_w5_1 : w5.heap.size + 1 < w6.heap.size := (by omega); rw [HBE.out, HLB.out]; have HIB := hide (owns_RdI hoB rfl); clear hoB) | (go_at_call 18; refine (isTruth_any v A n c m _ HV.out HN.out ((HR0.out.below (by (repeat' first | exact zbR _ _ | assumption | refine zbD ?_ | refine zbA ?_ ?_ _ | refine zbS ?_ ?_ _ | refine zbT ?_ (by assumption) ?_ | (simp; done) | (simp; omega) | omega))).mono (by first | (simp; done) | (simp; omega) | omega))).mono ?_; rintro e w7 ⟨rfl, hb7⟩; rw [HT.out]; obtain ⟨hc7, hf7⟩ := bcell hb7; have q7 := hb7.size; (try simp only [World.size_alloc] at q7); have z7_p : p < w7.heap.size := (by omega); have z7_q : q < w7.heap.size := (by omega); have z7_w5 : w5.heap.size < w7.heap.size := (by omega); have z7_w5_1 : w5.heap.size + 1 < w7.heap.size := (by omega)) | (go_at_call 31; refine (Wrong_any v A n c m _ HN.out ((HR0.out.below (by (repeat' first | exact zbR _ _ | assumption | refine zbD ?_ | refine zbA ?_ ?_ _ | refine zbS ?_ ?_ _ | refine zbT ?_ (by assumption) ?_ | (simp; done) | (simp; omega) | omega))).mono (by first | (simp; done) | (simp; omega) | omega))).mono ?_; rintro e w8 ⟨svW, cW, rfl, hoW, hb8⟩; obtain ⟨hc8, hf8⟩ := bcell hb8; have q8 := hb8.size; (try simp only [World.size_alloc] at q8); have z8_p : p < w8.heap.size := (by omega); have z8_q : q < w8.heap.size := (by omega); have z8_w5 : w5.heap.size < w8.heap.size := (by omega); have z8_w5_1 : w5.heap.size + 1 < w8.heap.size := (by omega); rw [HWE.out, HLW.out]; have HIW := hide (owns_RdI hoW rfl); clear hoW) | (go_at_call 16; refine (works_any _).mono ?_; rintro e w19 ⟨rfl, hb19⟩))
  have hB5 : Below W0.heap.size W0 w5 := ((hb2.trans (hb3.mono q2)).trans (hb4.mono (by omega))).trans (hb5.mono (by omega))
  have hB6 : Below W0.heap.size W0 w6 := (hB5.trans ((((Below.refl _ w5).alloc (Nat.le_refl _) _).alloc (by simp) _).mono hB5.size)).trans (hb6.mono (by have := hB5.size; simp; omega))
  have hB68 : Below w6.heap.size w6 w8 := hb7.trans (hb8.mono q7)
  have hB8 : Below w.heap.size w w8 := GB.out.trans ((hB6.trans (hB68.mono hB6.size)).mono GB.out.size)
  have HIB' := hide ((HIB.out.below hB68).mono (B' := w8.heap.size) (by omega))
  have HB8 := hide hB8
  clear hb2 hb3 hb4 hb5 hb6 hb7 hb8 hc2 hf2 hc3 hf3 hc4 hf4 hc5 hf5 hc6 hf6 hc7 hf7 hc8 hf8 q2 q3 q4 q5 q6 q7 q8 hB8 HIB
  go_loopw [15] (fun i wr => ∃ k : Nat, k ≤ lb ∧ i = .int .i64 k ∧ Below w8.heap.size w8 wr) (fun i _ => lb - (intOf i).toNat)
  case atStart => exact ⟨0, by omega, rfl, Below.refl _ _⟩
  case round =>
    obtain ⟨k, hk, rfl, hB⟩ := hrel
    have qB := hB.size
    by_cases hlt : k < lb
    · obtain ⟨z, hz⟩ : ∃ z, (L.blmL v)[k]? = some z := ⟨_, List.getElem?_eq_getElem (by have := HLB.out; omega)⟩
      have HZ := hide (HSub.out z (List.mem_of_getElem? hz))
      obtain ⟨b1, o1, hA1, hbB1, d1⟩ := (HIB'.out.below hB) k z hz
      subst hA1
      clear hz
      have hlt' : (k : Int) < (lb : Int) := by omega
      have hk0 : (0 : Int) ≤ (k : Int) := by omega
      have hk1 : (k : Int) ≤ 8 := by omega
      go_wp2_with fail
      go_loopw [16, 17] (fun fo t wr2 => ∃ j : Nat, j ≤ lw ∧ t = .int .i64 j ∧ fo = .bool (decide (z ∈ (L.wrgL v m).take j)) ∧ Below wr.heap.size wr wr2) (fun _ t _ => lw - (intOf t).toNat)
      case atStart => exact ⟨0, by omega, rfl, by simp, Below.refl _ _⟩
      case round =>
        obtain ⟨j, hj, rfl, rfl, hB2⟩ := hrel
        have qB2 := hB2.size
        by_cases hlt2 : j < lw
        · obtain ⟨y, hy⟩ : ∃ y, (L.wrgL v m)[j]? = some y := ⟨_, List.getElem?_eq_getElem (by have := HLW.out; omega)⟩
          obtain ⟨b2, o2, hA2, hbB2, d2⟩ := (HIW.out.below (hB.trans (hB2.mono qB))) j y hy
          subst hA2
          have d1' := (hB2.cell (p := ⟨b1, o1 + k, none⟩) (by show b1 < _; omega)).trans d1
          have HTK := hide (show (L.wrgL v m).take (j + 1) = (L.wrgL v m).take j ++ [y] by rw [List.take_add_one, hy]; rfl)
          clear hy
          have hlt2' : (j : Int) < (lw : Int) := by omega
          have hj0 : (0 : Int) ≤ (j : Int) := by omega
          cases hd : decide (z ∈ (L.wrgL v m).take j)
          · cases he : (y == z)
            all_goals
              go_wp2_with fail
              go_quiet (fail)
              go_wp2_with fail
              go_roundw
              case rel => exact ⟨j + 1, by omega, by go_num, by (have h1 : decide (z ∈ (L.wrgL v m).take (j + 1)) = (y == z) := by (rw [HTK.out]; exact dec_app_f hd)); rw [h1, he], below_drewN hB2 _⟩
              case measure => simp [intOf]; omega
          · go_wp2_with fail
            go_quiet (fail)
            go_wp2_with fail
            go_roundw
            case rel => exact ⟨j + 1, by omega, by go_num, by (have h1 : decide (z ∈ (L.wrgL v m).take (j + 1)) = true := by (rw [HTK.out]; exact dec_app_t hd)); rw [h1], below_drewN hB2 _⟩
            case measure => simp [intOf]; omega
        · have hjn : j = lw := by omega
          subst hjn
          have hd : decide (z ∈ (L.wrgL v m).take j) = true := by
            rw [List.take_of_length_le (by have := HLW.out; omega)]
            exact decide_eq_true HZ.out
          go_wp2_with fail
          go_roundw
          case rel => exact ⟨k + 1, by omega, by go_num, hB.trans (hB2.mono qB)⟩
          case measure => simp [intOf]; omega
    · have hkn : k = lb := by omega
      subst hkn
      go_wp2_with (go_at_call 16; refine (works_any _).mono ?_; rintro e w19 ⟨rfl, hb19⟩)
      go_ret
      exact ⟨rfl, (HB8.out.trans (hB.mono HB8.out.size)).trans (hb19.mono (by have := HB8.out.size; omega))⟩

theorem blamedLaw_any (v : L.Vw) (A : Option Addr) (n c : Nat) (m : L.Mk) (w : World) (hn : v.ss.length = n) (hr : RdS w w.heap.size A v.ss) :
    Calls Try.prog 7 #[.agg #[.int .i64 v.size, .slice A n c, .int .i64 v.wrong, .int .i64 v.hxl, .int .i64 v.hxh, .int .i64 v.hyl, .int .i64 v.hyh], .agg #[.int .i64 m.x, .int .i64 m.y, .int .i64 m.hx, .int .i64 m.hy]] w fun e w' => e = .returned (.bool true) ∧ Below w.heap.size w w' := by
  cases hf : L.farB v
  · cases h : L.viewB v
    · exact blamedLaw_bad v A n c m w hn hr hf h
    · rcases L.blm_cases h m with hb | hb
      · exact blamedLaw_no v A n c m w hn hr hf h hb
      · cases ht : L.truthB v m
        · exact blamedLaw_un v A n c m w hn hr hf h hb ht
        · exact blamedLaw_yes v A n c m w hn hr hf h hb ht
  · exact blamedLaw_far v A n c m w hn hr hf

end Go.Proofs.Ytgnobonhohfofaa
