/-
  Part of a claim's texts: contracts of the program's functions and the plain functions that they compute, in build order.
-/
import Derived.Test.YtampfpnkkdihaaaZB06
import Derived.Test.YtampfpnkkdihaaaZB07
import Derived.Test.YtampfpnkkdihaaaZB08
namespace Go.Proofs.Ytampfpnkkdihaaa
open Go.RowKit
attribute [local go_sem ↓] Go.wp_at_zero Go.wp_at_succ
attribute [local go_sem] run_eqA

set_option maxRecDepth 100000 in
set_option maxHeartbeats 6400000 in
theorem countLaw_far (each more : Int) (A : Option Addr) (n c : Nat) (w : World) (h : (8 : Int) < (n : Int) ∨ ((n : Int) ≤ 8 ∧ (each < 0 ∨ (0 ≤ each ∧ (9 < each ∨ (each ≤ 9 ∧ (more < 0 ∨ (0 ≤ more ∧ 9 < more)))))))) :
    Calls Try.prog 9 #[.agg #[.int .i64 each, .int .i64 more], .slice A n c] w fun e w' => e = .returned (.bool true) ∧ Below w.heap.size w w' := by
  rcases h with h1 | ⟨h1, h2 | ⟨h2, h3 | ⟨h3, h4 | ⟨h4, h5⟩⟩⟩⟩
  all_goals
    go_enter Try.func9, Try.ntmps9
    go_wp2_with (go_at_call 16; refine (works_any _).mono ?_; rintro e w19 ⟨rfl, hb19⟩)
    go_ret
    exact ⟨rfl, by (repeat' first | exact zbR _ _ | assumption | refine zbD ?_ | refine zbA ?_ ?_ _ | refine zbS ?_ ?_ _ | refine zbT ?_ (by assumption) ?_ | (simp; done) | (simp; omega) | omega)⟩

set_option maxRecDepth 100000 in
set_option maxHeartbeats 64000000 in
theorem countLaw_in (each more : Int) (l : List L.Ap) (A : Option Addr) (n c : Nat) (w : World) (hn : l.length = n) (hr : RdA w w.heap.size A l) (hA : A = none → c = 0) (hn8 : (n : Int) ≤ 8) (e0 : 0 ≤ each) (e9 : each ≤ 9) (o0 : 0 ≤ more) (o9 : more ≤ 9) :
    Calls Try.prog 9 #[.agg #[.int .i64 each, .int .i64 more], .slice A n c] w fun e w' => e = .returned (.bool true) ∧ Below w.heap.size w w' := by
  have HN := hide hn
  have HR := hide hr
  have HA := hide hA
  clear hn hr hA
  go_enter Try.func9, Try.ntmps9
  go_upto_region 4 with fail
  obtain ⟨W0, hW0⟩ : ∃ W0, (w.alloc (.cells #[.int .i64 each, .int .i64 more] 62)).alloc (.cells #[.int .i64 each, .int .i64 each] 64) = W0 := ⟨_, rfl⟩
  have gp : W0.heap[w.heap.size]? = some (.cells #[.int .i64 each, .int .i64 more] 62 (0, 0)) := by
    rw [← hW0]; exact (Below.heap_alloc _ _ _ (by first | (simp; done) | (simp; omega) | omega)).trans (World.alloc_heap_new _ _)
  have gq : W0.heap[w.heap.size + 1]? = some (.cells #[.int .i64 each, .int .i64 each] 64 (0, 0)) := by
    rw [← hW0]; exact (congrArg _ (by simp)).trans (World.alloc_heap_new _ _)
  have gs : W0.heap.size = w.heap.size + 1 + 1 := by rw [← hW0]; simp
  have gB : Below w.heap.size w W0 := by rw [← hW0]; (repeat' first | exact zbR _ _ | assumption | refine zbD ?_ | refine zbA ?_ ?_ _ | refine zbS ?_ ?_ _ | refine zbT ?_ (by assumption) ?_ | (simp; done) | (simp; omega) | omega)
  rw [hW0]
  clear hW0
  obtain ⟨p, hp⟩ : ∃ p, w.heap.size = p := ⟨_, rfl⟩
  obtain ⟨q, hq⟩ : ∃ q, w.heap.size + 1 = q := ⟨_, rfl⟩
  rw [hq]
  (try rw [hp])
  rw [hp] at gp
  rw [hq] at gq
  have lp : p < W0.heap.size := by omega
  have lq : q < W0.heap.size := by omega
  have hpq : p ≠ q := by omega
  have hwq : w.heap.size ≤ q := by omega
  have HR0 := hide (HR.out.below gB)
  have GB := hide gB
  have GP := hide gp
  have GQ := hide gq
  have hwp := hp
  clear gp gq gB HR hq gs hp
  go_upto_region 6 with fail
  go_loopw [6, 7] (fun m t wr => ∃ i : Nat, i ≤ n ∧ t = .int .i64 i ∧ (∃ s : L.Rs, Hid (L.runFrom each more (L.rsE each) (l.take i) = s) ∧ Hid (s.bad = false) ∧ Hid (L.RsBd s i) ∧ s.ds.length ≤ i ∧ (∃ sv c', m = .slice sv s.ds.length c' ∧ Hid (wr.ownsRow W0.heap.size 3 1 (.slice sv s.ds.length c') s.ds.length (flatI s.ds))) ∧ Hid (wr.heap[q]? = some (.cells #[.int .i64 s.l0, .int .i64 s.l1] 64 (0, 0)))) ∧ Keeps (fun y => y ≠ q) W0 wr) (fun _ t _ => n - (intOf t).toNat)
  case atStart => exact ⟨0, by omega, rfl, ⟨L.rsE each, hide rfl, hide rfl, hide ⟨e0, by simp only [L.rsE]; omega, e0, by simp only [L.rsE]; omega⟩, by simp [L.rsE], ⟨none, 0, rfl, hide (World.ownsRow_nil _ _ _ _)⟩, GQ⟩, Keeps.refl _ _⟩
  case round =>
    obtain ⟨i, hi, rfl, ⟨s, HS, HSB, HBD, hsl, ⟨sv, c', rfl, hown⟩, HQ⟩, hK⟩ := hrel
    have qK := hK.rest.size
    have lpr : p < wr.heap.size := by omega
    have lqr : q < wr.heap.size := by omega
    have hi0 : (0 : Int) ≤ (i : Int) := by omega
    have HW := hide (hK.below (n := w.heap.size) (fun y hy => by show y ≠ q; omega) (by omega))
    have GBr := hide (GB.out.trans HW.out)
    obtain ⟨a0, a1, b0, b1⟩ := HBD.out
    by_cases hlt : i < n
    · obtain ⟨a, ha⟩ : ∃ a, l[i]? = some a := ⟨_, List.getElem?_eq_getElem (by have := HN.out; omega)⟩
      obtain ⟨b, o, hA, hbB, hat⟩ := (HR0.out.below HW.out) i a ha
      subst hA
      have HNX := hide (show L.runFrom each more (L.rsE each) (l.take (i + 1)) = L.stepR each more s a by rw [L.runFrom_take ha (by rw [HS.out]; exact HSB.out), HS.out])
      have HNB := hide (L.stepR_bd (a := a) HBD.out e0 e9 o0 o9)
      have hlt' : (i : Int) < (n : Int) := by omega
      obtain ⟨c0, c1, c2, c3, c4, c5, c6, c7, c8, c9, c10, c11, c12, c13, hlen, hrd, hnil⟩ := hat
      have HLEN := hide hlen
      have HRD := hide (hrd.mono (B' := wr.heap.size) (by omega))
      have lbr : b < wr.heap.size := by omega
      clear ha hlen hrd hnil hbB
      have HOW := hide hown.out
      have HKK := hide hK
      have HQQ := hide HQ.out
      clear hown hK HQ
      go_upto_region 8 with fail
      by_cases hbad : (a.kind != 3) = true ∨ ((a.kind != 3) = false ∧ (decide (a.side < 0) = true ∨ (decide (a.side < 0) = false ∧ (decide (1 < a.side) = true ∨ (decide (1 < a.side) = false ∧ (Hid (L.validB a.v a.b = false) ∨ (Hid (L.validB a.v a.b = true) ∧ (a.said != 1) = true ∧ (a.said != 2) = true)))))))
      · refine cnt8_bad (fun _ _ d _ _ h => by cases d <;> exact h) a b o i n c wr hi0 hlt' hn8 lbr HLEN HRD c0 c1 c2 c3 c4 c5 c6 c7 c8 c9 c10 c11 c12 c13 hbad _ _ _ _ _ _ _ _ _ _ _ _ _ _ _ _ _ _ _ _ _ _ _ _ _ _ _ _ _ _ _ _ _ _ _ _ _ _ _ _ _ _ _ _ _ _ _ _ _ _ _ _ _ _ _ _ _ _ _ _ _ _ _ _ _ _ _ _ _ _ _ _ _ _ _ _ _ _ _ _ _ _ _ _ _ _ _ _ _ _ _ _ _ _ _ _ _ _ _ _ _ _ _ _ _ _ _ _ _ _ _ _ _ _ _ _ _ _ _ _ _ _ _ _ _ _ _ _ _ _ _ _ _ _ _ _ _ _ _ _ _ _ _ _ _ _ _ _ _ _ _ _ _ _ _ _ _ _ _ _ _ _ _ _ _ _ _ _ _ _ _ _ _ _ _ _ _ _ _ _ _ _ _ _ _ _ _ _ _ _ _ _ _ _ _ _ _ _ _ _ _ _ _ _ _ _ _ _ _ _ _ _ _ _ _ _ _ _ _ _ _ _ _ _ _ _ _ _ _ _ _ _ _ _ _ _ _ _ _ _ _ _ _ _ _ _ _ _ _ _ _ _ _ _ _ _ _ _ _ _ _ _ _ _ _ _ _ _ _ _ _ _ _ _ _ _ _ _ _ _  ?_
        intro u54 u55 u56 u57 u58 u59 u60 u61 u62 u63 u64 u65 u66 u67 u68 u69 u70 u71 u72 u73 u74 u75 u76 u77 u78 u79 u80 u81 u82 u83 u84 u85 u86 u87 u88 u89 u90 u91 u92 u93 u94 u95 u96 u97 u98 u99 u100 u101 u102 u103 u104 w6 HB6
        clear hbad
        go_wp2_with (go_at_call 16; refine (works_any _).mono ?_; rintro e w19 ⟨rfl, hb19⟩)
        go_ret
        exact ⟨rfl, GBr.out.trans ((HB6.out.trans (hb19.mono HB6.out.size)).mono GBr.out.size)⟩
      · obtain ⟨d1, v0, v1, HVD, hu⟩ : (a.kind != 3) = false ∧ decide (a.side < 0) = false ∧ decide (1 < a.side) = false ∧ Hid (L.validB a.v a.b = true) ∧ (a.said = 1 ∨ a.said = 2) := by
          rcases Bool.eq_false_or_eq_true (a.kind != 3) with h1 | h1
          · exact absurd (.inl h1) hbad
          · rcases Bool.eq_false_or_eq_true (decide (a.side < 0)) with h2 | h2
            · exact absurd (.inr ⟨h1, .inl h2⟩) hbad
            · rcases Bool.eq_false_or_eq_true (decide (1 < a.side)) with h3 | h3
              · exact absurd (.inr ⟨h1, .inr ⟨h2, .inl h3⟩⟩) hbad
              · rcases Bool.eq_false_or_eq_true (L.validB a.v a.b) with h4 | h4
                · refine ⟨h1, h2, h3, hide h4, ?_⟩
                  by_cases e1 : a.said = 1
                  · exact .inl e1
                  · by_cases e2 : a.said = 2
                    · exact .inr e2
                    · exact absurd (.inr ⟨h1, .inr ⟨h2, .inr ⟨h3, .inr ⟨hide h4, by simpa using e1, by simpa using e2⟩⟩⟩⟩) hbad
                · exact absurd (.inr ⟨h1, .inr ⟨h2, .inr ⟨h3, .inl (hide h4)⟩⟩⟩) hbad
        clear hbad
        refine cnt8_good (fun _ _ d _ _ h => by cases d <;> exact h) a b o i n c wr hi0 hlt' hn8 lbr HLEN HRD c0 c1 c2 c3 c4 c5 c6 c7 c8 c9 c10 c11 c12 c13 d1 v0 v1 HVD hu _ _ _ _ _ _ _ _ _ _ _ _ _ _ _ _ _ _ _ _ _ _ _ _ _ _ _ _ _ _ _ _ _ _ _ _ _ _ _ _ _ _ _ _ _ _ _ _ _ _ _ _ _ _ _ _ _ _ _ _ _ _ _ _ _ _ _ _ _ _ _ _ _ _ _ _ _ _ _ _ _ _ _ _ _ _ _ _ _ _ _ _ _ _ _ _ _ _ _ _ _ _ _ _ _ _ _ _ _ _ _ _ _ _ _ _ _ _ _ _ _ _ _ _ _ _ _ _ _ _ _ _ _ _ _ _ _ _ _ _ _ _ _ _ _ _ _ _ _ _ _ _ _ _ _ _ _ _ _ _ _ _ _ _ _ _ _ _ _ _ _ _ _ _ _ _ _ _ _ _ _ _ _ _ _ _ _ _ _ _ _ _ _ _ _ _ _ _ _ _ _ _ _ _ _ _ _ _ _ _ _ _ _ _ _ _ _ _ _ _ _ _ _ _ _ _ _ _ _ _ _ _ _ _ _ _ _ _ _ _ _ _ _ _ _ _ _ _ _ _ _ _ _ _ _ _ _ _ _ _ _ _ _ _ _ _ _ _ _ _ _ _ _ _ _ _ _ _ _ _  ?_
        intro u54 u55 u56 u57 u58 u59 u60 u61 u62 u63 u64 u65 u66 u67 u68 u69 u70 u71 u72 u73 u74 u75 u76 u77 u78 u79 u80 u81 u82 u83 u84 u85 u86 u87 u88 u89 u90 u91 u92 u93 u94 u95 u96 u97 u98 u99 u100 u101 u102 u103 u104 w6 HB6
        have HU := hide hu
        have hk : a.kind = 3 := by simpa using d1
        have hsu : L.sure a.said = true := by rcases hu with h | h <;> rw [h] <;> rfl
        have hside : a.side = 0 ∨ a.side = 1 := by
          have x0 : ¬ a.side < 0 := by simpa using v0
          have x1 : ¬ 1 < a.side := by simpa using v1
          omega
        have HASK := hide (L.ask_vals HVD.out hsu)
        obtain ⟨cv, hcv⟩ : ∃ y, L.callV a.v a.b = y := ⟨_, rfl⟩
        obtain ⟨ce, hce⟩ : ∃ y, L.callE a.v a.b = y := ⟨_, rfl⟩
        obtain ⟨dv, hdv⟩ : ∃ y, L.decV a.said a.v a.b = y := ⟨_, rfl⟩
        obtain ⟨dk, hdk⟩ : ∃ y, L.decK a.said a.v a.b = y := ⟨_, rfl⟩
        have HCV := hide hcv
        have HCE := hide hce
        have HDV := hide hdv
        have HDK := hide hdk
        have HDE := hide HASK.out.1
        have HVAL := hide HASK.out.2
        rw [hcv, hce, hdv, hdk] at HVAL
        have HSTEP := hide (fun (hl : s.left a.side ≠ 0) => L.step_ask (each := each) (more := more) hk HVD.out hsu hside hl)
        clear hcv hce hdv hdk HASK hu hk hsu d1 v0 v1
        obtain ⟨sd, hsd⟩ : ∃ sd : Nat, a.side = (sd : Int) := ⟨a.side.toNat, by omega⟩
        have hsd2 : sd = 0 ∨ sd = 1 := by omega
        have hsl2 : sd < 2 := by omega
        have hsi0 : (0 : Int) ≤ (sd : Int) := by omega
        have hsi1 : (sd : Int) < 2 := by omega
        obtain ⟨lf, hlf⟩ : ∃ lf, s.left a.side = lf := ⟨_, rfl⟩
        have hlb : -100 ≤ lf ∧ lf ≤ 100000 := by rw [← hlf]; unfold L.Rs.left; split <;> omega
        have HLF := hide hlf
        obtain ⟨hlb0, hlb1⟩ := hlb
        have HSD2 := hide hsd2
        have HSDE := hide hsd
        clear hlf hside hsd2 hsd
        have lb6 : b < w6.heap.size := Nat.lt_of_lt_of_le lbr HB6.out.size
        have HRD6 := hide ((HRD.out.below HB6.out).mono (B' := w6.heap.size) HB6.out.size)
        have HQ6 := hide ((HB6.out.block q lqr).trans HQQ.out)
        have lq6 : q < w6.heap.size := blk_lt HQ6.out
        have hs6 := HB6.out.size
        have k0 := (HB6.out.cell (p := ⟨b, o + i * 14, none⟩) lbr).trans c0
        have k1 := (HB6.out.cell (p := ⟨b, o + i * 14 + 1, none⟩) lbr).trans c1
        have k2 := (HB6.out.cell (p := ⟨b, o + i * 14 + 2, none⟩) lbr).trans c2
        have k3 := (HB6.out.cell (p := ⟨b, o + i * 14 + 3, none⟩) lbr).trans c3
        have k4 := (HB6.out.cell (p := ⟨b, o + i * 14 + 4, none⟩) lbr).trans c4
        have k5 := (HB6.out.cell (p := ⟨b, o + i * 14 + 5, none⟩) lbr).trans c5
        have k6 := (HB6.out.cell (p := ⟨b, o + i * 14 + 6, none⟩) lbr).trans c6
        have k7 := (HB6.out.cell (p := ⟨b, o + i * 14 + 7, none⟩) lbr).trans c7
        have k8 := (HB6.out.cell (p := ⟨b, o + i * 14 + 8, none⟩) lbr).trans c8
        have k9 := (HB6.out.cell (p := ⟨b, o + i * 14 + 9, none⟩) lbr).trans c9
        have k10 := (HB6.out.cell (p := ⟨b, o + i * 14 + 10, none⟩) lbr).trans c10
        have k11 := (HB6.out.cell (p := ⟨b, o + i * 14 + 11, none⟩) lbr).trans c11
        have k12 := (HB6.out.cell (p := ⟨b, o + i * 14 + 12, none⟩) lbr).trans c12
        have k13 := (HB6.out.cell (p := ⟨b, o + i * 14 + 13, none⟩) lbr).trans c13
        have y1 : w6.cell? ⟨b, o + i * 14 + 1, none⟩ = some (.int .i64 (sd : Int)) := by rw [k1, HSDE.out]
        have cqs : w6.cell? ⟨q, sd, none⟩ = some (.int .i64 lf) := by
          rw [← HLF.out, HSDE.out]
          rcases HSD2.out with rfl | rfl
          · exact (blk_cell HQ6.out 0).trans rfl
          · exact (blk_cell HQ6.out 1).trans rfl
        have Hk := hide (show _ from And.intro k0 (And.intro k1 (And.intro k2 (And.intro k3 (And.intro k4 (And.intro k5 (And.intro k6 (And.intro k7 (And.intro k8 (And.intro k9 (And.intro k10 (And.intro k11 (And.intro k12 k13)))))))))))))
        clear k0 k1 k2 k3 k4 k5 k6 k7 k8 k9 k10 k11 k12 k13 c0 c1 c2 c3 c4 c5 c6 c7 c8 c9 c10 c11 c12 c13
        by_cases hl : lf = 0
        · have dl : (lf == 0) = true := by rw [hl]; rfl
          clear hl
          go_wp2_with (go_at_call 16; refine (works_any _).mono ?_; rintro e w19 ⟨rfl, hb19⟩)
          go_ret
          exact ⟨rfl, GBr.out.trans ((HB6.out.trans (hb19.mono HB6.out.size)).mono GBr.out.size)⟩
        · have dl : (lf == 0) = false := by simpa using hl
          have HE0 := hide (HSTEP.out (by rw [HLF.out]; exact hl))
          clear hl HSTEP
          go_upto_region 12 with fail
          clear cqs y1 dl
          obtain ⟨c0, c1, c2, c3, c4, c5, c6, c7, c8, c9, c10, c11, c12, c13⟩ := Hk.out
          refine cnt12 (fun _ _ d _ _ h => by cases d <;> exact h) a b o i n c w6 hi0 hlt' hn8 lb6 HLEN HRD6 c0 c1 c2 c3 c4 c5 c6 c7 c8 c9 c10 c11 c12 c13 cv ce HCV HCE _ _ _ _ _ _ _ _ _ _ _ _ _ _ _ _ _ _ _ _ _ _ _ _ _ _ _ _ _ _ _ _ _ _ _ _ _ _ _ _ _ _ _ _ _ _ _ _ _ _ _ _ _ _ _ _ _ _ _ _ _ _ _ _ _ _ _ _ _ _ _ _ _ _ _ _ _ _ _ _ _ _ _ _ _ _ _ _ _ _ _ _ _ _ _ _ _ _ _ _ _ _ _ _ _ _ _ _ _ _ _ _ _ _ _ _ _ _ _ _ _ _ _ _ _ _ _ _ _ _ _ _ _ _ _ _ _ _ _ _ _ _ _ _ _ _ _ _ _ _ _ _ _ _ _ _ _ _ _ _ _ _ _ _ _ _ _ _ _ _ _ _ _ _ _ _ _ _ _ _ _ _ _ _ _ _ _ _ _ _ _ _ _ _ _ _ _ _ _ _ _ _ _ _ _ _ _ _ _ _ _ _ _ _ _ _ _ _ _ _ _ _ _ _ _ _ _ _ _ _ _ _ _ _ _ _ _ _ _ _ _ _ _ _ _ _ _ _ _ _ _ _ _ _ _ _ _ _ _ _ _ _ _ _ _ _ _ _ _ _ _ _ _ _ _ _ _ _ _ _  ?_
          intro u116 u117 u118 u119 u120 u121 u122 u123 u124 u125 u126 u127 u128 u129 w7 HB7
          have lb7 : b < w7.heap.size := Nat.lt_of_lt_of_le lb6 HB7.out.size
          have HRD7 := hide ((HRD6.out.below HB7.out).mono (B' := w7.heap.size) HB7.out.size)
          have hs7 := HB7.out.size
          have k0 := (HB7.out.cell (p := ⟨b, o + i * 14, none⟩) lb6).trans c0
          have k1 := (HB7.out.cell (p := ⟨b, o + i * 14 + 1, none⟩) lb6).trans c1
          have k2 := (HB7.out.cell (p := ⟨b, o + i * 14 + 2, none⟩) lb6).trans c2
          have k3 := (HB7.out.cell (p := ⟨b, o + i * 14 + 3, none⟩) lb6).trans c3
          have k4 := (HB7.out.cell (p := ⟨b, o + i * 14 + 4, none⟩) lb6).trans c4
          have k5 := (HB7.out.cell (p := ⟨b, o + i * 14 + 5, none⟩) lb6).trans c5
          have k6 := (HB7.out.cell (p := ⟨b, o + i * 14 + 6, none⟩) lb6).trans c6
          have k7 := (HB7.out.cell (p := ⟨b, o + i * 14 + 7, none⟩) lb6).trans c7
          have k8 := (HB7.out.cell (p := ⟨b, o + i * 14 + 8, none⟩) lb6).trans c8
          have k9 := (HB7.out.cell (p := ⟨b, o + i * 14 + 9, none⟩) lb6).trans c9
          have k10 := (HB7.out.cell (p := ⟨b, o + i * 14 + 10, none⟩) lb6).trans c10
          have k11 := (HB7.out.cell (p := ⟨b, o + i * 14 + 11, none⟩) lb6).trans c11
          have k12 := (HB7.out.cell (p := ⟨b, o + i * 14 + 12, none⟩) lb6).trans c12
          have k13 := (HB7.out.cell (p := ⟨b, o + i * 14 + 13, none⟩) lb6).trans c13
          clear c0 c1 c2 c3 c4 c5 c6 c7 c8 c9 c10 c11 c12 c13
          have Hk7 := hide (show _ from And.intro k1 k2)
          go_upto_region 13 with fail
          refine cnt13 (fun _ _ d _ _ h => by cases d <;> exact h) a b o i n c w7 hi0 hlt' hn8 lb7 HLEN HRD7 k0 k1 k2 k3 k4 k5 k6 k7 k8 k9 k10 k11 k12 k13 dv dk HDV HDK HDE _ _ _ _ _ _ _ _ _ _ _ _ _ _ _ _ _ _ _ _ _ _ _ _ _ _ _ _ _ _ _ _ _ _ _ _ _ _ _ _ _ _ _ _ _ _ _ _ _ _ _ _ _ _ _ _ _ _ _ _ _ _ _ _ _ _ _ _ _ _ _ _ _ _ _ _ _ _ _ _ _ _ _ _ _ _ _ _ _ _ _ _ _ _ _ _ _ _ _ _ _ _ _ _ _ _ _ _ _ _ _ _ _ _ _ _ _ _ _ _ _ _ _ _ _ _ _ _ _ _ _ _ _ _ _ _ _ _ _ _ _ _ _ _ _ _ _ _ _ _ _ _ _ _ _ _ _ _ _ _ _ _ _ _ _ _ _ _ _ _ _ _ _ _ _ _ _ _ _ _ _ _ _ _ _ _ _ _ _ _ _ _ _ _ _ _ _ _ _ _ _ _ _ _ _ _ _ _ _ _ _ _ _ _ _ _ _ _ _ _ _ _ _ _ _ _ _ _ _ _ _ _ _ _ _ _ _ _ _ _ _ _ _ _ _ _ _ _ _ _ _ _ _ _ _ _ _ _ _ _ _ _ _ _ _ _ _ _ _ _ _ _ _ _ _ _ _ _ _ _  ?_
          intro u130 u131 u132 u133 u134 u135 u136 u137 u138 u139 u140 u141 u142 u143 u144 u145 u146 u147 u148 u149 w8 HB8
          have y1 : w8.cell? ⟨b, o + i * 14 + 1, none⟩ = some (.int .i64 (sd : Int)) := by rw [(HB8.out.cell (p := ⟨b, o + i * 14 + 1, none⟩) lb7), k1, HSDE.out]
          have y2 := (HB8.out.cell (p := ⟨b, o + i * 14 + 2, none⟩) lb7).trans k2
          clear k0 k1 k2 k3 k4 k5 k6 k7 k8 k9 k10 k11 k12 k13 Hk Hk7
          have HB18 := hide (show Below wr.heap.size wr w8 from (HB6.out.trans (HB7.out.mono hs6)).trans (HB8.out.mono (by omega)))
          have bq8 := (HB18.out.block q lqr).trans HQQ.out
          have cqs : w8.cell? ⟨q, sd, none⟩ = some (.int .i64 lf) := by
            rw [← HLF.out, HSDE.out]
            rcases HSD2.out with rfl | rfl
            · exact (blk_cell bq8 0).trans rfl
            · exact (blk_cell bq8 1).trans rfl
          have fqs := blk_frozen bq8 sd
          have lq8 := blk_lt bq8
          have HQ8 := hide bq8
          have hs8 := HB18.out.size
          have HO8 := hide (owns_below HOW.out HB18.out)
          have HK8 := hide (HKK.out.trans (Keeps.of_below HB18.out))
          have w08 : W0.heap.size ≤ w8.heap.size := by omega
          clear bq8
          go_upto_region 14 with fail
          refine cnt14 (fun _ _ d _ _ h => by cases d <;> exact h) a.said cv ce dv dk b o i n c w8 hi0 hlt' hn8 y2 HU.out HVAL.out _ _ _ _ _ _ _ _ _ _ _ _ _ _ _ _ _ _ _ _ _ _ _ _ _ _ _ _ _ _ _ _ _ _ _ _ _ _ _ _ _ _ _ _ _ _ _ _ _ _ _ _ _ _ _ _ _ _ _ _ _ _ _ _ _ _ _ _ _ _ _ _ _ _ _ _ _ _ _ _ _ _ _ _ _ _ _ _ _ _ _ _ _ _ _ _ _ _ _ _ _ _ _ _ _ _ _ _ _ _ _ _ _ _ _ _ _ _ _ _ _ _ _ _ _ _ _ _ _ _ _ _ _ _ _ _ _ _ _ _ _ _ _ _ _ _ _ _ _ _ _ _ _ _ _ _ _ _ _ _ _ _ _ _ _ _ _ _ _ _ _ _ _ _ _ _ _ _ _ _ _ _ _ _ _ _ _ _ _ _ _ _ _ _ _ _ _ _ _ _ _ _ _ _ _ _ _ _ _ _ _ _ _ _ _ _ _ _ _ _ _ _ _ _ _ _ _ _ _ _ _ _ _ _ _ _ _ _ _ _ _ _ _ _ _ _ _ _ _ _ _ _ _ _ _ _ _ _ _ _ _ _ _ _ _ _ _ _ _ _ _ _ _ _ _  ?_
          rintro u150 u151 u152 u153 u154 u155 u156 u157 u158 u159 u160 u161 u162 u163 u164 u165 u166 u167 u168 u169 u170 u171 u172 u173 u174 u175 u176 u177 u178 u179 u180 u181 u182 u183 u184 u185 u186 u187 u188 u189 u190 u191 u192 u193 u194 u195 u196 u197 u198 u199 u200 u201 u202 u203 _ rfl
          clear y2
          have HL := hide (show (s.ds ++ [dv]).length = s.ds.length + 1 by simp)
          cases hdk : dk
          · have HDK2 := hide (HDK.out.trans hdk)
            clear hdk HVAL
            go_wp2_with (refine wpList_app_at rfl (.tmp 216) (.tmp 218) rfl W0.heap.size _ s.ds _ rfl ((ownsRow_setCell_below HO8.out lq _).alloc _) (some ⟨_, 0, none⟩) 1 1 [dv] rfl rfl (rdI_one (by first | exact World.alloc_heap_new _ _ | exact alloc_new_at (by simp))) (fun e => by cases e) (by omega) (by omega) (by simp; omega) ?_; intro A2 c2 w9 hown2 hgrow; have HO2 := hide hown2; have hg9 := grown_below (B := W0.heap.size) hgrow (by simp; omega) (fun g hg => (HO8.out.lt g hg).1); have HG9 := hide hg9; clear hown2 hgrow hg9)
            go_roundw
            case rel =>
              rcases HSD2.out with rfl | rfl
              · have HE := hide (show L.stepR each more s a = { s with ds := s.ds ++ [dv], l0 := s.l0 - 1 } by rw [HE0.out, HDV.out, HDK2.out, HSDE.out]; rfl)
                have hlf : s.l0 = lf := by rw [← HLF.out, HSDE.out]; rfl
                subst hlf
                exact ⟨i + 1, by omega, by go_num, ⟨_, HNX, hide (by rw [HE.out]; exact HSB.out), HNB, by rw [HE.out]; show (s.ds ++ [dv]).length ≤ i + 1; have := HL.out; omega, ⟨A2, c2, by rw [HE.out, ← HL.out], hide (by rw [HE.out]; show World.ownsRow _ _ _ _ (.slice A2 (s.ds ++ [dv]).length c2) (s.ds ++ [dv]).length _; rw [HL.out]; exact HO2.out)⟩, hide (by rw [HE.out]; exact (HG9.out.block q lq).trans ((Below.heap_alloc _ _ _ (by first | (simp; done) | (simp; omega) | omega)).trans (blk_set HQ8.out 0 _)))⟩, (((HK8.out.st (fun h => h rfl))).alloc _).then_below HG9.out⟩
              · have HE := hide (show L.stepR each more s a = { s with ds := s.ds ++ [dv], l1 := s.l1 - 1 } by rw [HE0.out, HDV.out, HDK2.out, HSDE.out]; rfl)
                have hlf : s.l1 = lf := by rw [← HLF.out, HSDE.out]; rfl
                subst hlf
                exact ⟨i + 1, by omega, by go_num, ⟨_, HNX, hide (by rw [HE.out]; exact HSB.out), HNB, by rw [HE.out]; show (s.ds ++ [dv]).length ≤ i + 1; have := HL.out; omega, ⟨A2, c2, by rw [HE.out, ← HL.out], hide (by rw [HE.out]; show World.ownsRow _ _ _ _ (.slice A2 (s.ds ++ [dv]).length c2) (s.ds ++ [dv]).length _; rw [HL.out]; exact HO2.out)⟩, hide (by rw [HE.out]; exact (HG9.out.block q lq).trans ((Below.heap_alloc _ _ _ (by first | (simp; done) | (simp; omega) | omega)).trans (blk_set HQ8.out 1 _)))⟩, (((HK8.out.st (fun h => h rfl))).alloc _).then_below HG9.out⟩
            case measure => simp [intOf]; omega
          · have HDK2 := hide (HDK.out.trans hdk)
            clear hdk HVAL
            go_wp2_with (refine wpList_app_at rfl (.tmp 216) (.tmp 218) rfl W0.heap.size _ s.ds _ rfl (HO8.out.alloc _) (some ⟨_, 0, none⟩) 1 1 [dv] rfl rfl (rdI_one (by first | exact World.alloc_heap_new _ _ | exact alloc_new_at (by simp))) (fun e => by cases e) (by omega) (by omega) (by simp; omega) ?_; intro A2 c2 w9 hown2 hgrow; have HO2 := hide hown2; have hg9 := grown_below (B := W0.heap.size) hgrow (by simp; omega) (fun g hg => (HO8.out.lt g hg).1); have HG9 := hide hg9; clear hown2 hgrow hg9)
            go_roundw
            case rel =>
              rcases HSD2.out with rfl | rfl
              · have HE := hide (show L.stepR each more s a = { s with ds := s.ds ++ [dv] } by rw [HE0.out, HDV.out, HDK2.out, HSDE.out]; rfl)
                exact ⟨i + 1, by omega, by go_num, ⟨_, HNX, hide (by rw [HE.out]; exact HSB.out), HNB, by rw [HE.out]; show (s.ds ++ [dv]).length ≤ i + 1; have := HL.out; omega, ⟨A2, c2, by rw [HE.out, ← HL.out], hide (by rw [HE.out]; show World.ownsRow _ _ _ _ (.slice A2 (s.ds ++ [dv]).length c2) (s.ds ++ [dv]).length _; rw [HL.out]; exact HO2.out)⟩, hide (by rw [HE.out]; exact (HG9.out.block q lq).trans ((Below.heap_alloc _ _ _ (by first | (simp; done) | (simp; omega) | omega)).trans HQ8.out))⟩, ((HK8.out).alloc _).then_below HG9.out⟩
              · have HE := hide (show L.stepR each more s a = { s with ds := s.ds ++ [dv] } by rw [HE0.out, HDV.out, HDK2.out, HSDE.out]; rfl)
                exact ⟨i + 1, by omega, by go_num, ⟨_, HNX, hide (by rw [HE.out]; exact HSB.out), HNB, by rw [HE.out]; show (s.ds ++ [dv]).length ≤ i + 1; have := HL.out; omega, ⟨A2, c2, by rw [HE.out, ← HL.out], hide (by rw [HE.out]; show World.ownsRow _ _ _ _ (.slice A2 (s.ds ++ [dv]).length c2) (s.ds ++ [dv]).length _; rw [HL.out]; exact HO2.out)⟩, hide (by rw [HE.out]; exact (HG9.out.block q lq).trans ((Below.heap_alloc _ _ _ (by first | (simp; done) | (simp; omega) | omega)).trans HQ8.out))⟩, ((HK8.out).alloc _).then_below HG9.out⟩
            case measure => simp [intOf]; omega
    · have hin : i = n := by omega
      subst hin
      have HS2 := hide (show L.runFrom each more (L.rsE each) l = s by rw [← HS.out, List.take_of_length_le (by have := HN.out; omega)])
      have HCF := hide (L.count_fin (each := each) (more := more) (l := l) (by simp only [L.within, Bool.and_eq_true, decide_eq_true_eq]; omega) (by simp only [L.within, Bool.and_eq_true, decide_eq_true_eq]; omega) (by have := HN.out; omega) HS2.out HSB.out)
      have HRL := hide ((HR0.out.below HW.out).mono (B' := wr.heap.size) (by omega))
      have bp := (hK.same p hpq lp).trans GP.out
      have HPB := hide bp
      have cp0 := (blk_cell bp 0).trans rfl; have cp1 := (blk_cell bp 1).trans rfl
      have cq0 := (blk_cell HQ.out 0).trans rfl; have cq1 := (blk_cell HQ.out 1).trans rfl
      clear bp
      go_upto_region 19 with fail
      clear cp0 cp1 cq0 cq1
      refine cnt19 (fun _ _ d _ _ h => by cases d <;> exact h) each more l s A i c p wr hn8 lpr HN HA HCF HRL HPB _ _ _ _ _ _ _ _ _ _ _ _ _ _ _ _ _ _ _ _ _ _ _ _ _ _ _ _ _ _ _ _ _ _ _ _ _ _ _ _ _ _ _ _ _ _ _ _ _ _ _ _ _ _ _ _ _ _ _ _ _ _ _ _ _ _ _ _ _ _ _ _ _ _ _ _ _ _ _ _ _ _ _ _ _ _ _ _ _ _ _ _ _ _ _ _ _ _ _ _ _ _ _ _ _ _ _ _ _ _ _ _ _ _ _ _ _ _ _ _ _ _ _ _ _ _ _ _ _ _ _ _ _ _ _ _ _ _ _ _ _ _ _ _ _ _ _ _ _ _ _ _ _ _ _ _ _ _ _ _ _ _ _ _ _ _ _ _ _ _ _ _ _ _ _ _ _ _ _ _ _ _ _ _ _ _ _ _ _ _ _ _ _ _ _ _ _ _ _ _ _ _ _ _ _ _ _ _ _ _ _ _ _ _ _ _ _ _ _ _ _ _ _ _ _ _ _ _ _ _ _ _ _ _ _ _ _ _ _ _ _ _ _ _ _ _ _ _ _ _ _ _ _ _ _ _ _ _ _ _ _ _ _ _ _ _ _ _ _ _ _ _ _ _ _ _ _ _ _ _  ?_
      intro u220 u221 u222 u223 u224 u225 u226 u227 u228 u229 sv2 c2r g14 wd HD1 HG14 HG14L HBA
      have HRLb := hide ((HRL.out.below HBA.out).mono (B' := wd.heap.size) HBA.out.size)
      have HPBb := hide ((HBA.out.block p lpr).trans HPB.out)
      have lpc : p < wd.heap.size := blk_lt HPBb.out
      go_upto_region 20 with fail
      refine cnt20 (fun _ _ d _ _ h => by cases d <;> exact h) each more l s A i c p wd hn8 lpc HN HA HCF HRLb HPBb _ _ _ _ _ _ _ _ _ _ _ _ _ _ _ _ _ _ _ _ _ _ _ _ _ _ _ _ _ _ _ _ _ _ _ _ _ _ _ _ _ _ _ _ _ _ _ _ _ _ _ _ _ _ _ _ _ _ _ _ _ _ _ _ _ _ _ _ _ _ _ _ _ _ _ _ _ _ _ _ _ _ _ _ _ _ _ _ _ _ _ _ _ _ _ _ _ _ _ _ _ _ _ _ _ _ _ _ _ _ _ _ _ _ _ _ _ _ _ _ _ _ _ _ _ _ _ _ _ _ _ _ _ _ _ _ _ _ _ _ _ _ _ _ _ _ _ _ _ _ _ _ _ _ _ _ _ _ _ _ _ _ _ _ _ _ _ _ _ _ _ _ _ _ _ _ _ _ _ _ _ _ _ _ _ _ _ _ _ _ _ _ _ _ _ _ _ _ _ _ _ _ _ _ _ _ _ _ _ _ _ _ _ _ _ _ _ _ _ _ _ _ _ _ _ _ _ _ _ _ _ _ _ _ _ _ _ _ _ _ _ _ _ _ _ _ _ _ _ _ _ _ _ _ _ _ _ _ _ _ _ _ _ _ _ _ _ _ _ _ _ _ _ _ _ _ _ _ _ _  ?_
      intro u230 u231 u232 u233 u234 u235 u236 u237 u238 u239 u240 u241 u242 sv3 c3r g17 we HD2 HG17 HG17L HBB2
      have HI3 := hide (owns_RdI HD2.out rfl)
      have HI2 := hide (((owns_RdI HD1.out rfl).below HBB2.out).mono HBB2.out.size)
      have HBw := hide (HBA.out.trans (HBB2.out.mono HBA.out.size))
      have HI1 := hide (((owns_RdI hown.out rfl).below HBw.out).mono HBw.out.size)
      have bp := (HBw.out.block p lpr).trans HPB.out
      have bq := (HBw.out.block q lqr).trans HQ.out
      have bg := (HBB2.out.block g14 (blk_lt HG14.out)).trans HG14.out
      have bh := HG17.out
      have ep := blk_lt bp
      have eq' := blk_lt bq
      have eg := blk_lt bg
      have eh := blk_lt bh
      have cp0 := (blk_cell bp 0).trans rfl; have cp1 := (blk_cell bp 1).trans rfl
      have cq0 := (blk_cell bq 0).trans rfl; have cq1 := (blk_cell bq 1).trans rfl
      have cg0 := (blk_cell bg 0).trans rfl; have cg1 := (blk_cell bg 1).trans rfl
      have ch0 := (blk_cell bh 0).trans rfl; have ch1 := (blk_cell bh 1).trans rfl
      have hw0 : IntKind.i64.wrap (s.l0 + more) = s.l0 + more := IntWalk.i64_in _ (by omega)
      have hw1 : IntKind.i64.wrap (s.l1 + more) = s.l1 + more := IntWalk.i64_in _ (by omega)
      clear bp bq bg bh HD1 HD2 HG14 HG17 HG14L HG17L HRL HRLb HPB HPBb HCF HS2 HR0 HW HQ hown
      go_wp2_with (first | (go_at_call 34; refine (sameInts_any _ _ _ _ _ s.ds _ rfl (by first | exact ((HI2.out.below (by (repeat' first | exact zbR _ _ | assumption | refine zbD ?_ | refine zbA ?_ ?_ _ | refine zbS ?_ ?_ _ | refine zbT ?_ (by assumption) ?_ | (simp; done) | (simp; omega) | omega))).mono (by first | (simp; done) | (simp; omega) | omega)) | exact ((HI3.out.below (by (repeat' first | exact zbR _ _ | assumption | refine zbD ?_ | refine zbA ?_ ?_ _ | refine zbS ?_ ?_ _ | refine zbT ?_ (by assumption) ?_ | (simp; done) | (simp; omega) | omega))).mono (by first | (simp; done) | (simp; omega) | omega))) ((HI1.out.below (by (repeat' first | exact zbR _ _ | assumption | refine zbD ?_ | refine zbA ?_ ?_ _ | refine zbS ?_ ?_ _ | refine zbT ?_ (by assumption) ?_ | (simp; done) | (simp; omega) | omega))).mono (by first | (simp; done) | (simp; omega) | omega)) (by omega)).mono ?_; rintro e w20 ⟨rfl, hb20⟩; obtain ⟨hc20, hf20⟩ := bcell hb20; have q20 := hb20.size; have z20_p : p < w20.heap.size := (by omega); have z20_q : q < w20.heap.size := (by omega); have z20_g : g14 < w20.heap.size := (by omega); have z20_h : g17 < w20.heap.size := (by omega); have z20_e : we.heap.size ≤ w20.heap.size := (by omega)) | (go_at_call 16; refine (works_any _).mono ?_; rintro e w19 ⟨rfl, hb19⟩))
      go_ret
      exact ⟨rfl, GBr.out.trans ((HBw.out.trans ((show Below we.heap.size we _ by (repeat' first | exact zbR _ _ | assumption | refine zbD ?_ | refine zbA ?_ ?_ _ | refine zbS ?_ ?_ _ | refine zbT ?_ (by assumption) ?_ | (simp; done) | (simp; omega) | omega)).mono HBw.out.size)).mono GBr.out.size)⟩

theorem countLaw_any (each more : Int) (l : List L.Ap) (A : Option Addr) (n c : Nat) (w : World) (hn : l.length = n) (hr : RdA w w.heap.size A l) (hA : A = none → c = 0) :
    Calls Try.prog 9 #[.agg #[.int .i64 each, .int .i64 more], .slice A n c] w fun e w' => e = .returned (.bool true) ∧ Below w.heap.size w w' := by
  by_cases h : (n : Int) ≤ 8 ∧ 0 ≤ each ∧ each ≤ 9 ∧ 0 ≤ more ∧ more ≤ 9
  · exact countLaw_in each more l A n c w hn hr hA h.1 h.2.1 h.2.2.1 h.2.2.2.1 h.2.2.2.2
  · exact countLaw_far each more A n c w (by omega)

end Go.Proofs.Ytampfpnkkdihaaa
