/-
  Part of a claim's texts: contracts of the program's functions and the plain functions that they compute, in build order.
-/
import Derived.Deep.Cut
import Derived.Deep.CutRange
import Derived.Test.YtlpjkolocgkcpaaZB01
import Derived.Test.YtlpjkolocgkcpaaZB02
import Derived.Test.YtlpjkolocgkcpaaZB04
namespace Go.Proofs.Ytlpjkolocgkcpaa
open Go.RowKit
attribute [local go_sem ↓] Go.wp_at_zero Go.wp_at_succ

set_option maxHeartbeats 12800000 in
set_option maxRecDepth 100000 in
theorem paidLaw_any (x : G.Tm) (A : Option Addr) (n c : Nat) (B : Option Addr) (m d : Nat) (l : List G.Tk) (lo hi : Int) (w : World) (hn : x.played.length = n) (hrp : RdI w w.heap.size A x.played) (hn1 : n ≤ 1000000) (hl : l.length = m) (hr : RdT w w.heap.size B l) (hid : ∀ t ∈ l, (Lit.int .i64 t.id).wf = true) (hm1 : m ≤ 1000000) (hA : A = none → c = 0) (hB : B = none → d = 0) :
    Calls Try.prog 10 #[.agg #[.int .i64 x.short, .int .i64 x.long, .slice A n c], .slice B m d, .agg #[.int .i64 lo, .int .i64 hi]] w fun e w' => e = .returned (.bool true) ∧ Below w.heap.size w w' := by
  have HN := hide hn
  have HL := hide hl
  have HRP := hide hrp
  have HR := hide hr
  have HID := hide hid
  have HAN := hide hA
  have HBN := hide hB
  clear hn hrp hl hr hid hA hB
  obtain ⟨er, her⟩ : ∃ e, G.refundE x l = e := ⟨_, rfl⟩
  have HER := hide her
  by_cases h0 : er = 0
  · subst h0
    obtain ⟨hv, hn30, hm40, hV⟩ := vTickets_get her
    rw [HN.out] at hn30
    rw [HL.out] at hm40
    have HVT := hide hV
    obtain ⟨rv, hrv⟩ : ∃ e, G.refundV x l = e := ⟨_, rfl⟩
    have HRV := hide hrv
    have HRM := hide (show rv = l.map (G.refund1 x) by rw [← hrv, hv])
    obtain ⟨tv, htv⟩ : ∃ e, G.totalV x l = e := ⟨_, rfl⟩
    have HTV := hide htv
    have HTS := hide (show rv.sum = tv by rw [← htv, ← hrv]; rfl)
    have HRL := hide (show rv.length = m by rw [HRM.out, List.length_map]; exact HL.out)
    have HIDP := hide (show ∀ t ∈ l.map (G.pd x), (Lit.int .i64 t.id).wf = true from fun t ht => by
      obtain ⟨t', ht', rfl⟩ := List.mem_map.1 ht
      exact HID.out t' ht')
    clear her hv hV hrv htv
    go_enter Try.func10, Try.ntmps10
    go_upto_region 3 with (go_at_call 34; (with_reducible refine (CheckTickets_ref x A n c B m d l _ HN.out ((HRP.out.below (show Below w.heap.size w _ by (repeat' first | exact zbR _ _ | assumption | refine zbD ?_ | refine zbA ?_ ?_ _ | refine zbS ?_ ?_ _ | refine zbT ?_ (by assumption) ?_ | (simp; done) | (simp; omega) | omega))).mono (by simp; omega)) hn1 HL.out ((HR.out.below (show Below w.heap.size w _ by (repeat' first | exact zbR _ _ | assumption | refine zbD ?_ | refine zbA ?_ ?_ _ | refine zbS ?_ ?_ _ | refine zbT ?_ (by assumption) ?_ | (simp; done) | (simp; omega) | omega))).mono (by simp; omega)) hm1).mono ?_); rintro e w1 ⟨rfl, hb1⟩; rw [HER.out]; have HB1 := hide (zbT (show Below w.heap.size w _ by (repeat' first | exact zbR _ _ | assumption | refine zbD ?_ | refine zbA ?_ ?_ _ | refine zbS ?_ ?_ _ | refine zbT ?_ (by assumption) ?_ | (simp; done) | (simp; omega) | omega)) hb1 (by simp; omega)); have HX1 := hide ((hb1.block _ (by simp; omega)).trans ((Below.heap_alloc _ _ _ (by simp)).trans (World.alloc_heap_new w (.cells #[.int .i64 x.short, .int .i64 x.long, .slice A n c] 48 (0, 0))))); have HS1 := hide ((hb1.block (w.heap.size + 1) (by simp)).trans (alloc_new_at (O := .cells #[.int .i64 lo, .int .i64 hi] 23 (0, 0)) (by simp))); clear hb1; have x0 : w1.cell? ⟨w.heap.size, 0, none⟩ = some (.int .i64 x.short) := (blk_cell HX1.out 0).trans rfl; have x1 : w1.cell? ⟨w.heap.size, 1, none⟩ = some (.int .i64 x.long) := (blk_cell HX1.out 1).trans rfl; have x2 : w1.cell? ⟨w.heap.size, 2, none⟩ = some (.slice A n c) := (blk_cell HX1.out 2).trans rfl; have lx := blk_lt HX1.out)
    go_upto_region 4 with (go_at_call 26; (with_reducible refine (Refund_any x A n c B m d l _ HN.out ((HRP.out.below HB1.out).mono HB1.out.size) hn1 HL.out ((HR.out.below HB1.out).mono HB1.out.size) HID.out hm1).mono ?_); rintro e w2 hP; rw [HER.out, HRV.out] at hP; obtain ⟨A2, c2, rfl, ho2, hb2⟩ := hP; have HV2 := hide (owns_RdI ho2 rfl); have HB2 := hide (zbT HB1.out hb2 HB1.out.size); have HX2 := bkT hb2 HX1; have HS2 := bkT hb2 HS1; rw [HRL.out]; clear ho2 hb2 x0 x1 x2 lx; have x0 : w2.cell? ⟨w.heap.size, 0, none⟩ = some (.int .i64 x.short) := (blk_cell HX2.out 0).trans rfl; have x1 : w2.cell? ⟨w.heap.size, 1, none⟩ = some (.int .i64 x.long) := (blk_cell HX2.out 1).trans rfl; have x2 : w2.cell? ⟨w.heap.size, 2, none⟩ = some (.slice A n c) := (blk_cell HX2.out 2).trans rfl; have lx := blk_lt HX2.out)
    go_upto_region 8 with (go_at_call 28; (with_reducible refine (Total_any x A n c B m d l _ HN.out ((HRP.out.below HB2.out).mono HB2.out.size) hn1 HL.out ((HR.out.below HB2.out).mono HB2.out.size) HID.out hm1).mono ?_); rintro e w3 hP; rw [HER.out, HTV.out] at hP; obtain ⟨rfl, hb3⟩ := hP; have HV3 := hide ((HV2.out.below hb3).mono hb3.size); have HB3 := hide (zbT HB2.out hb3 HB2.out.size); have HX3 := bkT hb3 HX2; have HS3 := bkT hb3 HS2; clear hb3 x0 x1 x2 lx)
    go_upto_region 9 with (at_builtin; refine wpList_app_T rfl (.tmp 50) (.tmp 51) rfl w3.heap.size (.slice (some ⟨w3.heap.size, 0, none⟩) 0 0) [] 0 rfl (ownsT_empty (World.alloc_heap_new w3 _) (Nat.le_refl _)) rfl B m d l rfl HL.out (((HR.out.below HB3.out).mono HB3.out.size).below (zbA (zbR _ _) (Nat.le_refl _) _) |>.mono (by simp)) HBN.out (by omega) (by omega) (by simp) m (by omega) ?_; intro A12 c12 w4 hown hgrow; rw [List.nil_append] at hown; have HO4 := hide hown; have HB34 := hide ((zbA (zbR w3.heap.size w3) (Nat.le_refl _) _).trans (grown_below (B := w3.heap.size) hgrow (by simp) (fun g hg => by have h1 : w3.heap.size = g := Option.some.inj hg; omega))); clear hown hgrow)
    have HXB := hide (blk_lt HX3.out)
    have HSB := hide (blk_lt HS3.out)
    have HB4 := hide (zbT HB3.out HB34.out HB3.out.size)
    have HX4 := bkT HB34.out HX3
    have HS4 := bkT HB34.out HS3
    have HV4 := hide (HV3.out.below HB34.out)
    have HZ3 := hide (show w3.heap.size ≤ w4.heap.size from HB34.out.size)
    clear HX3 HS3 HX2 HS2 HX1 HS1 HV2 HB2 HB1
    obtain ⟨bw, hbw⟩ : ∃ x, w3.heap.size = x := ⟨_, rfl⟩
    rw [hbw] at HO4 HV4 HZ3
    have HBB := hide (show w.heap.size ≤ bw by rw [← hbw]; exact HB3.out.size)
    have HXL := hide (show w.heap.size < bw by rw [← hbw]; exact HXB.out)
    have HSL := hide (show w.heap.size + 1 < bw by rw [← hbw]; exact HSB.out)
    clear hbw HB34
    obtain ⟨b5, hb5⟩ : ∃ x, w.heap.size + 1 = x := ⟨_, rfl⟩
    rw [hb5] at HS4 HSL ⊢
    obtain ⟨b3, hb3⟩ : ∃ x, w.heap.size = x := ⟨_, rfl⟩
    have HE0 := hide hb3
    rw [hb3] at HX4 HXL ⊢
    clear hb5 hb3
    go_wp2_with fail
    go_loopw [11, 13] (fun v11 i wr => ∃ k : Nat, k ≤ m ∧ i = .int .i64 k ∧ v11 = .int .i64 (rv.take k).sum ∧ Hid (wr.ownsRow bw 61 4 (.slice A12 m c12) m (flatT ((l.take k).map (G.pd x) ++ l.drop k))) ∧ Hid (Below bw w4 wr)) (fun _ i _ => m - (intOf i).toNat)
    case atStart => exact ⟨0, by omega, rfl, rfl, HO4, hide (Below.refl _ _)⟩
    case round =>
      obtain ⟨k, hk, rfl, rfl, HOr, HBr⟩ := hrel
      have HBW := hide (zbT HB4.out HBr.out HBB.out)
      have HXr := hide ((HBr.out.block _ HXL.out).trans HX4.out)
      have HSr := hide ((HBr.out.block _ HSL.out).trans HS4.out)
      have HVr := hide ((HV4.out.below HBr.out).mono (Nat.le_trans HZ3.out HBr.out.size))
      have hsb := sum_bd (l := rv.take k) (fun v hv => by
        have hv := List.mem_of_mem_take hv
        rw [HRM.out] at hv
        obtain ⟨t, ht, rfl⟩ := List.mem_map.1 hv
        have h2 := G.refund_bd (HVT.out t ht)
        have h3 := (HVT.out t ht).p1
        have h4 := (HVT.out t ht).q0
        omega)
      have hsl : (rv.take k).length ≤ 40 := by rw [List.length_take]; omega
      by_cases hlt : k < m
      · obtain ⟨t, ht⟩ : ∃ t, l[k]? = some t := ⟨_, List.getElem?_eq_getElem (by have := HL.out; omega)⟩
        obtain ⟨r, hrr⟩ : ∃ r, G.refund1 x t = r := ⟨_, rfl⟩
        have hRK : rv[k]? = some r := by rw [HRM.out, List.getElem?_map, ht, ← hrr]; rfl
        have HRK := hide hRK
        have HST := hide (sum_take hRK)
        have hV := HVT.out t (List.mem_of_getElem? ht)
        have hbd := G.refund_bd hV
        rw [hrr] at hbd
        have HRR := hide hrr
        have HLK := hide ht
        have HPL := hide (show ((l.take k).map (G.pd x) ++ l.drop k).length = m by rw [List.length_append, List.length_map, List.length_take, List.length_drop, HL.out]; omega)
        have HTP := hide (show ((l.take k).map (G.pd x) ++ l.drop k)[k]? = some t by rw [List.getElem?_append_right (by rw [List.length_map, List.length_take]; omega), List.length_map, List.length_take, List.getElem?_drop, ← ht]; congr 1; have := HL.out; omega)
        have HNX := hide (show ((l.take k).map (G.pd x) ++ l.drop k).set k (G.pd x t) = (l.take (k + 1)).map (G.pd x) ++ l.drop (k + 1) by
          have hkl : k < l.length := by have := HL.out; omega
          have hd : l.drop k = t :: l.drop (k + 1) := by
            rw [List.drop_eq_getElem_cons hkl]
            congr 1
            exact (List.getElem?_eq_some_iff.1 ht).2
          rw [List.set_append_right _ _ (by rw [List.length_map, List.length_take]; omega), List.length_map, List.length_take, show k - min k l.length = 0 by omega, List.take_add_one, ht, hd]
          simp)
        obtain ⟨bt, ot, rfl, hbt, d0, d1, d2, d3⟩ := (HR.out.below HBW.out) k t ht
        obtain ⟨ba, oa, hAa, hba, va⟩ := HVr.out k r hRK
        subst hAa
        have hlt' : (k : Int) < (m : Int) := by omega
        have hk0 : (0 : Int) ≤ (k : Int) := by omega
        have hm0 : 0 < m := by omega
        have hbr : bt < wr.heap.size := Nat.lt_of_lt_of_le hbt HBW.out.size
        have q0 := hV.q0
        have q1 := hV.q1
        have p1 := hV.p1
        clear ht hrr hRK hV
        obtain ⟨sm, hsm⟩ : ∃ s, (rv.take k).sum = s := ⟨_, rfl⟩
        rw [hsm] at HST hsb ⊢
        clear hsm
        have hw1 : IntKind.i64.wrap (r + t.paid) = r + t.paid := IntWalk.i64_in _ (by omega)
        have hw2 : IntKind.i64.wrap (t.paid + r) = t.paid + r := IntWalk.i64_in _ (by omega)
        have hw3 : IntKind.i64.wrap (sm + r) = sm + r := IntWalk.i64_in _ (by omega)
        have e1 : decide (r < 0) = false := by simp; omega
        have e2 : decide (t.price < r + t.paid) = false := by simp; omega
        go_upto_region 12 with fail
        go_quiet (fail)
        clear e1 e2
        go_upto_region 15 with fail
        refine cap_w _ (fun w5 hw5 => ?_)
        have HB5 := hide (show Below wr.heap.size wr w5 by rw [hw5]; exact below_drewN (zbR _ _) _)
        clear hw5 d0 d1 d2 d3 va hba hbt
        have HO5 := hide (owns_below HOr.out HB5.out)
        have HV5 := hide ((HVr.out.below HB5.out).mono HB5.out.size)
        have HBr5 := hide (zbT HBr.out HB5.out (Nat.le_trans HZ3.out HBr.out.size))
        obtain ⟨V, hV⟩ : ∃ V, (w5).drew = V := ⟨_, rfl⟩
        have HBV := hide (show Below w5.heap.size w5 V by rw [← hV]; exact zbD (zbR _ _))
        have HOV := hide (owns_below HO5.out HBV.out)
        have HVV := hide ((HV5.out.below HBV.out).mono HBV.out.size)
        obtain ⟨gp, hgp⟩ : ∃ g, A12 = some ⟨g, 0, none⟩ := by obtain ⟨g, e, _⟩ := own_slice HOV.out hm0; exact ⟨g, e⟩
        subst hgp
        obtain ⟨bt2, ot2, e2, _, s0, s1, s2, s3⟩ := (owns_RdT HOV.out HPL.out) k t HTP.out
        have e2' := Option.some.inj e2
        injection e2' with e3 e4
        subst e3 e4
        simp only [Nat.zero_add] at s0 s1 s2 s3
        obtain ⟨sf, sg, sl, sb⟩ : _ ∧ _ ∧ _ ∧ _ := own_cellR HOV.out (j := k * 4 + 3) (v := .int .i64 t.paid) (by rw [flatT_at _ k t 3 HTP.out (by omega)]; rfl)
        obtain ⟨ba', oa', ea, hba, va⟩ := HVV.out k r HRK.out
        have ea' := Option.some.inj ea
        injection ea' with ea1 ea2
        subst ea1 ea2
        refine wp_region_seg 12 (by kernel_rfl) (by kernel_rfl) ?_
        simp only [List.take_succ_cons, List.take_zero]
        rw [hV]
        clear hV
        iterate 12 (with_reducible refine stTake (v := ?_) (by kernel_rfl) ?_ ?_; rotate_left; (focus (go_simp; (try with_reducible rfl))); (try simp only [Act.put, zl, List.set_cons_zero, List.set_cons_succ]))
        refine wpStill_nil ?_
        refine opStore (w' := V.setCell ⟨gp, k * 4 + 3, none⟩ (.int .i64 (t.paid + r))) rfl (by kernel_rfl) (by kernel_rfl) (by go_simp) ?_
        (try simp only [Act.put])
        refine wpAny_end (k := 13) (Nat.le_of_ble_eq_true (by kernel_rfl)) (by kernel_rfl) ?_
        simp only [List.drop_succ_cons, List.drop_zero]
        refine wpStill_nil ?_
        (try dsimp only [Exit.then])
        go_wp2_with fail
        go_roundw
        case rel =>
          refine ⟨k + 1, by omega, by go_num, by rw [HST.out], hide ?_, hide (zbS (zbT HBr5.out HBV.out (Nat.le_trans (Nat.le_trans HZ3.out HBr.out.size) HB5.out.size)) sb _)⟩
          rw [← HNX.out, ← flatT_set _ k t (G.pd x t) 3 (.int .i64 (t.paid + r)) HTP.out (by omega) (by unfold G.pd; rw [HRR.out]; rfl)]
          exact own_setCell HOV.out _ _
        case measure => simp [intOf]; omega
      · have hkm : k = m := by omega
        subst hkm
        have HOE := hide (show wr.ownsRow bw 61 4 (.slice A12 k c12) k (flatT (l.map (G.pd x))) by
          have h := HOr.out
          rw [List.take_of_length_le (by have := HL.out; omega), List.drop_eq_nil_of_le (by have := HL.out; omega), List.append_nil] at h
          exact h)
        have HSE := hide (show (rv.take k).sum = tv by rw [List.take_of_length_le (by have := HRL.out; omega)]; exact HTS.out)
        rw [HSE.out]
        obtain ⟨m, hmm⟩ : ∃ m, m = k := ⟨_, rfl⟩
        subst hmm
        clear hlt hk hsb hsl
        have x0 : wr.cell? ⟨b3, 0, none⟩ = some (.int .i64 x.short) := (blk_cell HXr.out 0).trans rfl
        have x1 : wr.cell? ⟨b3, 1, none⟩ = some (.int .i64 x.long) := (blk_cell HXr.out 1).trans rfl
        have x2 : wr.cell? ⟨b3, 2, none⟩ = some (.slice A n c) := (blk_cell HXr.out 2).trans rfl
        have lx := blk_lt HXr.out
        go_upto_region 19 with (go_at_call 28; (with_reducible refine (Total_any x A n c A12 m c12 (l.map (G.pd x)) _ HN.out ((HRP.out.below HBW.out).mono HBW.out.size) hn1 (by rw [List.length_map]; exact HL.out) (owns_RdT HOE.out (by rw [List.length_map]; exact HL.out)) HIDP.out hm1).mono ?_); rintro e w6 hP; rw [G.paid_ok HER.out, G.paid_total HER.out] at hP; obtain ⟨rfl, hb6⟩ := hP; have HB6 := hide (zbT HBW.out hb6 HBW.out.size); have HX6 := bkT hb6 HXr; have HS6 := bkT hb6 HSr; have HV6 := hide ((HVr.out.below hb6).mono hb6.size); clear hb6 x0 x1 x2 lx)
        have x0 : w6.cell? ⟨b3, 0, none⟩ = some (.int .i64 x.short) := (blk_cell HX6.out 0).trans rfl
        have x1 : w6.cell? ⟨b3, 1, none⟩ = some (.int .i64 x.long) := (blk_cell HX6.out 1).trans rfl
        have x2 : w6.cell? ⟨b3, 2, none⟩ = some (.slice A n c) := (blk_cell HX6.out 2).trans rfl
        have lx := blk_lt HX6.out
        have s0 : w6.cell? ⟨b5, 0, none⟩ = some (.int .i64 lo) := (blk_cell HS6.out 0).trans rfl
        have s1 : w6.cell? ⟨b5, 1, none⟩ = some (.int .i64 hi) := (blk_cell HS6.out 1).trans rfl
        have ls := blk_lt HS6.out
        by_cases c1 : lo < 0
        · have e1 : decide (lo < 0) = true := by simpa using c1
          go_quiet (fail)
          refine cap_w _ (fun w7 hw7 => ?_)
          have HB7 := hide (zbT HB6.out (show Below w6.heap.size w6 w7 by rw [hw7]; exact below_drewN (zbR _ _) _) HB6.out.size)
          clear hw7
          go_wp2_with (go_at_call 13; (with_reducible refine (works_any _).mono ?_); rintro e w9 ⟨rfl, hb9⟩; have HB9 := hide (zbT HB7.out hb9 HB7.out.size); clear hb9)
          go_ret
          exact ⟨rfl, HB9.out⟩
        · have e1 : decide (lo < 0) = false := by simp; omega
          obtain ⟨dl, hdl⟩ : ∃ dl : Nat, lo = (dl : Int) := ⟨lo.toNat, by omega⟩
          subst hdl
          clear c1
          by_cases c2 : n ≤ dl
          · have e2 : decide ((n : Int) ≤ (dl : Int)) = true := by simp; omega
            go_quiet (fail)
            refine cap_w _ (fun w7 hw7 => ?_)
            have HB7 := hide (zbT HB6.out (show Below w6.heap.size w6 w7 by rw [hw7]; exact below_drewN (zbR _ _) _) HB6.out.size)
            clear hw7
            go_wp2_with (go_at_call 13; (with_reducible refine (works_any _).mono ?_); rintro e w9 ⟨rfl, hb9⟩; have HB9 := hide (zbT HB7.out hb9 HB7.out.size); clear hb9)
            go_ret
            exact ⟨rfl, HB9.out⟩
          · have e2 : decide ((n : Int) ≤ (dl : Int)) = false := by simp; omega
            by_cases c3 : hi < 0
            · have e3 : decide (hi < 0) = true := by simpa using c3
              go_quiet (fail)
              refine cap_w _ (fun w7 hw7 => ?_)
              have HB7 := hide (zbT HB6.out (show Below w6.heap.size w6 w7 by rw [hw7]; exact below_drewN (zbR _ _) _) HB6.out.size)
              clear hw7
              go_wp2_with (go_at_call 13; (with_reducible refine (works_any _).mono ?_); rintro e w9 ⟨rfl, hb9⟩; have HB9 := hide (zbT HB7.out hb9 HB7.out.size); clear hb9)
              go_ret
              exact ⟨rfl, HB9.out⟩
            · have e3 : decide (hi < 0) = false := by simp; omega
              obtain ⟨pl, hpl⟩ : ∃ p, x.played[dl]? = some p := ⟨_, List.getElem?_eq_getElem (by have := HN.out; omega)⟩
              obtain ⟨bp, op, rfl, hbp, vp⟩ := (HRP.out.below HB6.out) dl pl hpl
              have hbp6 := Nat.lt_of_lt_of_le hbp HB6.out.size
              have hd1 : (dl : Int) < (n : Int) := by omega
              have hd0 : (0 : Int) ≤ (dl : Int) := by omega
              have HPL := hide hpl
              have HPD := hide (show 0 ≤ pl ∧ pl ≤ 1440 by
                have h := (G.ticks_of HER.out).1
                unfold G.vTerms at h
                simp only [Bool.and_eq_true, List.all_eq_true] at h
                have := h.2 pl (List.mem_of_getElem? hpl)
                unfold G.vMin G.within at this
                simp only [Bool.and_eq_true, decide_eq_true_eq] at this
                omega)
              clear hpl
              by_cases c4 : pl < hi
              · have e4 : decide (pl < hi) = true := by simpa using c4
                go_quiet (fail)
                refine cap_w _ (fun w7 hw7 => ?_)
                have HB7 := hide (zbT HB6.out (show Below w6.heap.size w6 w7 by rw [hw7]; exact below_drewN (zbR _ _) _) HB6.out.size)
                clear hw7
                go_wp2_with (go_at_call 13; (with_reducible refine (works_any _).mono ?_); rintro e w9 ⟨rfl, hb9⟩; have HB9 := hide (zbT HB7.out hb9 HB7.out.size); clear hb9)
                go_ret
                exact ⟨rfl, HB9.out⟩
              · have e4 : decide (pl < hi) = false := by simp; omega
                go_quiet (fail)
                clear e1 e2 e3 e4 x0 x1 x2 lx s0 s1 ls
                have c3' : 0 ≤ hi := by omega
                have c4' : hi ≤ pl := by omega
                have hn0 : 0 < n := by omega
                go_upto_region 21 with fail
                refine cap_w _ (fun wq hwq => ?_)
                have HB6q := hide (show Below w6.heap.size w6 wq by rw [hwq]; exact below_drewN (zbR _ _) _)
                clear hwq vp
                have HXq := bkT HB6q.out HX6
                have x0 : wq.cell? ⟨b3, 0, none⟩ = some (.int .i64 x.short) := (blk_cell HXq.out 0).trans rfl
                have x1 : wq.cell? ⟨b3, 1, none⟩ = some (.int .i64 x.long) := (blk_cell HXq.out 1).trans rfl
                have x2 : wq.cell? ⟨b3, 2, none⟩ = some (.slice (some ⟨bp, op, none⟩) n c) := (blk_cell HXq.out 2).trans rfl
                have lx := blk_lt HXq.out
                go_upto_region 22 with fail
                refine cap_w _ (fun w7 hw7 => ?_)
                have HBq7 := hide (show Below wq.heap.size wq w7 by rw [hw7]; exact zbA (zbR _ _) (Nat.le_refl _) _)
                have HY7 := hide (show w7.heap[wq.heap.size]? = some (.cells #[.int .i64 x.short, .int .i64 x.long, .slice (some ⟨bp, op, none⟩) n c] 48 (0, 0)) by rw [hw7]; exact World.alloc_heap_new _ _)
                clear hw7 x0 x1 x2 lx
                have HB67 := hide (zbT HB6q.out HBq7.out HB6q.out.size)
                have HB7 := hide (zbT HB6.out HB67.out HB6.out.size)
                have HX7 := bkT HB67.out HX6
                have HS7 := bkT HB67.out HS6
                have HV7 := hide ((HV6.out.below HB67.out).mono HB67.out.size)
                have HRP7 := hide ((HRP.out.below HB7.out).mono HB7.out.size)
                have HQW := hide (show w.heap.size ≤ wq.heap.size from Nat.le_trans HB6.out.size HB6q.out.size)
                have HS6L := hide (show b5 < wq.heap.size from Nat.lt_of_lt_of_le (blk_lt HS6.out) HB6q.out.size)
                have HYL := hide (blk_lt HY7.out)
                have HQ6 := hide (show w6.heap.size ≤ wq.heap.size from HB6q.out.size)
                obtain ⟨b6, hb6⟩ : ∃ x, wq.heap.size = x := ⟨_, rfl⟩
                rw [hb6] at HY7 HQW HS6L HYL HQ6 ⊢
                clear hb6
                have x2 : w7.cell? ⟨b3, 2, none⟩ = some (.slice (some ⟨bp, op, none⟩) n c) := (blk_cell HX7.out 2).trans rfl
                have lx := blk_lt HX7.out
                have y2 : w7.cell? ⟨b6, 2, none⟩ = some (.slice (some ⟨bp, op, none⟩) n c) := (blk_cell HY7.out 2).trans rfl
                have f2 : w7.frozen? ⟨b6, 2, none⟩ = false := blk_frozen HY7.out 2
                have ly := blk_lt HY7.out
                go_upto_region 23 with (at_builtin; refine wpList_app_at rfl (.tmp 146) (.tmp 148) rfl w7.heap.size (.slice (some ⟨w7.heap.size, 0, none⟩) 0 0) [] 0 rfl (ownsI_empty (World.alloc_heap_new w7 _) (Nat.le_refl _)) (some ⟨bp, op, none⟩) n c x.played rfl HN.out ((HRP7.out.below (zbA (zbR _ _) (Nat.le_refl _) _)).mono (by simp)) (fun e => by cases e) (by omega) (by omega) (by simp) ?_; intro A17 c17 w8 hown hgrow; rw [Nat.zero_add] at hown ⊢; rw [List.nil_append] at hown; have HO8 := hide hown; have HB8 := hide ((zbA (zbR w7.heap.size w7) (Nat.le_refl _) _).trans (grown_below (B := w7.heap.size) hgrow (by simp) (fun g hg => by have h1 : w7.heap.size = g := Option.some.inj hg; omega))); clear hown hgrow; have p2 := (HB8.out.cell (p := ⟨b6, 2, none⟩) ly).trans y2; have g2 := (HB8.out.frozen (p := ⟨b6, 2, none⟩) ly).trans f2; have lo8 := Nat.lt_of_lt_of_le ly HB8.out.size; clear x2 lx y2 f2)
                refine cap_w _ (fun wa hwa => ?_)
                have HYA := hide (show wa.heap[b6]? = some (.cells #[.int .i64 x.short, .int .i64 x.long, .slice A17 n c17] 48 (0, 0)) by rw [hwa]; exact (blk_set (bkT HB8.out HY7).out 2 _).trans (by rfl))
                have HSA := hide (show wa.heap[b5]? = some (.cells #[.int .i64 (dl : Int), .int .i64 hi] 23 (0, 0)) by rw [hwa]; exact blk_other (bkT HB8.out HS7).out (Nat.ne_of_lt HS6L.out) _ _)
                have HBA := hide (show Below w.heap.size w wa by rw [hwa]; exact zbS (zbT HB7.out HB8.out HB7.out.size) HQW.out _)
                have HOA := hide (show wa.ownsRow w7.heap.size 3 1 (.slice A17 n c17) n (flatI x.played) by rw [hwa]; exact HO8.out.kept (set_grown w8 ⟨b6, 2, none⟩ _) (.inr (row_ne' HO8.out HYL.out)))
                have HVA1 := hide (show Below w6.heap.size w6 wa by rw [hwa]; exact zbS (zbT HB67.out HB8.out HB67.out.size) HQ6.out _)
                have HVA := hide (HV6.out.below HVA1.out)
                clear hwa p2 g2 lo8 ly
                have hpl0 := HPD.out
                have hw : IntKind.i64.wrap (pl - hi) = pl - hi := IntWalk.i64_in _ (by omega)
                obtain ⟨V, hV⟩ : ∃ V, (wa).drew = V := ⟨_, rfl⟩
                have HBV := hide (show Below wa.heap.size wa V by rw [← hV]; exact zbD (zbR _ _))
                have HOV := hide (owns_below HOA.out HBV.out)
                have HYV := bkT HBV.out HYA
                have HSV := bkT HBV.out HSA
                obtain ⟨gp, hgp⟩ : ∃ g, A17 = some ⟨g, 0, none⟩ := by obtain ⟨g, e, _⟩ := own_slice HOV.out hn0; exact ⟨g, e⟩
                subst hgp
                obtain ⟨sf, sg, sl, sb⟩ : _ ∧ _ ∧ _ ∧ _ := own_cellR HOV.out (j := dl) (v := .int .i64 pl) (flatI_at HPL.out)
                have y0 : V.cell? ⟨b6, 2, none⟩ = some (.slice (some ⟨gp, 0, none⟩) n c17) := (blk_cell HYV.out 2).trans rfl
                have ly := blk_lt HYV.out
                have z0 : V.cell? ⟨b5, 0, none⟩ = some (.int .i64 (dl : Int)) := (blk_cell HSV.out 0).trans rfl
                have z1 : V.cell? ⟨b5, 1, none⟩ = some (.int .i64 hi) := (blk_cell HSV.out 1).trans rfl
                have lz := blk_lt HSV.out
                refine wp_region_seg 10 (by kernel_rfl) (by kernel_rfl) ?_
                simp only [List.take_succ_cons, List.take_zero]
                rw [hV]
                clear hV
                iterate 10 (with_reducible refine stTake (v := ?_) (by kernel_rfl) ?_ ?_; rotate_left; (focus (go_simp; (try with_reducible rfl))); (try simp only [Act.put, zl, List.set_cons_zero, List.set_cons_succ]))
                refine wpStill_nil ?_
                refine opStore (w' := V.setCell ⟨gp, dl, none⟩ (.int .i64 (pl - hi))) rfl (by kernel_rfl) (by kernel_rfl) (by go_simp) ?_
                (try simp only [Act.put])
                refine wpAny_end (k := 11) (Nat.le_of_ble_eq_true (by kernel_rfl)) (by kernel_rfl) ?_
                simp only [List.drop_succ_cons, List.drop_zero]
                refine wpStill_nil ?_
                (try dsimp only [Exit.then])
                refine cap_w _ (fun wd hwd => ?_)
                have HBC := hide (show Below w.heap.size w wd by rw [hwd]; exact zbS (zbT HBA.out HBV.out HBA.out.size) (by show w.heap.size ≤ gp; have := HQW.out; have := HYL.out; omega) _)
                have HYC := hide (show wd.heap[b6]? = some (.cells #[.int .i64 x.short, .int .i64 x.long, .slice (some ⟨gp, 0, none⟩) n c17] 48 (0, 0)) by rw [hwd]; exact blk_other HYV.out (by have := HYL.out; omega) _ _)
                have HOC := hide (show wd.ownsRow w7.heap.size 3 1 (.slice (some ⟨gp, 0, none⟩) n c17) n (flatI (G.less x dl (pl - hi)).played) by
                  rw [hwd]
                  have h := own_setCell HOV.out dl (.int .i64 (pl - hi))
                  unfold flatI at h ⊢
                  rw [← List.map_set] at h
                  exact h)
                have HVC := hide (show RdI wd wd.heap.size A2 rv by
                  rw [hwd]
                  exact ((HVA.out.below (zbS (HBV.out.mono HVA1.out.size) (show w6.heap.size ≤ gp by have := HYL.out; have := HQ6.out; omega) _)).mono (by simp; have := HVA1.out.size; have := HBV.out.size; omega)))
                clear hwd HOV HYV HSV sf sg sl sb y0 ly z0 z1 lz hw HBV
                have HN2 := hide (show (G.less x dl (pl - hi)).played.length = n by unfold G.less; rw [List.length_set]; exact HN.out)
                have HER2 := hide (G.less_ok HER.out HPL.out c3' c4')
                obtain ⟨rv2, hrv2⟩ : ∃ e, G.refundV (G.less x dl (pl - hi)) l = e := ⟨_, rfl⟩
                have HRM2 := hide (show rv2 = l.map (G.refund1 (G.less x dl (pl - hi))) by rw [← hrv2]; unfold G.refundV; rw [if_pos HER2.out])
                have HRL2 := hide (show rv2.length = m by rw [HRM2.out, List.length_map]; exact HL.out)
                have HRF2 := hide (show Calls Try.prog 26 #[.agg #[.int .i64 x.short, .int .i64 x.long, .slice (some ⟨gp, 0, none⟩) n c17], .slice B m d] wd (IntsPost rv2 0 wd) by
                  have h := Refund_any (G.less x dl (pl - hi)) (some ⟨gp, 0, none⟩) n c17 B m d l wd HN2.out (owns_RdI HOC.out HN2.out) hn1 HL.out ((HR.out.below HBC.out).mono HBC.out.size) HID.out hm1
                  rw [HER2.out, hrv2] at h
                  exact h)
                clear hrv2
                have y0 : wd.cell? ⟨b6, 0, none⟩ = some (.int .i64 x.short) := (blk_cell HYC.out 0).trans rfl
                have y1 : wd.cell? ⟨b6, 1, none⟩ = some (.int .i64 x.long) := (blk_cell HYC.out 1).trans rfl
                have y2 : wd.cell? ⟨b6, 2, none⟩ = some (.slice (some ⟨gp, 0, none⟩) n c17) := (blk_cell HYC.out 2).trans rfl
                have ly := blk_lt HYC.out
                go_upto_region 28 with (go_at_call 26; (with_reducible refine (HRF2.out).mono ?_); rintro e wf hP; obtain ⟨Af, cf, rfl, hof, hbf⟩ := hP; have HVF := hide (owns_RdI hof rfl); have HVE := hide ((HVC.out.below hbf).mono hbf.size); have HBF := hide (zbT HBC.out hbf HBC.out.size); rw [HRL2.out]; clear hof hbf y0 y1 y2 ly)
                go_wp2_with fail
                go_loopw [19] (fun i wr => ∃ k : Nat, k ≤ m ∧ i = .int .i64 k ∧ Hid (Below wf.heap.size wf wr)) (fun i _ => m - (intOf i).toNat)
                case atStart => exact ⟨0, by omega, rfl, hide (Below.refl _ _)⟩
                case round =>
                  obtain ⟨k, hk, rfl, HBr⟩ := hrel
                  by_cases hlt : k < m
                  · obtain ⟨t, ht⟩ : ∃ t, l[k]? = some t := ⟨_, List.getElem?_eq_getElem (by have := HL.out; omega)⟩
                    obtain ⟨r, hr⟩ : ∃ r, G.refund1 x t = r := ⟨_, rfl⟩
                    obtain ⟨r2, hr2⟩ : ∃ r, G.refund1 (G.less x dl (pl - hi)) t = r := ⟨_, rfl⟩
                    have hk1 : rv[k]? = some r := by rw [HRM.out, List.getElem?_map, ht, ← hr]; rfl
                    have hk2 : rv2[k]? = some r2 := by rw [HRM2.out, List.getElem?_map, ht, ← hr2]; rfl
                    have hle := G.less_more (HVT.out t (List.mem_of_getElem? ht)) HPL.out c3'
                    rw [hr, hr2] at hle
                    obtain ⟨ba, oa, rfl, hba, va⟩ := (HVE.out.below HBr.out) k r hk1
                    obtain ⟨bb, ob, rfl, hbb, vb⟩ := (HVF.out.below HBr.out) k r2 hk2
                    have hba2 := Nat.lt_of_lt_of_le hba HBr.out.size
                    have hbb2 := Nat.lt_of_lt_of_le hbb HBr.out.size
                    have hlt' : (k : Int) < (m : Int) := by omega
                    have hk0 : (0 : Int) ≤ (k : Int) := by omega
                    have e1 : decide (r2 < r) = false := by simp; omega
                    clear ht hr hr2 hk1 hk2 hle
                    go_upto_region 30 with fail
                    go_quiet (fail)
                    go_wp2_with fail
                    go_roundw
                    case rel => exact ⟨k + 1, by omega, by go_num, hide (below_drewN HBr.out _)⟩
                    case measure => simp [intOf]; omega
                  · have hkm : k = m := by omega
                    subst hkm
                    have hzf := HBr.out.size
                    go_wp2_with (go_at_call 13; (with_reducible refine (works_any _).mono ?_); rintro e w9 ⟨rfl, hb9⟩; have HB9 := hide (zbT HBF.out (zbT HBr.out hb9 hzf) HBF.out.size); clear hb9)
                    go_ret
                    exact ⟨rfl, HB9.out⟩
  · have h1 : (er != 0) = true := by simpa using h0
    have h2 : (er == 0) = false := by simpa using h0
    clear h0 her
    go_enter Try.func10, Try.ntmps10
    go_wp2_with (first | (go_at_call 34; (with_reducible refine (CheckTickets_ref x A n c B m d l _ HN.out ((HRP.out.below (show Below w.heap.size w _ by (repeat' first | exact zbR _ _ | assumption | refine zbD ?_ | refine zbA ?_ ?_ _ | refine zbS ?_ ?_ _ | refine zbT ?_ (by assumption) ?_ | (simp; done) | (simp; omega) | omega))).mono (by simp; omega)) hn1 HL.out ((HR.out.below (show Below w.heap.size w _ by (repeat' first | exact zbR _ _ | assumption | refine zbD ?_ | refine zbA ?_ ?_ _ | refine zbS ?_ ?_ _ | refine zbT ?_ (by assumption) ?_ | (simp; done) | (simp; omega) | omega))).mono (by simp; omega)) hm1).mono ?_); rintro e w1 ⟨rfl, hb1⟩; rw [HER.out]; have HB1 := hide (zbT (show Below w.heap.size w _ by (repeat' first | exact zbR _ _ | assumption | refine zbD ?_ | refine zbA ?_ ?_ _ | refine zbS ?_ ?_ _ | refine zbT ?_ (by assumption) ?_ | (simp; done) | (simp; omega) | omega)) hb1 (by simp; omega)); have HX1 := hide ((hb1.block _ (by simp; omega)).trans ((Below.heap_alloc _ _ _ (by simp)).trans (World.alloc_heap_new w (.cells #[.int .i64 x.short, .int .i64 x.long, .slice A n c] 48 (0, 0))))); have HS1 := hide ((hb1.block (w.heap.size + 1) (by simp)).trans (alloc_new_at (O := .cells #[.int .i64 lo, .int .i64 hi] 23 (0, 0)) (by simp))); clear hb1; have x0 : w1.cell? ⟨w.heap.size, 0, none⟩ = some (.int .i64 x.short) := (blk_cell HX1.out 0).trans rfl; have x1 : w1.cell? ⟨w.heap.size, 1, none⟩ = some (.int .i64 x.long) := (blk_cell HX1.out 1).trans rfl; have x2 : w1.cell? ⟨w.heap.size, 2, none⟩ = some (.slice A n c) := (blk_cell HX1.out 2).trans rfl; have lx := blk_lt HX1.out) | (go_at_call 13; (with_reducible refine (works_any _).mono ?_); rintro e w9 ⟨rfl, hb9⟩; have HB9 := hide (zbT HB1.out hb9 HB1.out.size); clear hb9))
    go_ret
    exact ⟨rfl, HB9.out⟩
end Go.Proofs.Ytlpjkolocgkcpaa

namespace Go.Proofs.Ytlpjkolocgkcpaa
open Go.RowKit
attribute [local go_sem ↓] Go.wp_at_zero Go.wp_at_succ

set_option maxHeartbeats 3200000 in
set_option maxRecDepth 100000 in
theorem checkT_long (x : G.Tm) (A : Option Addr) (n c : Nat) (B : Option Addr) (m d : Nat) (w : World) (h : 30 < n ∨ 40 < m) :
    Calls Try.prog 34 #[.agg #[.int .i64 x.short, .int .i64 x.long, .slice A n c], .slice B m d] w fun e w' => e = .returned (.int .i64 111) ∧ Below w.heap.size w w' := by
  cases h1 : G.within (x.long) (0) (1440)
  · have H1 := hide h1
    clear h1
    go_enter Try.func34, Try.ntmps34
    go_wp2_with (go_at_call 37; (with_reducible refine (within_ref (x.long) (0) (1440) _).mono ?_); rintro e w' ⟨rfl, rfl⟩; rw [H1.out])
    go_ret
    exact ⟨rfl, by (repeat' first | exact zbR _ _ | assumption | refine zbD ?_ | refine zbA ?_ ?_ _ | refine zbS ?_ ?_ _ | refine zbT ?_ (by assumption) ?_ | (simp; done) | (simp; omega) | omega)⟩
  · have H1 := hide h1
    clear h1
    cases h2 : G.within (x.short) (0) (x.long)
    · have H2 := hide h2
      clear h2
      go_enter Try.func34, Try.ntmps34
      go_wp2_with (first | (go_at_call 37; (with_reducible refine (within_ref (x.long) (0) (1440) _).mono ?_); rintro e w' ⟨rfl, rfl⟩; rw [H1.out]) | (go_at_call 37; (with_reducible refine (within_ref (x.short) (0) (x.long) _).mono ?_); rintro e w' ⟨rfl, rfl⟩; rw [H2.out]))
      go_ret
      exact ⟨rfl, by (repeat' first | exact zbR _ _ | assumption | refine zbD ?_ | refine zbA ?_ ?_ _ | refine zbS ?_ ?_ _ | refine zbT ?_ (by assumption) ?_ | (simp; done) | (simp; omega) | omega)⟩
    · have H2 := hide h2
      clear h2
      by_cases h3 : (30 : Int) < (n : Int)
      · have h3' : (30 : Int) < (n : Int) := by omega
        go_enter Try.func34, Try.ntmps34
        go_wp2_with (first | (go_at_call 37; (with_reducible refine (within_ref (x.long) (0) (1440) _).mono ?_); rintro e w' ⟨rfl, rfl⟩; rw [H1.out]) | (go_at_call 37; (with_reducible refine (within_ref (x.short) (0) (x.long) _).mono ?_); rintro e w' ⟨rfl, rfl⟩; rw [H2.out]))
        go_ret
        exact ⟨rfl, by (repeat' first | exact zbR _ _ | assumption | refine zbD ?_ | refine zbA ?_ ?_ _ | refine zbS ?_ ?_ _ | refine zbT ?_ (by assumption) ?_ | (simp; done) | (simp; omega) | omega)⟩
      · have h3' : (n : Int) ≤ 30 := by omega
        by_cases h4 : (40 : Int) < (m : Int)
        · have h4' : (40 : Int) < (m : Int) := by omega
          go_enter Try.func34, Try.ntmps34
          go_wp2_with (first | (go_at_call 37; (with_reducible refine (within_ref (x.long) (0) (1440) _).mono ?_); rintro e w' ⟨rfl, rfl⟩; rw [H1.out]) | (go_at_call 37; (with_reducible refine (within_ref (x.short) (0) (x.long) _).mono ?_); rintro e w' ⟨rfl, rfl⟩; rw [H2.out]))
          go_ret
          exact ⟨rfl, by (repeat' first | exact zbR _ _ | assumption | refine zbD ?_ | refine zbA ?_ ?_ _ | refine zbS ?_ ?_ _ | refine zbT ?_ (by assumption) ?_ | (simp; done) | (simp; omega) | omega)⟩
        · have h4' : (m : Int) ≤ 40 := by omega
          exfalso
          omega
set_option maxHeartbeats 3200000 in
set_option maxRecDepth 100000 in
theorem paidLaw_long (x : G.Tm) (A : Option Addr) (n c : Nat) (B : Option Addr) (m d : Nat) (lo hi : Int) (w : World) (h : 30 < n ∨ 40 < m) :
    Calls Try.prog 10 #[.agg #[.int .i64 x.short, .int .i64 x.long, .slice A n c], .slice B m d, .agg #[.int .i64 lo, .int .i64 hi]] w fun e w' => e = .returned (.bool true) ∧ Below w.heap.size w w' := by
  have HL := hide h
  clear h
  go_enter Try.func10, Try.ntmps10
  go_wp2_with (first | (go_at_call 34; (with_reducible refine (checkT_long x A n c B m d _ HL.out).mono ?_); rintro e w1 ⟨rfl, hb1⟩; have HB1 := hide (zbT (show Below w.heap.size w _ by (repeat' first | exact zbR _ _ | assumption | refine zbD ?_ | refine zbA ?_ ?_ _ | refine zbS ?_ ?_ _ | refine zbT ?_ (by assumption) ?_ | (simp; done) | (simp; omega) | omega)) hb1 (by simp; omega)); clear hb1) | (go_at_call 13; (with_reducible refine (works_any _).mono ?_); rintro e w9 ⟨rfl, hb9⟩; have HB9 := hide (zbT HB1.out hb9 HB1.out.size); clear hb9))
  go_ret
  exact ⟨rfl, HB9.out⟩
end Go.Proofs.Ytlpjkolocgkcpaa
