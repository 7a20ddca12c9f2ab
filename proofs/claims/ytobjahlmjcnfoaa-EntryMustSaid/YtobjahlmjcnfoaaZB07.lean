/-
  Part of a claim's texts: contracts of the program's functions and the plain functions that they compute, in build order.
-/
import Derived.Deep.Cut
import Derived.Deep.CutRange
import Derived.Test.YtobjahlmjcnfoaaZB06
namespace Go.Proofs.Ytobjahlmjcnfoaa
open Go.RowKit Go.Sort
attribute [local go_sem ↓] Go.wp_at_zero Go.wp_at_succ

set_option maxHeartbeats 64000000 in
set_option maxRecDepth 100000 in
theorem mustLaw_any (f : E.Fd) (A : Option Addr) (n c : Nat) (l : List E.Nt) (H p : Int) (Ap : Option Addr) (np cp : Nat) (ps : List Int) (w : World) (hn : l.length = n) (hr : RdN w w.heap.size A l) (hm : n ≤ 1000000) (hcap : A = none → c = 0) (hnp : ps.length = np) (hrp : RdI w w.heap.size Ap ps) :
    Calls Try.prog 8 #[.agg #[.int .i64 f.places, .int .i64 f.wilds, .int .i64 f.guards, .int .i64 f.close, .int .i64 f.freeze], .slice A n c, .agg #[.int .i64 H, .int .i64 p, .slice Ap np cp]] w fun e w' => e = .returned (.bool true) ∧ Below w.heap.size w w' := by
  have HN := hide hn
  have HR := hide hr
  have HM := hide hm
  have HCAP := hide hcap
  have HNP := hide hnp
  have HRP := hide hrp
  clear hn hr hm hcap hnp hrp
  obtain ⟨rd, hrd⟩ : ∃ q, E.readyB f l n = q := ⟨_, rfl⟩
  have HRD := hide hrd
  obtain ⟨ih, hih⟩ : ∃ q, E.within H 0 9999 = q := ⟨_, rfl⟩
  have HIH := hide hih
  clear hrd hih
  go_enter Try.func8, Try.ntmps8
  obtain ⟨w0, hw0⟩ : ∃ w0, (w.alloc (.cells #[.int .i64 f.places, .int .i64 f.wilds, .int .i64 f.guards, .int .i64 f.close, .int .i64 f.freeze] 23)).alloc (.cells #[.int .i64 H, .int .i64 p, .slice Ap np cp] 55) = w0 := ⟨_, rfl⟩
  have HB0 := hide (show Below w.heap.size w w0 by rw [← hw0]; (repeat' first | exact zbR _ _ | assumption | refine zbD ?_ | refine zbA ?_ ?_ _ | refine zbS ?_ ?_ _ | refine zbT ?_ (by assumption) ?_ | (simp; done) | (simp; omega) | omega))
  have HF0 := hide (show w0.heap[w.heap.size]? = some (.cells #[.int .i64 f.places, .int .i64 f.wilds, .int .i64 f.guards, .int .i64 f.close, .int .i64 f.freeze] 23 (0, 0)) by rw [← hw0]; exact (Below.heap_alloc _ _ _ (by first | (simp; done) | (simp; omega) | omega)).trans (World.alloc_heap_new _ _))
  have HA0 := hide (show w0.heap[w.heap.size + 1]? = some (.cells #[.int .i64 H, .int .i64 p, .slice Ap np cp] 55 (0, 0)) by rw [← hw0]; exact (congrArg _ (by simp)).trans (World.alloc_heap_new _ _))
  have HR0 := hide ((HR.out.below HB0.out).mono HB0.out.size)
  have HRP0 := hide ((HRP.out.below HB0.out).mono HB0.out.size)
  have HW0 := hide hw0
  clear hw0
  go_upto_region 1 with fail
  go_cut [48] from 18 (fun v48 wx => ∃ bb : Bool, v48 = .bool bb ∧ (bb = false → E.readyB f l n = true ∧ E.within H 0 9999 = true ∧ n ≤ 12 ∧ np ≤ 6 ∧ 0 ≤ p ∧ p ≤ 999) ∧ Hid (Below w0.heap.size w0 wx))
  case first =>
    cases rd
    · go_wp2_with (first | (go_at_call 19; rw [HW0.out]; refine (ready_any f A n c l w0 HN.out HR0.out HM.out).mono ?_; rintro e w1 ⟨rfl, hb1⟩; rw [HRD.out]; have HB1 := hide hb1; clear hb1; have HF1 := hide ((HB1.out.block _ (blk_lt HF0.out)).trans HF0.out); have HA1 := hide ((HB1.out.block _ (blk_lt HA0.out)).trans HA0.out); have x10 : w1.cell? ⟨w.heap.size, 0, none⟩ = some (.int .i64 f.places) := (blk_cell HF1.out 0).trans rfl; have x11 : w1.cell? ⟨w.heap.size, 1, none⟩ = some (.int .i64 f.wilds) := (blk_cell HF1.out 1).trans rfl; have x12 : w1.cell? ⟨w.heap.size, 2, none⟩ = some (.int .i64 f.guards) := (blk_cell HF1.out 2).trans rfl; have x13 : w1.cell? ⟨w.heap.size, 3, none⟩ = some (.int .i64 f.close) := (blk_cell HF1.out 3).trans rfl; have x14 : w1.cell? ⟨w.heap.size, 4, none⟩ = some (.int .i64 f.freeze) := (blk_cell HF1.out 4).trans rfl; have y10 : w1.cell? ⟨w.heap.size + 1, 0, none⟩ = some (.int .i64 H) := (blk_cell HA1.out 0).trans rfl; have y11 : w1.cell? ⟨w.heap.size + 1, 1, none⟩ = some (.int .i64 p) := (blk_cell HA1.out 1).trans rfl; have y12 : w1.cell? ⟨w.heap.size + 1, 2, none⟩ = some (.slice Ap np cp) := (blk_cell HA1.out 2).trans rfl; have l1f := blk_lt HF1.out; have l1a := blk_lt HA1.out) | (go_at_call 20; with_reducible refine (isHour_any H _).mono ?_; rintro e w' ⟨rfl, rfl⟩; rw [HIH.out]))
      go_meet
      case rel => exact ⟨true, by first | rfl | (simp; done) | (simp; omega), (fun h => by cases h), HB1⟩
    · cases ih
      · go_wp2_with (first | (go_at_call 19; rw [HW0.out]; refine (ready_any f A n c l w0 HN.out HR0.out HM.out).mono ?_; rintro e w1 ⟨rfl, hb1⟩; rw [HRD.out]; have HB1 := hide hb1; clear hb1; have HF1 := hide ((HB1.out.block _ (blk_lt HF0.out)).trans HF0.out); have HA1 := hide ((HB1.out.block _ (blk_lt HA0.out)).trans HA0.out); have x10 : w1.cell? ⟨w.heap.size, 0, none⟩ = some (.int .i64 f.places) := (blk_cell HF1.out 0).trans rfl; have x11 : w1.cell? ⟨w.heap.size, 1, none⟩ = some (.int .i64 f.wilds) := (blk_cell HF1.out 1).trans rfl; have x12 : w1.cell? ⟨w.heap.size, 2, none⟩ = some (.int .i64 f.guards) := (blk_cell HF1.out 2).trans rfl; have x13 : w1.cell? ⟨w.heap.size, 3, none⟩ = some (.int .i64 f.close) := (blk_cell HF1.out 3).trans rfl; have x14 : w1.cell? ⟨w.heap.size, 4, none⟩ = some (.int .i64 f.freeze) := (blk_cell HF1.out 4).trans rfl; have y10 : w1.cell? ⟨w.heap.size + 1, 0, none⟩ = some (.int .i64 H) := (blk_cell HA1.out 0).trans rfl; have y11 : w1.cell? ⟨w.heap.size + 1, 1, none⟩ = some (.int .i64 p) := (blk_cell HA1.out 1).trans rfl; have y12 : w1.cell? ⟨w.heap.size + 1, 2, none⟩ = some (.slice Ap np cp) := (blk_cell HA1.out 2).trans rfl; have l1f := blk_lt HF1.out; have l1a := blk_lt HA1.out) | (go_at_call 20; with_reducible refine (isHour_any H _).mono ?_; rintro e w' ⟨rfl, rfl⟩; rw [HIH.out]))
        go_meet
        case rel => exact ⟨true, by first | rfl | (simp; done) | (simp; omega), (fun h => by cases h), HB1⟩
      · by_cases hn12 : n ≤ 12
        · have i1 : (n : Int) ≤ 12 := by omega
          by_cases hn6 : np ≤ 6
          · have i2 : (np : Int) ≤ 6 := by omega
            by_cases hp0 : 0 ≤ p
            · by_cases hp9 : p ≤ 999
              · go_wp2_with (first | (go_at_call 19; rw [HW0.out]; refine (ready_any f A n c l w0 HN.out HR0.out HM.out).mono ?_; rintro e w1 ⟨rfl, hb1⟩; rw [HRD.out]; have HB1 := hide hb1; clear hb1; have HF1 := hide ((HB1.out.block _ (blk_lt HF0.out)).trans HF0.out); have HA1 := hide ((HB1.out.block _ (blk_lt HA0.out)).trans HA0.out); have x10 : w1.cell? ⟨w.heap.size, 0, none⟩ = some (.int .i64 f.places) := (blk_cell HF1.out 0).trans rfl; have x11 : w1.cell? ⟨w.heap.size, 1, none⟩ = some (.int .i64 f.wilds) := (blk_cell HF1.out 1).trans rfl; have x12 : w1.cell? ⟨w.heap.size, 2, none⟩ = some (.int .i64 f.guards) := (blk_cell HF1.out 2).trans rfl; have x13 : w1.cell? ⟨w.heap.size, 3, none⟩ = some (.int .i64 f.close) := (blk_cell HF1.out 3).trans rfl; have x14 : w1.cell? ⟨w.heap.size, 4, none⟩ = some (.int .i64 f.freeze) := (blk_cell HF1.out 4).trans rfl; have y10 : w1.cell? ⟨w.heap.size + 1, 0, none⟩ = some (.int .i64 H) := (blk_cell HA1.out 0).trans rfl; have y11 : w1.cell? ⟨w.heap.size + 1, 1, none⟩ = some (.int .i64 p) := (blk_cell HA1.out 1).trans rfl; have y12 : w1.cell? ⟨w.heap.size + 1, 2, none⟩ = some (.slice Ap np cp) := (blk_cell HA1.out 2).trans rfl; have l1f := blk_lt HF1.out; have l1a := blk_lt HA1.out) | (go_at_call 20; with_reducible refine (isHour_any H _).mono ?_; rintro e w' ⟨rfl, rfl⟩; rw [HIH.out]))
                go_meet
                case rel => exact ⟨false, by first | rfl | (simp; done) | (simp; omega), (fun _ => ⟨HRD.out, HIH.out, hn12, hn6, hp0, hp9⟩), HB1⟩
              · have i5 : 999 < p := by omega
                clear hp9
                go_wp2_with (first | (go_at_call 19; rw [HW0.out]; refine (ready_any f A n c l w0 HN.out HR0.out HM.out).mono ?_; rintro e w1 ⟨rfl, hb1⟩; rw [HRD.out]; have HB1 := hide hb1; clear hb1; have HF1 := hide ((HB1.out.block _ (blk_lt HF0.out)).trans HF0.out); have HA1 := hide ((HB1.out.block _ (blk_lt HA0.out)).trans HA0.out); have x10 : w1.cell? ⟨w.heap.size, 0, none⟩ = some (.int .i64 f.places) := (blk_cell HF1.out 0).trans rfl; have x11 : w1.cell? ⟨w.heap.size, 1, none⟩ = some (.int .i64 f.wilds) := (blk_cell HF1.out 1).trans rfl; have x12 : w1.cell? ⟨w.heap.size, 2, none⟩ = some (.int .i64 f.guards) := (blk_cell HF1.out 2).trans rfl; have x13 : w1.cell? ⟨w.heap.size, 3, none⟩ = some (.int .i64 f.close) := (blk_cell HF1.out 3).trans rfl; have x14 : w1.cell? ⟨w.heap.size, 4, none⟩ = some (.int .i64 f.freeze) := (blk_cell HF1.out 4).trans rfl; have y10 : w1.cell? ⟨w.heap.size + 1, 0, none⟩ = some (.int .i64 H) := (blk_cell HA1.out 0).trans rfl; have y11 : w1.cell? ⟨w.heap.size + 1, 1, none⟩ = some (.int .i64 p) := (blk_cell HA1.out 1).trans rfl; have y12 : w1.cell? ⟨w.heap.size + 1, 2, none⟩ = some (.slice Ap np cp) := (blk_cell HA1.out 2).trans rfl; have l1f := blk_lt HF1.out; have l1a := blk_lt HA1.out) | (go_at_call 20; with_reducible refine (isHour_any H _).mono ?_; rintro e w' ⟨rfl, rfl⟩; rw [HIH.out]))
                go_meet
                case rel => exact ⟨true, by first | rfl | (simp; done) | (simp; omega), (fun h => by cases h), HB1⟩
            · have i5 : p < 0 := by omega
              clear hp0
              go_wp2_with (first | (go_at_call 19; rw [HW0.out]; refine (ready_any f A n c l w0 HN.out HR0.out HM.out).mono ?_; rintro e w1 ⟨rfl, hb1⟩; rw [HRD.out]; have HB1 := hide hb1; clear hb1; have HF1 := hide ((HB1.out.block _ (blk_lt HF0.out)).trans HF0.out); have HA1 := hide ((HB1.out.block _ (blk_lt HA0.out)).trans HA0.out); have x10 : w1.cell? ⟨w.heap.size, 0, none⟩ = some (.int .i64 f.places) := (blk_cell HF1.out 0).trans rfl; have x11 : w1.cell? ⟨w.heap.size, 1, none⟩ = some (.int .i64 f.wilds) := (blk_cell HF1.out 1).trans rfl; have x12 : w1.cell? ⟨w.heap.size, 2, none⟩ = some (.int .i64 f.guards) := (blk_cell HF1.out 2).trans rfl; have x13 : w1.cell? ⟨w.heap.size, 3, none⟩ = some (.int .i64 f.close) := (blk_cell HF1.out 3).trans rfl; have x14 : w1.cell? ⟨w.heap.size, 4, none⟩ = some (.int .i64 f.freeze) := (blk_cell HF1.out 4).trans rfl; have y10 : w1.cell? ⟨w.heap.size + 1, 0, none⟩ = some (.int .i64 H) := (blk_cell HA1.out 0).trans rfl; have y11 : w1.cell? ⟨w.heap.size + 1, 1, none⟩ = some (.int .i64 p) := (blk_cell HA1.out 1).trans rfl; have y12 : w1.cell? ⟨w.heap.size + 1, 2, none⟩ = some (.slice Ap np cp) := (blk_cell HA1.out 2).trans rfl; have l1f := blk_lt HF1.out; have l1a := blk_lt HA1.out) | (go_at_call 20; with_reducible refine (isHour_any H _).mono ?_; rintro e w' ⟨rfl, rfl⟩; rw [HIH.out]))
              go_meet
              case rel => exact ⟨true, by first | rfl | (simp; done) | (simp; omega), (fun h => by cases h), HB1⟩
          · have i2 : (6 : Int) < (np : Int) := by omega
            clear hn6
            go_wp2_with (first | (go_at_call 19; rw [HW0.out]; refine (ready_any f A n c l w0 HN.out HR0.out HM.out).mono ?_; rintro e w1 ⟨rfl, hb1⟩; rw [HRD.out]; have HB1 := hide hb1; clear hb1; have HF1 := hide ((HB1.out.block _ (blk_lt HF0.out)).trans HF0.out); have HA1 := hide ((HB1.out.block _ (blk_lt HA0.out)).trans HA0.out); have x10 : w1.cell? ⟨w.heap.size, 0, none⟩ = some (.int .i64 f.places) := (blk_cell HF1.out 0).trans rfl; have x11 : w1.cell? ⟨w.heap.size, 1, none⟩ = some (.int .i64 f.wilds) := (blk_cell HF1.out 1).trans rfl; have x12 : w1.cell? ⟨w.heap.size, 2, none⟩ = some (.int .i64 f.guards) := (blk_cell HF1.out 2).trans rfl; have x13 : w1.cell? ⟨w.heap.size, 3, none⟩ = some (.int .i64 f.close) := (blk_cell HF1.out 3).trans rfl; have x14 : w1.cell? ⟨w.heap.size, 4, none⟩ = some (.int .i64 f.freeze) := (blk_cell HF1.out 4).trans rfl; have y10 : w1.cell? ⟨w.heap.size + 1, 0, none⟩ = some (.int .i64 H) := (blk_cell HA1.out 0).trans rfl; have y11 : w1.cell? ⟨w.heap.size + 1, 1, none⟩ = some (.int .i64 p) := (blk_cell HA1.out 1).trans rfl; have y12 : w1.cell? ⟨w.heap.size + 1, 2, none⟩ = some (.slice Ap np cp) := (blk_cell HA1.out 2).trans rfl; have l1f := blk_lt HF1.out; have l1a := blk_lt HA1.out) | (go_at_call 20; with_reducible refine (isHour_any H _).mono ?_; rintro e w' ⟨rfl, rfl⟩; rw [HIH.out]))
            go_meet
            case rel => exact ⟨true, by first | rfl | (simp; done) | (simp; omega), (fun h => by cases h), HB1⟩
        · have i1 : (12 : Int) < (n : Int) := by omega
          clear hn12
          go_wp2_with (first | (go_at_call 19; rw [HW0.out]; refine (ready_any f A n c l w0 HN.out HR0.out HM.out).mono ?_; rintro e w1 ⟨rfl, hb1⟩; rw [HRD.out]; have HB1 := hide hb1; clear hb1; have HF1 := hide ((HB1.out.block _ (blk_lt HF0.out)).trans HF0.out); have HA1 := hide ((HB1.out.block _ (blk_lt HA0.out)).trans HA0.out); have x10 : w1.cell? ⟨w.heap.size, 0, none⟩ = some (.int .i64 f.places) := (blk_cell HF1.out 0).trans rfl; have x11 : w1.cell? ⟨w.heap.size, 1, none⟩ = some (.int .i64 f.wilds) := (blk_cell HF1.out 1).trans rfl; have x12 : w1.cell? ⟨w.heap.size, 2, none⟩ = some (.int .i64 f.guards) := (blk_cell HF1.out 2).trans rfl; have x13 : w1.cell? ⟨w.heap.size, 3, none⟩ = some (.int .i64 f.close) := (blk_cell HF1.out 3).trans rfl; have x14 : w1.cell? ⟨w.heap.size, 4, none⟩ = some (.int .i64 f.freeze) := (blk_cell HF1.out 4).trans rfl; have y10 : w1.cell? ⟨w.heap.size + 1, 0, none⟩ = some (.int .i64 H) := (blk_cell HA1.out 0).trans rfl; have y11 : w1.cell? ⟨w.heap.size + 1, 1, none⟩ = some (.int .i64 p) := (blk_cell HA1.out 1).trans rfl; have y12 : w1.cell? ⟨w.heap.size + 1, 2, none⟩ = some (.slice Ap np cp) := (blk_cell HA1.out 2).trans rfl; have l1f := blk_lt HF1.out; have l1a := blk_lt HA1.out) | (go_at_call 20; with_reducible refine (isHour_any H _).mono ?_; rintro e w' ⟨rfl, rfl⟩; rw [HIH.out]))
          go_meet
          case rel => exact ⟨true, by first | rfl | (simp; done) | (simp; omega), (fun h => by cases h), HB1⟩
  case rest =>
    obtain ⟨bb, rfl, hbb, HB1⟩ := hcut
    obtain ⟨w1, hw1⟩ : ∃ q, wc = q := ⟨_, rfl⟩
    rw [hw1] at HB1 ⊢
    clear hw1
    have HBW1 := hide (zbT HB0.out HB1.out HB0.out.size)
    cases bb
    · obtain ⟨hrd1, hih1, hn12, hn6, hp0, hp9⟩ := hbb rfl
      have HF1 := hide ((HB1.out.block _ (blk_lt HF0.out)).trans HF0.out)
      have HA1 := hide ((HB1.out.block _ (blk_lt HA0.out)).trans HA0.out)
      have HR1 := hide ((HR0.out.below HB1.out).mono HB1.out.size)
      have HRP1 := hide ((HRP0.out.below HB1.out).mono HB1.out.size)
      have HCK := hide (show E.checkE f l = 0 by unfold E.readyB at hrd1; simp only [Bool.and_eq_true, beq_iff_eq] at hrd1; exact hrd1.2)
      have HIH' := hide (show 0 ≤ H ∧ H ≤ 9999 by unfold E.within at hih1; simpa using hih1)
      clear hrd1 hih1 HRD HIH HB1 hbb
      go_wp2_with fail
      go_loopw [7] (fun i wr => ∃ i' : Nat, i' ≤ n ∧ i = .int .i64 i' ∧ Hid (∀ j y, j < i' → l[j]? = some y → y.id ≤ 900 ∧ y.hour ≤ H) ∧ Hid (Below w1.heap.size w1 wr)) (fun i _ => n - (intOf i).toNat)
      case atStart => exact ⟨0, by omega, rfl, hide (fun j y hj => by omega), hide (Below.refl _ _)⟩
      case round =>
        obtain ⟨i, hi, rfl, HJ, HBk⟩ := hrel
        by_cases hin : i < n
        · obtain ⟨x, hx⟩ : ∃ q, l[i]? = some q := ⟨_, List.getElem?_eq_getElem (by have := HN.out; omega)⟩
          have HX := hide hx
          have hi1 : (i : Int) < (n : Int) := by omega
          have hi0 : (0 : Int) ≤ (i : Int) := by omega
          clear hx
          go_upto_region 6 with fail
          obtain ⟨a1, hba1⟩ : ∃ b, decide (900 < x.id) = b := ⟨_, rfl⟩
          have Pa1 := hide hba1
          clear hba1
          cases a1
          · obtain ⟨a2, hba2⟩ : ∃ b, decide (H < x.hour) = b := ⟨_, rfl⟩
            have Pa2 := hide hba2
            clear hba2
            cases a2
            · obtain ⟨V, hV⟩ : ∃ V, (wr).drew = V := ⟨_, rfl⟩
              have HBV := hide (show Below w1.heap.size w1 V by rw [← hV]; exact zbD HBk.out)
              obtain ⟨bl, ol, hAl, _, xc0, xc1, xc2, xc3, xc4⟩ := (HR1.out.below HBV.out) i x HX.out
              subst hAl
              have HAV := hide ((HBV.out.block _ (blk_lt HA1.out)).trans HA1.out)
              have yv0 : V.cell? ⟨w.heap.size + 1, 0, none⟩ = some (.int .i64 H) := (blk_cell HAV.out 0).trans rfl
              have lyv := blk_lt HAV.out
              refine wp_region_still_lit (by kernel_rfl) (by kernel_rfl) ?_
              change wpStill _ _ (wr).drew (fun a' => Exit.then _ _ Exit.normal a' (wr).drew) _ _
              rw [hV]
              clear hV
              with_reducible refine stTake (v := ?_) (by kernel_rfl) ?_ ?_; rotate_left
              · (go_simp; (try with_reducible rfl))
              (try simp only [Act.put, zl, List.set_cons_zero, List.set_cons_succ])
              with_reducible refine stTake (v := ?_) (by kernel_rfl) ?_ ?_; rotate_left
              · (go_simp; (try with_reducible rfl))
              (try simp only [Act.put, zl, List.set_cons_zero, List.set_cons_succ])
              with_reducible refine stTake (v := ?_) (by kernel_rfl) ?_ ?_; rotate_left
              · (go_simp; (try with_reducible rfl))
              (try simp only [Act.put, zl, List.set_cons_zero, List.set_cons_succ])
              with_reducible refine stTake (v := ?_) (by kernel_rfl) ?_ ?_; rotate_left
              · (go_simp; (try with_reducible rfl))
              (try simp only [Act.put, zl, List.set_cons_zero, List.set_cons_succ])
              with_reducible refine stTake (v := ?_) (by kernel_rfl) ?_ ?_; rotate_left
              · (go_simp; (try with_reducible rfl))
              (try simp only [Act.put, zl, List.set_cons_zero, List.set_cons_succ])
              with_reducible refine stTake (v := ?_) (by kernel_rfl) ?_ ?_; rotate_left
              · (go_simp; (try simp only [Pa1.out]); (try with_reducible rfl))
              (try simp only [Act.put, zl, List.set_cons_zero, List.set_cons_succ])
              with_reducible refine stTake (v := ?_) (by kernel_rfl) ?_ ?_; rotate_left
              · (go_simp; (try with_reducible rfl))
              (try simp only [Act.put, zl, List.set_cons_zero, List.set_cons_succ])
              with_reducible refine stTake (v := ?_) (by kernel_rfl) ?_ ?_; rotate_left
              · (go_simp; (try with_reducible rfl))
              (try simp only [Act.put, zl, List.set_cons_zero, List.set_cons_succ])
              with_reducible refine stTake (v := ?_) (by kernel_rfl) ?_ ?_; rotate_left
              · (go_simp; (try with_reducible rfl))
              (try simp only [Act.put, zl, List.set_cons_zero, List.set_cons_succ])
              with_reducible refine stTake (v := ?_) (by kernel_rfl) ?_ ?_; rotate_left
              · (go_simp; (try with_reducible rfl))
              (try simp only [Act.put, zl, List.set_cons_zero, List.set_cons_succ])
              with_reducible refine stTake (v := ?_) (by kernel_rfl) ?_ ?_; rotate_left
              · (go_simp; (try with_reducible rfl))
              (try simp only [Act.put, zl, List.set_cons_zero, List.set_cons_succ])
              with_reducible refine stTake (v := ?_) (by kernel_rfl) ?_ ?_; rotate_left
              · (go_simp; (try with_reducible rfl))
              (try simp only [Act.put, zl, List.set_cons_zero, List.set_cons_succ])
              with_reducible refine stTake (v := ?_) (by kernel_rfl) ?_ ?_; rotate_left
              · (go_simp; (try with_reducible rfl))
              (try simp only [Act.put, zl, List.set_cons_zero, List.set_cons_succ])
              with_reducible refine stTake (v := ?_) (by kernel_rfl) ?_ ?_; rotate_left
              · (go_simp; (try with_reducible rfl))
              (try simp only [Act.put, zl, List.set_cons_zero, List.set_cons_succ])
              with_reducible refine stTake (v := ?_) (by kernel_rfl) ?_ ?_; rotate_left
              · (go_simp; (try simp only [Pa2.out]); (try with_reducible rfl))
              (try simp only [Act.put, zl, List.set_cons_zero, List.set_cons_succ])
              with_reducible refine stTake (v := ?_) (by kernel_rfl) ?_ ?_; rotate_left
              · (go_simp; (try with_reducible rfl))
              (try simp only [Act.put, zl, List.set_cons_zero, List.set_cons_succ])
              refine wpStill_nil ?_
              clear xc0 xc1 xc2 xc3 xc4 yv0 lyv
              as_aux_lemma =>
                go_wp2_with fail
                go_roundw
                case rel => exact ⟨i + 1, by omega, by go_num, hide (fun j y hj hy => by
                    rcases Nat.lt_or_ge j i with h | h
                    · exact HJ.out j y h hy
                    · have e : j = i := by omega
                      rw [e, HX.out] at hy
                      rw [← Option.some.inj hy]
                      exact ⟨by have := of_decide_eq_false Pa1.out; omega, by have := of_decide_eq_false Pa2.out; omega⟩), HBV⟩
                case measure => simp [intOf]; omega
            · obtain ⟨V, hV⟩ : ∃ V, (wr).drew = V := ⟨_, rfl⟩
              have HBV := hide (show Below w1.heap.size w1 V by rw [← hV]; exact zbD HBk.out)
              obtain ⟨bl, ol, hAl, _, xc0, xc1, xc2, xc3, xc4⟩ := (HR1.out.below HBV.out) i x HX.out
              subst hAl
              have HAV := hide ((HBV.out.block _ (blk_lt HA1.out)).trans HA1.out)
              have yv0 : V.cell? ⟨w.heap.size + 1, 0, none⟩ = some (.int .i64 H) := (blk_cell HAV.out 0).trans rfl
              have lyv := blk_lt HAV.out
              refine wp_region_still_lit (by kernel_rfl) (by kernel_rfl) ?_
              change wpStill _ _ (wr).drew (fun a' => Exit.then _ _ Exit.normal a' (wr).drew) _ _
              rw [hV]
              clear hV
              with_reducible refine stTake (v := ?_) (by kernel_rfl) ?_ ?_; rotate_left
              · (go_simp; (try with_reducible rfl))
              (try simp only [Act.put, zl, List.set_cons_zero, List.set_cons_succ])
              with_reducible refine stTake (v := ?_) (by kernel_rfl) ?_ ?_; rotate_left
              · (go_simp; (try with_reducible rfl))
              (try simp only [Act.put, zl, List.set_cons_zero, List.set_cons_succ])
              with_reducible refine stTake (v := ?_) (by kernel_rfl) ?_ ?_; rotate_left
              · (go_simp; (try with_reducible rfl))
              (try simp only [Act.put, zl, List.set_cons_zero, List.set_cons_succ])
              with_reducible refine stTake (v := ?_) (by kernel_rfl) ?_ ?_; rotate_left
              · (go_simp; (try with_reducible rfl))
              (try simp only [Act.put, zl, List.set_cons_zero, List.set_cons_succ])
              with_reducible refine stTake (v := ?_) (by kernel_rfl) ?_ ?_; rotate_left
              · (go_simp; (try with_reducible rfl))
              (try simp only [Act.put, zl, List.set_cons_zero, List.set_cons_succ])
              with_reducible refine stTake (v := ?_) (by kernel_rfl) ?_ ?_; rotate_left
              · (go_simp; (try simp only [Pa1.out]); (try with_reducible rfl))
              (try simp only [Act.put, zl, List.set_cons_zero, List.set_cons_succ])
              with_reducible refine stTake (v := ?_) (by kernel_rfl) ?_ ?_; rotate_left
              · (go_simp; (try with_reducible rfl))
              (try simp only [Act.put, zl, List.set_cons_zero, List.set_cons_succ])
              with_reducible refine stTake (v := ?_) (by kernel_rfl) ?_ ?_; rotate_left
              · (go_simp; (try with_reducible rfl))
              (try simp only [Act.put, zl, List.set_cons_zero, List.set_cons_succ])
              with_reducible refine stTake (v := ?_) (by kernel_rfl) ?_ ?_; rotate_left
              · (go_simp; (try with_reducible rfl))
              (try simp only [Act.put, zl, List.set_cons_zero, List.set_cons_succ])
              with_reducible refine stTake (v := ?_) (by kernel_rfl) ?_ ?_; rotate_left
              · (go_simp; (try with_reducible rfl))
              (try simp only [Act.put, zl, List.set_cons_zero, List.set_cons_succ])
              with_reducible refine stTake (v := ?_) (by kernel_rfl) ?_ ?_; rotate_left
              · (go_simp; (try with_reducible rfl))
              (try simp only [Act.put, zl, List.set_cons_zero, List.set_cons_succ])
              with_reducible refine stTake (v := ?_) (by kernel_rfl) ?_ ?_; rotate_left
              · (go_simp; (try with_reducible rfl))
              (try simp only [Act.put, zl, List.set_cons_zero, List.set_cons_succ])
              with_reducible refine stTake (v := ?_) (by kernel_rfl) ?_ ?_; rotate_left
              · (go_simp; (try with_reducible rfl))
              (try simp only [Act.put, zl, List.set_cons_zero, List.set_cons_succ])
              with_reducible refine stTake (v := ?_) (by kernel_rfl) ?_ ?_; rotate_left
              · (go_simp; (try with_reducible rfl))
              (try simp only [Act.put, zl, List.set_cons_zero, List.set_cons_succ])
              with_reducible refine stTake (v := ?_) (by kernel_rfl) ?_ ?_; rotate_left
              · (go_simp; (try simp only [Pa2.out]); (try with_reducible rfl))
              (try simp only [Act.put, zl, List.set_cons_zero, List.set_cons_succ])
              with_reducible refine stTake (v := ?_) (by kernel_rfl) ?_ ?_; rotate_left
              · (go_simp; (try with_reducible rfl))
              (try simp only [Act.put, zl, List.set_cons_zero, List.set_cons_succ])
              refine wpStill_nil ?_
              clear xc0 xc1 xc2 xc3 xc4 yv0 lyv
              have HBWV := hide (zbT HBW1.out HBV.out HBW1.out.size)
              as_aux_lemma =>
                go_wp2_with (go_at_call 11; refine (works_any _).mono ?_; rintro e w9 ⟨rfl, hb9⟩; have HB9 := hide (zbT HBWV.out hb9 HBWV.out.size); clear hb9)
                go_ret
                exact ⟨rfl, HB9.out⟩
          · obtain ⟨V, hV⟩ : ∃ V, (wr).drew = V := ⟨_, rfl⟩
            have HBV := hide (show Below w1.heap.size w1 V by rw [← hV]; exact zbD HBk.out)
            obtain ⟨bl, ol, hAl, _, xc0, xc1, xc2, xc3, xc4⟩ := (HR1.out.below HBV.out) i x HX.out
            subst hAl
            have HAV := hide ((HBV.out.block _ (blk_lt HA1.out)).trans HA1.out)
            have yv0 : V.cell? ⟨w.heap.size + 1, 0, none⟩ = some (.int .i64 H) := (blk_cell HAV.out 0).trans rfl
            have lyv := blk_lt HAV.out
            refine wp_region_still_lit (by kernel_rfl) (by kernel_rfl) ?_
            change wpStill _ _ (wr).drew (fun a' => Exit.then _ _ Exit.normal a' (wr).drew) _ _
            rw [hV]
            clear hV
            with_reducible refine stTake (v := ?_) (by kernel_rfl) ?_ ?_; rotate_left
            · (go_simp; (try with_reducible rfl))
            (try simp only [Act.put, zl, List.set_cons_zero, List.set_cons_succ])
            with_reducible refine stTake (v := ?_) (by kernel_rfl) ?_ ?_; rotate_left
            · (go_simp; (try with_reducible rfl))
            (try simp only [Act.put, zl, List.set_cons_zero, List.set_cons_succ])
            with_reducible refine stTake (v := ?_) (by kernel_rfl) ?_ ?_; rotate_left
            · (go_simp; (try with_reducible rfl))
            (try simp only [Act.put, zl, List.set_cons_zero, List.set_cons_succ])
            with_reducible refine stTake (v := ?_) (by kernel_rfl) ?_ ?_; rotate_left
            · (go_simp; (try with_reducible rfl))
            (try simp only [Act.put, zl, List.set_cons_zero, List.set_cons_succ])
            with_reducible refine stTake (v := ?_) (by kernel_rfl) ?_ ?_; rotate_left
            · (go_simp; (try with_reducible rfl))
            (try simp only [Act.put, zl, List.set_cons_zero, List.set_cons_succ])
            with_reducible refine stTake (v := ?_) (by kernel_rfl) ?_ ?_; rotate_left
            · (go_simp; (try simp only [Pa1.out]); (try with_reducible rfl))
            (try simp only [Act.put, zl, List.set_cons_zero, List.set_cons_succ])
            with_reducible refine stTake (v := ?_) (by kernel_rfl) ?_ ?_; rotate_left
            · (go_simp; (try with_reducible rfl))
            (try simp only [Act.put, zl, List.set_cons_zero, List.set_cons_succ])
            with_reducible refine stSkip (by kernel_rfl) ?_
            (try simp only [Act.put, zl, List.set_cons_zero, List.set_cons_succ])
            with_reducible refine stSkip (by kernel_rfl) ?_
            (try simp only [Act.put, zl, List.set_cons_zero, List.set_cons_succ])
            with_reducible refine stSkip (by kernel_rfl) ?_
            (try simp only [Act.put, zl, List.set_cons_zero, List.set_cons_succ])
            with_reducible refine stSkip (by kernel_rfl) ?_
            (try simp only [Act.put, zl, List.set_cons_zero, List.set_cons_succ])
            with_reducible refine stSkip (by kernel_rfl) ?_
            (try simp only [Act.put, zl, List.set_cons_zero, List.set_cons_succ])
            with_reducible refine stSkip (by kernel_rfl) ?_
            (try simp only [Act.put, zl, List.set_cons_zero, List.set_cons_succ])
            with_reducible refine stSkip (by kernel_rfl) ?_
            (try simp only [Act.put, zl, List.set_cons_zero, List.set_cons_succ])
            with_reducible refine stSkip (by kernel_rfl) ?_
            (try simp only [Act.put, zl, List.set_cons_zero, List.set_cons_succ])
            with_reducible refine stTake (v := ?_) (by kernel_rfl) ?_ ?_; rotate_left
            · (go_simp; (try with_reducible rfl))
            (try simp only [Act.put, zl, List.set_cons_zero, List.set_cons_succ])
            refine wpStill_nil ?_
            clear xc0 xc1 xc2 xc3 xc4 yv0 lyv
            have HBWV := hide (zbT HBW1.out HBV.out HBW1.out.size)
            as_aux_lemma =>
              go_wp2_with (go_at_call 11; refine (works_any _).mono ?_; rintro e w9 ⟨rfl, hb9⟩; have HB9 := hide (zbT HBWV.out hb9 HBWV.out.size); clear hb9)
              go_ret
              exact ⟨rfl, HB9.out⟩
        · have hin2 : n = i := by omega
          subst hin2
          have HNW := hide (show ∀ x ∈ l, x.id ≤ 900 ∧ x.hour ≤ H from fun x hx => by
            obtain ⟨j, hj⟩ := List.mem_iff_getElem?.1 hx
            exact HJ.out j x (by have := (List.getElem?_eq_some_iff.1 hj).1; have := HN.out; omega) hj)
          clear HJ hi hin
          obtain ⟨wa, hwa⟩ : ∃ q, wr = q := ⟨_, rfl⟩
          rw [hwa] at HBk ⊢
          clear hwa
          have HBWa := hide (zbT HBW1.out HBk.out HBW1.out.size)
          have HFa := hide ((HBk.out.block _ (blk_lt HF1.out)).trans HF1.out)
          have HAa := hide ((HBk.out.block _ (blk_lt HA1.out)).trans HA1.out)
          have HRa := hide ((HR1.out.below HBk.out).mono HBk.out.size)
          have HRPa := hide ((HRP1.out.below HBk.out).mono HBk.out.size)
          have HVF := hide (show E.validField f = true from (E.errE_ok (E.err_zero (p := 0) HCK.out HIH'.out (by omega))).2.1)
          obtain ⟨d0, hd0⟩ := E.check_diffs HCK.out
          have HNow0 := hide (show E.Now f H l d0 0 from ⟨hd0, by have := HN.out; omega, fun x hx => by have := (HNW.out x hx).1; simpa using this, fun x hx => (HNW.out x hx).2⟩)
          clear hd0 HBk HF1 HA1 HR1 HRP1 HBW1
          have HPP := hide (And.intro hp0 hp9)
          clear hp0 hp9
          go_upto_region 9 with (at_builtin; refine wpList_app_Ns rfl (.tmp 73) (.tmp 74) rfl wa.heap.size (.slice (some ⟨wa.heap.size, 0, none⟩) 0 0) [] 0 rfl (ownsN_empty (World.alloc_heap_new wa _) (Nat.le_refl _)) rfl A n c l rfl HN.out ((HRa.out.below (zbA (zbR _ _) (Nat.le_refl _) _)).mono (by simp)) HCAP.out (by omega) (by omega) (by simp) n (by omega) ?_; intro A7 c7 w2 hown hgrow; have HO2 := hide (show w2.ownsRow wa.heap.size 40 5 (.slice A7 n c7) n (flatN l) from hown); have HB2 := hide ((zbA (zbR wa.heap.size wa) (Nat.le_refl _) _).trans (grown_below (B := wa.heap.size) hgrow (by simp) (fun g hg => by have h1 : wa.heap.size = g := Option.some.inj hg; omega))); clear hown hgrow)
          have HF2 := hide ((HB2.out.block _ (blk_lt HFa.out)).trans HFa.out)
          have HA2 := hide ((HB2.out.block _ (blk_lt HAa.out)).trans HAa.out)
          obtain ⟨r0, hr0⟩ : ∃ q, needsV f l H p = q := ⟨_, rfl⟩
          have HR00 := hide hr0
          obtain ⟨va0, vb0, hv0⟩ : ∃ a b, nv r0 = (a, b) := ⟨_, _, rfl⟩
          have HV00 := hide hv0
          clear hr0 hv0
          have x20 : w2.cell? ⟨w.heap.size, 0, none⟩ = some (.int .i64 f.places) := (blk_cell HF2.out 0).trans rfl
          have x21 : w2.cell? ⟨w.heap.size, 1, none⟩ = some (.int .i64 f.wilds) := (blk_cell HF2.out 1).trans rfl
          have x22 : w2.cell? ⟨w.heap.size, 2, none⟩ = some (.int .i64 f.guards) := (blk_cell HF2.out 2).trans rfl
          have x23 : w2.cell? ⟨w.heap.size, 3, none⟩ = some (.int .i64 f.close) := (blk_cell HF2.out 3).trans rfl
          have x24 : w2.cell? ⟨w.heap.size, 4, none⟩ = some (.int .i64 f.freeze) := (blk_cell HF2.out 4).trans rfl
          have y20 : w2.cell? ⟨w.heap.size + 1, 0, none⟩ = some (.int .i64 H) := (blk_cell HA2.out 0).trans rfl
          have y21 : w2.cell? ⟨w.heap.size + 1, 1, none⟩ = some (.int .i64 p) := (blk_cell HA2.out 1).trans rfl
          have y22 : w2.cell? ⟨w.heap.size + 1, 2, none⟩ = some (.slice Ap np cp) := (blk_cell HA2.out 2).trans rfl
          have l2f := blk_lt HF2.out
          have l2a := blk_lt HA2.out
          go_upto_region 10 with (go_at_call 23; with_reducible refine (needs_now f A7 n c7 l d0 H p 0 w2 HN.out (owns_RdN HO2.out HN.out) (by omega) HNow0.out HVF.out HIH'.out HPP.out r0 HR00.out _ _ HV00.out).mono ?_; rintro e w3 ⟨rfl, hb⟩; have HO3 := hide (owns_below HO2.out hb); have HB3 := hide (zbT HB2.out hb HB2.out.size); clear hb)
          clear x20 x21 x22 x23 x24 y20 y21 y22 l2f l2a
          go_wp2_with fail
          go_loopw [8, 9, 10, 11] (fun v8 v9 v10 v11 wr => ∃ (j m : Nat) (A8 : Option Addr) (c8 : Nat) (nw dn : List E.Nt) (r : Option Int) (va vb : Int), j ≤ np ∧ v8 = .slice A8 m c8 ∧ v9 = .int .i64 va ∧ v10 = .int .i64 vb ∧ v11 = .int .i64 j ∧ Hid (nv r = (va, vb)) ∧ Hid (nw.length = m) ∧ Hid (E.Now f H nw dn j) ∧ Hid (needsV f nw H p = r) ∧ Hid (wr.ownsRow wa.heap.size 40 5 (.slice A8 m c8) m (flatN nw)) ∧ Hid (Below wa.heap.size wa wr)) (fun _ _ _ i _ => np + 1 - (intOf i).toNat)
          case atStart => exact ⟨0, n, A7, c7, l, d0, r0, va0, vb0, by omega, rfl, rfl, rfl, rfl, HV00, HN, HNow0, HR00, HO3, HB3⟩
          case round =>
            obtain ⟨j, m, A8, c8, nw, dn, r, va, vb, hj, rfl, rfl, rfl, rfl, HVr, HNL, HNow, HR0r, HOn, HBn⟩ := hrel
            have hm18 : m ≤ 12 + j := by have h1 := HNow.out.len; have h2 := HNL.out; omega
            obtain ⟨M, hM⟩ : ∃ q, (E.atL f H dn).main = q := ⟨_, rfl⟩
            obtain ⟨C, hC⟩ : ∃ q, (E.atL f H dn).cards = q := ⟨_, rfl⟩
            obtain ⟨O, hO⟩ : ∃ q, (E.atL f H dn).alts = q := ⟨_, rfl⟩
            obtain ⟨P, hP⟩ : ∃ q, (E.atL f H dn).f.places - ((E.atL f H dn).main.length : Int) = q := ⟨_, rfl⟩
            have HEM := hide hM
            have HEC := hide hC
            have HEO := hide hO
            have HEP := hide hP
            have HML := hide (show M.length ≤ 1000 by rw [← hM]; exact main_len HNow.out HVF.out)
            clear hM hC hO hP
            have HFr := hide ((HBn.out.block _ (blk_lt HFa.out)).trans HFa.out)
            have HAr := hide ((HBn.out.block _ (blk_lt HAa.out)).trans HAa.out)
            have hji : (j : Int) ≤ (np : Int) := by omega
            have xr0 : wr.cell? ⟨w.heap.size, 0, none⟩ = some (.int .i64 f.places) := (blk_cell HFr.out 0).trans rfl
            have xr1 : wr.cell? ⟨w.heap.size, 1, none⟩ = some (.int .i64 f.wilds) := (blk_cell HFr.out 1).trans rfl
            have xr2 : wr.cell? ⟨w.heap.size, 2, none⟩ = some (.int .i64 f.guards) := (blk_cell HFr.out 2).trans rfl
            have xr3 : wr.cell? ⟨w.heap.size, 3, none⟩ = some (.int .i64 f.close) := (blk_cell HFr.out 3).trans rfl
            have xr4 : wr.cell? ⟨w.heap.size, 4, none⟩ = some (.int .i64 f.freeze) := (blk_cell HFr.out 4).trans rfl
            have yr0 : wr.cell? ⟨w.heap.size + 1, 0, none⟩ = some (.int .i64 H) := (blk_cell HAr.out 0).trans rfl
            have yr1 : wr.cell? ⟨w.heap.size + 1, 1, none⟩ = some (.int .i64 p) := (blk_cell HAr.out 1).trans rfl
            have yr2 : wr.cell? ⟨w.heap.size + 1, 2, none⟩ = some (.slice Ap np cp) := (blk_cell HAr.out 2).trans rfl
            have lrf := blk_lt HFr.out
            have lra := blk_lt HAr.out
            go_upto_region 14 with (go_at_call 14; with_reducible refine (list_ok4 f A8 m c8 nw H dn M C O P wr HNL.out (owns_RdN HOn.out HNL.out) (now_wf HNow.out) (by omega) HNow.out.ds (now_err HNow.out HVF.out HIH'.out (by omega)) HEM.out HEC.out HEO.out HEP.out).mono ?_; rintro e w4 ⟨a1, k1, a2, k2, a3, k3, rfl, hm1, hm2, hm3, _, hb⟩; have HM1 := hide hm1; have HB4 := hide hb; clear hm1 hm2 hm3 hb)
            clear xr0 xr1 xr2 xr3 xr4 yr0 yr1 yr2 lrf lra
            obtain ⟨w5, hw5⟩ : ∃ q, w4.alloc (.cells #[.slice a1 M.length k1, .slice a2 C.length k2, .slice a3 O.length k3, .int .i64 P] 33) = q := ⟨_, rfl⟩
            have HQ5 := hide (show w5.heap[w4.heap.size]? = some (.cells #[.slice a1 M.length k1, .slice a2 C.length k2, .slice a3 O.length k3, .int .i64 P] 33 (0, 0)) by rw [← hw5]; exact World.alloc_heap_new _ _)
            have HB45 := hide (show Below w4.heap.size w4 w5 by rw [← hw5]; exact zbA (zbR _ _) (Nat.le_refl _) _)
            rw [hw5]
            clear hw5
            obtain ⟨qa, hqa⟩ : ∃ q, w4.heap.size = q := ⟨_, rfl⟩
            have HBr5 := hide (zbT HB4.out HB45.out HB4.out.size)
            have HM1' := hide ((HM1.out.below HB45.out).mono HB45.out.size)
            have HBa5 := hide (zbT HBn.out HBr5.out HBn.out.size)
            have HBW5 := hide (zbT HBWa.out HBa5.out HBWa.out.size)
            have HO5 := hide (owns_below HOn.out HBr5.out)
            have HF5 := hide ((HBa5.out.block _ (blk_lt HFa.out)).trans HFa.out)
            have HA5 := hide ((HBa5.out.block _ (blk_lt HAa.out)).trans HAa.out)
            rw [hqa] at HQ5 ⊢
            clear HM1 hqa HB4 HB45 HBr5 HFr HAr HBn HOn
            have x50 : w5.cell? ⟨w.heap.size, 0, none⟩ = some (.int .i64 f.places) := (blk_cell HF5.out 0).trans rfl
            have x51 : w5.cell? ⟨w.heap.size, 1, none⟩ = some (.int .i64 f.wilds) := (blk_cell HF5.out 1).trans rfl
            have x52 : w5.cell? ⟨w.heap.size, 2, none⟩ = some (.int .i64 f.guards) := (blk_cell HF5.out 2).trans rfl
            have x53 : w5.cell? ⟨w.heap.size, 3, none⟩ = some (.int .i64 f.close) := (blk_cell HF5.out 3).trans rfl
            have x54 : w5.cell? ⟨w.heap.size, 4, none⟩ = some (.int .i64 f.freeze) := (blk_cell HF5.out 4).trans rfl
            have y50 : w5.cell? ⟨w.heap.size + 1, 0, none⟩ = some (.int .i64 H) := (blk_cell HA5.out 0).trans rfl
            have y51 : w5.cell? ⟨w.heap.size + 1, 1, none⟩ = some (.int .i64 p) := (blk_cell HA5.out 1).trans rfl
            have y52 : w5.cell? ⟨w.heap.size + 1, 2, none⟩ = some (.slice Ap np cp) := (blk_cell HA5.out 2).trans rfl
            have l5f := blk_lt HF5.out
            have l5a := blk_lt HA5.out
            have qa0 : w5.cell? ⟨qa, 0, none⟩ = some (.slice a1 M.length k1) := (blk_cell HQ5.out 0).trans rfl
            have lqa := blk_lt HQ5.out
            cases r with
            | none =>
              obtain ⟨rfl, rfl⟩ : (0 : Int) = va ∧ (3 : Int) = vb := Prod.mk.inj HVr.out
              by_cases hjn : j = np
              · subst hjn
                have hc1 : ((3 : Int) == 0) = false := rfl
                have hc2 : ((3 : Int) != 0) = true := rfl
                have hc3 : ((3 : Int) != 3) = false := rfl
                as_aux_lemma =>
                  go_wp2_with (first | (go_at_call 21; with_reducible refine (has_any a1 M.length k1 M p w5 rfl HM1'.out (by have := HML.out; omega)).mono ?_; rintro e w' ⟨rfl, rfl⟩; rw [HCT.out]) | (go_at_call 11; refine (works_any _).mono ?_; rintro e w9 ⟨rfl, hb9⟩; have HB9 := hide (zbT HBW5.out hb9 HBW5.out.size); clear hb9))
                  go_ret
                  exact ⟨rfl, HB9.out⟩
              · have hb1 : ((j : Int) == (np : Int)) = false := by rw [beq_eq_false_iff_ne]; omega
                have hb1' : ¬ (j : Int) = (np : Int) := by omega
                by_cases hm0 : M = []
                · subst hm0
                  have hc1 : ((3 : Int) == 0) = false := rfl
                  have hc2 : ((3 : Int) != 0) = true := rfl
                  have hc3 : ((3 : Int) != 3) = false := rfl
                  as_aux_lemma =>
                    go_wp2_with (first | (go_at_call 21; with_reducible refine (has_any a1 M.length k1 M p w5 rfl HM1'.out (by have := HML.out; omega)).mono ?_; rintro e w' ⟨rfl, rfl⟩; rw [HCT.out]) | (go_at_call 11; refine (works_any _).mono ?_; rintro e w9 ⟨rfl, hb9⟩; have HB9 := hide (zbT HBW5.out hb9 HBW5.out.size); clear hb9))
                    go_ret
                    exact ⟨rfl, HB9.out⟩
                · have hm1 : M.length ≠ 0 := fun e => hm0 (List.length_eq_zero_iff.1 e)
                  have hb2 : ((M.length : Int) == 0) = false := by rw [beq_eq_false_iff_ne]; omega
                  have hb2' : ¬ (M.length : Int) = 0 := by omega
                  have hc1 : ((3 : Int) == 0) = false := rfl
                  have hc2 : ((3 : Int) != 0) = true := rfl
                  have hc3 : ((3 : Int) != 3) = false := rfl
                  as_aux_lemma =>
                    go_wp2_with (first | (go_at_call 21; with_reducible refine (has_any a1 M.length k1 M p w5 rfl HM1'.out (by have := HML.out; omega)).mono ?_; rintro e w' ⟨rfl, rfl⟩; rw [HCT.out]) | (go_at_call 11; refine (works_any _).mono ?_; rintro e w9 ⟨rfl, hb9⟩; have HB9 := hide (zbT HBW5.out hb9 HBW5.out.size); clear hb9))
                    go_ret
                    exact ⟨rfl, HB9.out⟩
            | some q =>
              have HMS := hide (must_stepM HEM.out HNow.out HVF.out HIH'.out (by omega) HR0r.out)
              by_cases hq0 : q = 0
              · have HCT := hide (HMS.out.2.1 hq0)
                obtain ⟨rfl, rfl⟩ : q = va ∧ (0 : Int) = vb := Prod.mk.inj HVr.out
                subst hq0
                by_cases hjn : j = np
                · subst hjn
                  have hc1 : ((0 : Int) == 0) = true := rfl
                  have hc2 : ((0 : Int) != 0) = false := rfl
                  as_aux_lemma =>
                    go_wp2_with (first | (go_at_call 21; with_reducible refine (has_any a1 M.length k1 M p w5 rfl HM1'.out (by have := HML.out; omega)).mono ?_; rintro e w' ⟨rfl, rfl⟩; rw [HCT.out]) | (go_at_call 11; refine (works_any _).mono ?_; rintro e w9 ⟨rfl, hb9⟩; have HB9 := hide (zbT HBW5.out hb9 HBW5.out.size); clear hb9))
                    go_ret
                    exact ⟨rfl, HB9.out⟩
                · have hb1 : ((j : Int) == (np : Int)) = false := by rw [beq_eq_false_iff_ne]; omega
                  have hb1' : ¬ (j : Int) = (np : Int) := by omega
                  by_cases hm0 : M = []
                  · exact absurd HCT.out (by rw [hm0]; simp)
                  · have hm1 : M.length ≠ 0 := fun e => hm0 (List.length_eq_zero_iff.1 e)
                    have hb2 : ((M.length : Int) == 0) = false := by rw [beq_eq_false_iff_ne]; omega
                    have hb2' : ¬ (M.length : Int) = 0 := by omega
                    have hc1 : ((0 : Int) == 0) = true := rfl
                    have hc2 : ((0 : Int) != 0) = false := rfl
                    as_aux_lemma =>
                      go_wp2_with (first | (go_at_call 21; with_reducible refine (has_any a1 M.length k1 M p w5 rfl HM1'.out (by have := HML.out; omega)).mono ?_; rintro e w' ⟨rfl, rfl⟩; rw [HCT.out]) | (go_at_call 11; refine (works_any _).mono ?_; rintro e w9 ⟨rfl, hb9⟩; have HB9 := hide (zbT HBW5.out hb9 HBW5.out.size); clear hb9))
                      go_ret
                      exact ⟨rfl, HB9.out⟩
              · have hq1 : 0 < q := by have := HMS.out.1; omega
                have HCT := hide (HMS.out.2.2.1 hq0)
                have hqb : (q == 0) = false := by simpa using hq0
                have hqw : IntKind.i64.wrap (q - 1) = q - 1 := by have := HMS.out.1; exact IntWalk.i64_in _ (by omega)
                obtain ⟨rfl, rfl⟩ : q = va ∧ (0 : Int) = vb := Prod.mk.inj HVr.out
                have hc1 : ((0 : Int) == 0) = true := rfl
                have hc2 : ((0 : Int) != 0) = false := rfl
                go_upto_region 19 with (go_at_call 21; with_reducible refine (has_any a1 M.length k1 M p w5 rfl HM1'.out (by have := HML.out; omega)).mono ?_; rintro e w' ⟨rfl, rfl⟩; rw [HCT.out])
                go_loopw [14, 15] (fun v14 v15 wr => ∃ (k' : Nat) (bl : Bool), k' ≤ M.length ∧ v14 = .bool bl ∧ v15 = .int .i64 k' ∧ Hid (bl = (M.take k').any (fun z => decide (needsV f (nw ++ [E.qn nw H z]) H p = some (q - 1)))) ∧ Hid (Below w5.heap.size w5 wr)) (fun _ k _ => M.length - (intOf k).toNat)
                case atStart => exact ⟨0, false, by omega, rfl, rfl, hide rfl, hide (Below.refl _ _)⟩
                case round =>
                  clear x50 x51 x52 x53 x54 y50 y51 y52 l5f l5a qa0 lqa
                  obtain ⟨k, bl, hk, rfl, rfl, HBL, HBk⟩ := hrel
                  have HQk := hide ((HBk.out.block _ (blk_lt HQ5.out)).trans HQ5.out)
                  have HAk := hide ((HBk.out.block _ (blk_lt HA5.out)).trans HA5.out)
                  have qk0 : wr.cell? ⟨qa, 0, none⟩ = some (.slice a1 M.length k1) := (blk_cell HQk.out 0).trans rfl
                  have lqk := blk_lt HQk.out
                  have yk2 : wr.cell? ⟨w.heap.size + 1, 2, none⟩ = some (.slice Ap np cp) := (blk_cell HAk.out 2).trans rfl
                  have lyk := blk_lt HAk.out
                  have hml := HML.out
                  by_cases hkl : k < M.length
                  · obtain ⟨z, hz⟩ : ∃ q, M[k]? = some q := ⟨_, List.getElem?_eq_getElem hkl⟩
                    have HZM := hide (List.mem_of_getElem? hz)
                    have HZ := hide (main_numM HEM.out HNow.out HVF.out z HZM.out)
                    have HTK := hide (show M.take (k + 1) = M.take k ++ [z] by rw [List.take_add_one, hz]; rfl)
                    obtain ⟨bm, om, ha1, hbm, hz0⟩ := HM1'.out k z hz
                    subst ha1
                    have HZ0 := hide hz0
                    obtain ⟨r2, hr2⟩ : ∃ q, needsV f (nw ++ [E.qn nw H z]) H p = q := ⟨_, rfl⟩
                    have HR2 := hide hr2
                    obtain ⟨va2, vb2, hv2⟩ : ∃ a b, nv r2 = (a, b) := ⟨_, _, rfl⟩
                    have HV2 := hide hv2
                    clear hz hz0 hr2 hv2
                    have hk1 : (k : Int) < (M.length : Int) := by omega
                    have hk0 : (0 : Int) ≤ (k : Int) := by omega
                    go_upto_region 21 with fail
                    clear qk0 lqk yk2 lyk
                    have hSof : ∀ w', Below w5.heap.size w5 w' → (fun w' => Below w5.heap.size w5 w' ∧ w'.cell? ⟨bm, om + k, none⟩ = some (.int .i64 z) ∧ w'.cell? ⟨w.heap.size, 0, none⟩ = some (.int .i64 f.places) ∧ w'.cell? ⟨w.heap.size, 1, none⟩ = some (.int .i64 f.wilds) ∧ w'.cell? ⟨w.heap.size, 2, none⟩ = some (.int .i64 f.guards) ∧ w'.cell? ⟨w.heap.size, 3, none⟩ = some (.int .i64 f.close) ∧ w'.cell? ⟨w.heap.size, 4, none⟩ = some (.int .i64 f.freeze) ∧ w'.cell? ⟨w.heap.size + 1, 0, none⟩ = some (.int .i64 H) ∧ w'.cell? ⟨w.heap.size + 1, 1, none⟩ = some (.int .i64 p) ∧ w'.cell? ⟨w.heap.size + 1, 2, none⟩ = some (.slice Ap np cp) ∧ w'.cell? ⟨qa, 0, none⟩ = some (.slice (some ⟨bm, om, none⟩) M.length k1) ∧ w.heap.size < w'.heap.size ∧ w.heap.size + 1 < w'.heap.size ∧ qa < w'.heap.size ∧ bm < w'.heap.size) w' := fun w' hb => by have hF := (hb.block _ (blk_lt HF5.out)).trans HF5.out; have hA := (hb.block _ (blk_lt HA5.out)).trans HA5.out; have hQ := (hb.block _ (blk_lt HQ5.out)).trans HQ5.out; exact ⟨hb, (hb.cell (p := ⟨bm, _, none⟩) hbm).trans HZ0.out, (blk_cell hF 0).trans rfl, (blk_cell hF 1).trans rfl, (blk_cell hF 2).trans rfl, (blk_cell hF 3).trans rfl, (blk_cell hF 4).trans rfl, (blk_cell hA 0).trans rfl, (blk_cell hA 1).trans rfl, (blk_cell hA 2).trans rfl, (blk_cell hQ 0).trans rfl, blk_lt hF, blk_lt hA, blk_lt hQ, Nat.lt_of_lt_of_le hbm hb.size⟩
                    have hS : (fun w' => Below w5.heap.size w5 w' ∧ w'.cell? ⟨bm, om + k, none⟩ = some (.int .i64 z) ∧ w'.cell? ⟨w.heap.size, 0, none⟩ = some (.int .i64 f.places) ∧ w'.cell? ⟨w.heap.size, 1, none⟩ = some (.int .i64 f.wilds) ∧ w'.cell? ⟨w.heap.size, 2, none⟩ = some (.int .i64 f.guards) ∧ w'.cell? ⟨w.heap.size, 3, none⟩ = some (.int .i64 f.close) ∧ w'.cell? ⟨w.heap.size, 4, none⟩ = some (.int .i64 f.freeze) ∧ w'.cell? ⟨w.heap.size + 1, 0, none⟩ = some (.int .i64 H) ∧ w'.cell? ⟨w.heap.size + 1, 1, none⟩ = some (.int .i64 p) ∧ w'.cell? ⟨w.heap.size + 1, 2, none⟩ = some (.slice Ap np cp) ∧ w'.cell? ⟨qa, 0, none⟩ = some (.slice (some ⟨bm, om, none⟩) M.length k1) ∧ w.heap.size < w'.heap.size ∧ w.heap.size + 1 < w'.heap.size ∧ qa < w'.heap.size ∧ bm < w'.heap.size) wr := hSof _ HBk.out
                    (try dsimp only at hS)
                    refine wp_region_held_drew (S := (fun w' => Below w5.heap.size w5 w' ∧ w'.cell? ⟨bm, om + k, none⟩ = some (.int .i64 z) ∧ w'.cell? ⟨w.heap.size, 0, none⟩ = some (.int .i64 f.places) ∧ w'.cell? ⟨w.heap.size, 1, none⟩ = some (.int .i64 f.wilds) ∧ w'.cell? ⟨w.heap.size, 2, none⟩ = some (.int .i64 f.guards) ∧ w'.cell? ⟨w.heap.size, 3, none⟩ = some (.int .i64 f.close) ∧ w'.cell? ⟨w.heap.size, 4, none⟩ = some (.int .i64 f.freeze) ∧ w'.cell? ⟨w.heap.size + 1, 0, none⟩ = some (.int .i64 H) ∧ w'.cell? ⟨w.heap.size + 1, 1, none⟩ = some (.int .i64 p) ∧ w'.cell? ⟨w.heap.size + 1, 2, none⟩ = some (.slice Ap np cp) ∧ w'.cell? ⟨qa, 0, none⟩ = some (.slice (some ⟨bm, om, none⟩) M.length k1) ∧ w.heap.size < w'.heap.size ∧ w.heap.size + 1 < w'.heap.size ∧ qa < w'.heap.size ∧ bm < w'.heap.size)) (by kernel_rfl) ?_ (fun hD0 => ?_)
                    · (try dsimp only); first | assumption | exact hSof _ (zbD HBk.out)
                    refine tW ?_ 0 rfl (by kernel_rfl) (fun _ _ _ h => h) (by rfl) (by assumption) ?_ ?_; rotate_left; (focus (intro w hSw; (try dsimp only at hSw); go_simp; try with_reducible rfl)); try simp only [Act.put, zl, z0, z1]
                    refine tW ?_ 1 rfl (by kernel_rfl) (fun _ _ _ h => h) (by rfl) (by assumption) ?_ ?_; rotate_left; (focus (intro w hSw; (try dsimp only at hSw); go_simp; try with_reducible rfl)); try simp only [Act.put, zl, z0, z1]
                    refine tW ?_ 2 rfl (by kernel_rfl) (fun _ _ _ h => h) (by rfl) (by assumption) ?_ ?_; rotate_left; (focus (intro w hSw; (try dsimp only at hSw); go_simp; try with_reducible rfl)); try simp only [Act.put, zl, z0, z1]
                    refine tW ?_ 3 rfl (by kernel_rfl) (fun _ _ _ h => h) (by rfl) (by assumption) ?_ ?_; rotate_left; (focus (intro w hSw; (try dsimp only at hSw); go_simp; try with_reducible rfl)); try simp only [Act.put, zl, z0, z1]
                    refine tW ?_ 4 rfl (by kernel_rfl) (fun _ _ _ h => h) (by rfl) (by assumption) ?_ ?_; rotate_left; (focus (intro w hSw; (try dsimp only at hSw); go_simp; try with_reducible rfl)); try simp only [Act.put, zl, z0, z1]
                    refine tW ?_ 5 rfl (by kernel_rfl) (fun _ _ _ h => h) (by rfl) (by assumption) ?_ ?_; rotate_left; (focus (intro w hSw; (try dsimp only at hSw); go_simp; try with_reducible rfl)); try simp only [Act.put, zl, z0, z1]
                    refine tW ?_ 6 rfl (by kernel_rfl) (fun _ _ _ h => h) (by rfl) (by assumption) ?_ ?_; rotate_left; (focus (intro w hSw; (try dsimp only at hSw); go_simp; try with_reducible rfl)); try simp only [Act.put, zl, z0, z1]
                    refine tW ?_ 7 rfl (by kernel_rfl) (fun _ _ _ h => h) (by rfl) (by assumption) ?_ ?_; rotate_left; (focus (intro w hSw; (try dsimp only at hSw); go_simp; try with_reducible rfl)); try simp only [Act.put, zl, z0, z1]
                    refine tW ?_ 8 rfl (by kernel_rfl) (fun _ _ _ h => h) (by rfl) (by assumption) ?_ ?_; rotate_left; (focus (intro w hSw; (try dsimp only at hSw); go_simp; try with_reducible rfl)); try simp only [Act.put, zl, z0, z1]
                    refine tW ?_ 10 rfl (by kernel_rfl) (fun _ _ _ h => h) (by rfl) (by assumption) ?_ ?_; rotate_left; (focus (intro w hSw; (try dsimp only at hSw); go_simp; try with_reducible rfl)); try simp only [Act.put, zl, z0, z1]
                    refine tW ?_ 11 rfl (by kernel_rfl) (fun _ _ _ h => h) (by rfl) (by assumption) ?_ ?_; rotate_left; (focus (intro w hSw; (try dsimp only at hSw); go_simp; try with_reducible rfl)); try simp only [Act.put, zl, z0, z1]
                    refine tW ?_ 12 rfl (by kernel_rfl) (fun _ _ _ h => h) (by rfl) (by assumption) ?_ ?_; rotate_left; (focus (intro w hSw; (try dsimp only at hSw); go_simp; try with_reducible rfl)); try simp only [Act.put, zl, z0, z1]
                    refine tW ?_ 13 rfl (by kernel_rfl) (fun _ _ _ h => h) (by rfl) (by assumption) ?_ ?_; rotate_left; (focus (intro w hSw; (try dsimp only at hSw); go_simp; try with_reducible rfl)); try simp only [Act.put, zl, z0, z1]
                    refine wpAnyH_ready (rs := [9]) (by kernel_rfl) (by simp) ?_; refine consL 9 rfl (fun K hK => ?_) AllReadyH.nil
                    (go_simp; go_at_call 24; refine (quit_any A8 m c8 nw H z _ HNL.out (owns_RdN (owns_below HO5.out hD0.1) HNL.out) (own_nil HO5.out) (by omega) (now_ids HNow.out)).mono ?_; rintro e w6 ⟨A9, c9, rfl, hown, hb⟩; have hSn := hSof _ (zbT hD0.1 hb hD0.1.size); have HO9 := hide hown; have HZ9 := hide hD0.1.size; clear hown hb; (try dsimp only at hSn))
                    refine hK.out _ _ ?_ (fun hD1 => ?_)
                    · (try dsimp only); first | assumption | exact hSof _ (zbD HBk.out)
                    clear hK K hD0; try simp only [Act.put, zl, z0, z1]
                    refine wpAnyH_ready (rs := [14]) (by kernel_rfl) (by simp) ?_; refine consL 14 rfl (fun K hK => ?_) AllReadyH.nil
                    (go_simp; go_at_call 23; refine (needs_now f A9 (m + 1) c9 (nw ++ [E.qn nw H z]) (dn ++ [E.qn nw H z]) H p (j + 1) _ (by rw [List.length_append, HNL.out]; rfl) (owns_RdN HO9.out (by rw [List.length_append, HNL.out]; rfl)) (by omega) (HNow.out.quit HIH'.out (by omega) HZ.out).1 HVF.out HIH'.out HPP.out r2 HR2.out _ _ HV2.out).mono ?_; rintro e w7 ⟨rfl, hb⟩; have hSn := hSof _ (zbT hD1.1 hb hD1.1.size); clear hb; (try dsimp only at hSn))
                    refine hK.out _ _ ?_ (fun hD2 => ?_)
                    · (try dsimp only); first | assumption | exact hSof _ (zbD HBk.out)
                    clear hK K hD1; try simp only [Act.put, zl, z0, z1]
                    refine tW ?_ 15 rfl (by kernel_rfl) (fun _ _ _ h => h) (by rfl) (by assumption) ?_ ?_; rotate_left; (focus (intro w hSw; (try dsimp only at hSw); go_simp; try with_reducible rfl)); try simp only [Act.put, zl, z0, z1]
                    refine tW ?_ 16 rfl (by kernel_rfl) (fun _ _ _ h => h) (by rfl) (by assumption) ?_ ?_; rotate_left; (focus (intro w hSw; (try dsimp only at hSw); go_simp; try with_reducible rfl)); try simp only [Act.put, zl, z0, z1]
                    refine tW ?_ 17 rfl (by kernel_rfl) (fun _ _ _ h => h) (by rfl) (by assumption) ?_ ?_; rotate_left; (focus (intro w hSw; (try dsimp only at hSw); go_simp; try with_reducible rfl)); try simp only [Act.put, zl, z0, z1]
                    refine tW ?_ 18 rfl (by kernel_rfl) (fun _ _ _ h => h) (by rfl) (by assumption) ?_ ?_; rotate_left; (focus (intro w hSw; (try dsimp only at hSw); go_simp; try with_reducible rfl)); try simp only [Act.put, zl, z0, z1]
                    refine tW ?_ 19 rfl (by kernel_rfl) (fun _ _ _ h => h) (by rfl) (by assumption) ?_ ?_; rotate_left; (focus (intro w hSw; (try dsimp only at hSw); go_simp; try with_reducible rfl)); try simp only [Act.put, zl, z0, z1]
                    refine wpAnyH_done (by kernel_rfl) ?_ _
                    (try dsimp only [Act.put, List.getElem_toArray, List.getElem_cons_succ, List.getElem_cons_zero])
                    (try simp only [zl, z0, z1])
                    have HBS := hide hSn.1
                    clear hSn hS hSof
                    cases r2 with
                    | none =>
                      obtain ⟨rfl, rfl⟩ : (0 : Int) = va2 ∧ (3 : Int) = vb2 := Prod.mk.inj HV2.out
                      have hd1 : ((3 : Int) == 0) = false := rfl
                      cases bl
                      · as_aux_lemma =>
                          go_wp2_with fail
                          go_roundw
                          case rel => exact ⟨k + 1, false, by omega, rfl, by go_num, hide (by rw [HTK.out, List.any_append, ← HBL.out]; simp only [List.any_cons, List.any_nil, Bool.or_false, HR2.out]; simp), HBS⟩
                          case measure => simp [intOf]; omega
                      · as_aux_lemma =>
                          go_wp2_with fail
                          go_roundw
                          case rel => exact ⟨k + 1, true, by omega, rfl, by go_num, hide (by rw [HTK.out, List.any_append, ← HBL.out]; simp only [List.any_cons, List.any_nil, Bool.or_false, HR2.out]; simp), HBS⟩
                          case measure => simp [intOf]; omega
                    | some m2 =>
                      obtain ⟨rfl, rfl⟩ : m2 = va2 ∧ (0 : Int) = vb2 := Prod.mk.inj HV2.out
                      have hd1 : ((0 : Int) == 0) = true := rfl
                      have hge := HMS.out.2.2.2.1 hq1 z HZM.out m2 HR2.out
                      have hnlt : q - 1 ≤ m2 := hge
                      have HGE := hide hge
                      clear hge
                      cases bl
                      · by_cases hmq : m2 = q - 1
                        · have hd2 : (m2 == q - 1) = true := by rw [hmq]; simp
                          have HMQ := hide hmq
                          clear hmq
                          as_aux_lemma =>
                            go_wp2_with fail
                            go_roundw
                            case rel => exact ⟨k + 1, true, by omega, rfl, by go_num, hide (by rw [HTK.out, List.any_append, ← HBL.out]; simp only [List.any_cons, List.any_nil, Bool.or_false, HR2.out]; rw [HMQ.out]; simp), HBS⟩
                            case measure => simp [intOf]; omega
                        · have hd2 : (m2 == q - 1) = false := by simpa using hmq
                          have HMQ := hide hmq
                          clear hmq
                          as_aux_lemma =>
                            go_wp2_with fail
                            go_roundw
                            case rel => exact ⟨k + 1, false, by omega, rfl, by go_num, hide (by rw [HTK.out, List.any_append, ← HBL.out]; simp only [List.any_cons, List.any_nil, Bool.or_false, HR2.out]; simp; exact HMQ.out), HBS⟩
                            case measure => simp [intOf]; omega
                      · as_aux_lemma =>
                          go_wp2_with fail
                          go_roundw
                          case rel => exact ⟨k + 1, true, by omega, rfl, by go_num, hide (by rw [HTK.out, List.any_append, ← HBL.out]; simp only [List.any_cons, List.any_nil, Bool.or_false, HR2.out]; simp), HBS⟩
                          case measure => simp [intOf]; omega
                  · have hkM : k = M.length := by omega
                    subst hkM
                    have HEX := hide (HMS.out.2.2.2.2 hq1)
                    have hbl : bl = true := by
                      rw [HBL.out, List.take_of_length_le (Nat.le_refl _), List.any_eq_true]
                      obtain ⟨z, h1, h2⟩ := HEX.out
                      exact ⟨z, h1, decide_eq_true h2⟩
                    subst hbl
                    have hml0 : 0 < M.length := by
                      obtain ⟨z, h1, _⟩ := HEX.out
                      exact List.length_pos_of_mem h1
                    have HBWk := hide (zbT HBW5.out HBk.out HBW5.out.size)
                    by_cases hjn : j = np
                    · subst hjn
                      as_aux_lemma =>
                        go_wp2_with (go_at_call 11; refine (works_any _).mono ?_; rintro e w9 ⟨rfl, hb9⟩; have HB9 := hide (zbT HBWk.out hb9 HBWk.out.size); clear hb9)
                        go_ret
                        exact ⟨rfl, HB9.out⟩
                    · have hb1 : ((j : Int) == (np : Int)) = false := by rw [beq_eq_false_iff_ne]; omega
                      have hjn' : j < np := by omega
                      have hjn2 : ¬ (j : Int) = (np : Int) := by omega
                      have hm0 : ¬ M = [] := fun e => by rw [e] at hml0; simp at hml0
                      have hm1 : M.length ≠ 0 := by omega
                      have hb2 : ((M.length : Int) == 0) = false := by rw [beq_eq_false_iff_ne]; omega
                      have hb2' : ¬ (M.length : Int) = 0 := by omega
                      have hb3 : ((0 : Int) != 0) = false := rfl
                      go_upto_region 28 with fail
                      clear qk0 lqk yk2 lyk hb1 hb2 hb3 hjn hjn2 hm1 hb2'
                      obtain ⟨pl, hpl⟩ : ∃ q, ps[j]? = some q := ⟨_, List.getElem?_eq_getElem (by have := HNP.out; omega)⟩
                      obtain ⟨bs, os, hAp, hbs, hpl0⟩ := ((HRPa.out.below HBa5.out).mono HBa5.out.size) j pl hpl
                      obtain ⟨u, hu⟩ : ∃ u : Int, (if 0 < pl then pl else 0) = u := ⟨_, rfl⟩
                      have hu0 : 0 ≤ u := by rw [← hu]; split <;> omega
                      obtain ⟨i0, hi0⟩ : ∃ i0 : Nat, u.toNat % M.length = i0 := ⟨_, rfl⟩
                      have hil : i0 < M.length := by rw [← hi0]; exact Nat.mod_lt _ hml0
                      have hum : u % (M.length : Int) = (i0 : Int) := by rw [← hi0, Int.natCast_emod, Int.toNat_of_nonneg hu0]
                      have hut : u.tmod (M.length : Int) = (i0 : Int) := by rw [Int.tmod_eq_emod_of_nonneg hu0]; exact hum
                      have humx : max (0 : Int) pl = u := by rw [← hu]; split <;> omega
                      obtain ⟨z, hz⟩ : ∃ q, M[i0]? = some q := ⟨_, List.getElem?_eq_getElem hil⟩
                      have HZM := hide (List.mem_of_getElem? hz)
                      have HZ := hide (main_numM HEM.out HNow.out HVF.out z HZM.out)
                      obtain ⟨bm, om, ha1, hbm, hz0⟩ := HM1'.out i0 z hz
                      subst ha1
                      have HZ0 := hide hz0
                      have HPL0 := hide hpl0
                      have HU := hide hu
                      clear hz hz0 hpl hpl0 hi0
                      have hi1 : (i0 : Int) < (M.length : Int) := by omega
                      have hi2 : (0 : Int) ≤ (i0 : Int) := by omega
                      have hiw : IntKind.i64.wrap (i0 : Int) = (i0 : Int) := IntWalk.i64_in _ (by omega)
                      have hj1 : (j : Int) < (np : Int) := by omega
                      have hj0 : (0 : Int) ≤ (j : Int) := by omega
                      have hmz : (M.length : Int) ≠ 0 := by omega
                      have hmz1 : ((M.length : Int) == 0) = false := by rw [beq_eq_false_iff_ne]; omega
                      subst hAp
                      have hSof : ∀ w', Below w5.heap.size w5 w' → (fun w' => Below w5.heap.size w5 w' ∧ w'.cell? ⟨bm, om + i0, none⟩ = some (.int .i64 z) ∧ w'.cell? ⟨bs, os + j, none⟩ = some (.int .i64 pl) ∧ bs < w'.heap.size ∧ w'.cell? ⟨w.heap.size, 0, none⟩ = some (.int .i64 f.places) ∧ w'.cell? ⟨w.heap.size, 1, none⟩ = some (.int .i64 f.wilds) ∧ w'.cell? ⟨w.heap.size, 2, none⟩ = some (.int .i64 f.guards) ∧ w'.cell? ⟨w.heap.size, 3, none⟩ = some (.int .i64 f.close) ∧ w'.cell? ⟨w.heap.size, 4, none⟩ = some (.int .i64 f.freeze) ∧ w'.cell? ⟨w.heap.size + 1, 0, none⟩ = some (.int .i64 H) ∧ w'.cell? ⟨w.heap.size + 1, 1, none⟩ = some (.int .i64 p) ∧ w'.cell? ⟨w.heap.size + 1, 2, none⟩ = some (.slice (some ⟨bs, os, none⟩) np cp) ∧ w'.cell? ⟨qa, 0, none⟩ = some (.slice (some ⟨bm, om, none⟩) M.length k1) ∧ w.heap.size < w'.heap.size ∧ w.heap.size + 1 < w'.heap.size ∧ qa < w'.heap.size ∧ bm < w'.heap.size) w' := fun w' hb => by have hF := (hb.block _ (blk_lt HF5.out)).trans HF5.out; have hA := (hb.block _ (blk_lt HA5.out)).trans HA5.out; have hQ := (hb.block _ (blk_lt HQ5.out)).trans HQ5.out; exact ⟨hb, (hb.cell (p := ⟨bm, _, none⟩) hbm).trans HZ0.out, (hb.cell (p := ⟨bs, _, none⟩) hbs).trans HPL0.out, Nat.lt_of_lt_of_le hbs hb.size, (blk_cell hF 0).trans rfl, (blk_cell hF 1).trans rfl, (blk_cell hF 2).trans rfl, (blk_cell hF 3).trans rfl, (blk_cell hF 4).trans rfl, (blk_cell hA 0).trans rfl, (blk_cell hA 1).trans rfl, (blk_cell hA 2).trans rfl, (blk_cell hQ 0).trans rfl, blk_lt hF, blk_lt hA, blk_lt hQ, Nat.lt_of_lt_of_le hbm hb.size⟩
                      have hS : (fun w' => Below w5.heap.size w5 w' ∧ w'.cell? ⟨bm, om + i0, none⟩ = some (.int .i64 z) ∧ w'.cell? ⟨bs, os + j, none⟩ = some (.int .i64 pl) ∧ bs < w'.heap.size ∧ w'.cell? ⟨w.heap.size, 0, none⟩ = some (.int .i64 f.places) ∧ w'.cell? ⟨w.heap.size, 1, none⟩ = some (.int .i64 f.wilds) ∧ w'.cell? ⟨w.heap.size, 2, none⟩ = some (.int .i64 f.guards) ∧ w'.cell? ⟨w.heap.size, 3, none⟩ = some (.int .i64 f.close) ∧ w'.cell? ⟨w.heap.size, 4, none⟩ = some (.int .i64 f.freeze) ∧ w'.cell? ⟨w.heap.size + 1, 0, none⟩ = some (.int .i64 H) ∧ w'.cell? ⟨w.heap.size + 1, 1, none⟩ = some (.int .i64 p) ∧ w'.cell? ⟨w.heap.size + 1, 2, none⟩ = some (.slice (some ⟨bs, os, none⟩) np cp) ∧ w'.cell? ⟨qa, 0, none⟩ = some (.slice (some ⟨bm, om, none⟩) M.length k1) ∧ w.heap.size < w'.heap.size ∧ w.heap.size + 1 < w'.heap.size ∧ qa < w'.heap.size ∧ bm < w'.heap.size) wr := hSof _ HBk.out
                      (try dsimp only at hS)
                      refine wp_region_held_drew (S := (fun w' => Below w5.heap.size w5 w' ∧ w'.cell? ⟨bm, om + i0, none⟩ = some (.int .i64 z) ∧ w'.cell? ⟨bs, os + j, none⟩ = some (.int .i64 pl) ∧ bs < w'.heap.size ∧ w'.cell? ⟨w.heap.size, 0, none⟩ = some (.int .i64 f.places) ∧ w'.cell? ⟨w.heap.size, 1, none⟩ = some (.int .i64 f.wilds) ∧ w'.cell? ⟨w.heap.size, 2, none⟩ = some (.int .i64 f.guards) ∧ w'.cell? ⟨w.heap.size, 3, none⟩ = some (.int .i64 f.close) ∧ w'.cell? ⟨w.heap.size, 4, none⟩ = some (.int .i64 f.freeze) ∧ w'.cell? ⟨w.heap.size + 1, 0, none⟩ = some (.int .i64 H) ∧ w'.cell? ⟨w.heap.size + 1, 1, none⟩ = some (.int .i64 p) ∧ w'.cell? ⟨w.heap.size + 1, 2, none⟩ = some (.slice (some ⟨bs, os, none⟩) np cp) ∧ w'.cell? ⟨qa, 0, none⟩ = some (.slice (some ⟨bm, om, none⟩) M.length k1) ∧ w.heap.size < w'.heap.size ∧ w.heap.size + 1 < w'.heap.size ∧ qa < w'.heap.size ∧ bm < w'.heap.size)) (by kernel_rfl) ?_ (fun hD0 => ?_)
                      · (try dsimp only); first | assumption | exact hSof _ (zbD HBk.out)
                      refine tW ?_ 0 rfl (by kernel_rfl) (fun _ _ _ h => h) (by rfl) (by assumption) ?_ ?_; rotate_left; (focus (intro w hSw; (try dsimp only at hSw); go_simp; try with_reducible rfl)); try simp only [Act.put, zl, z0, z1]
                      refine tW ?_ 1 rfl (by kernel_rfl) (fun _ _ _ h => h) (by rfl) (by assumption) ?_ ?_; rotate_left; (focus (intro w hSw; (try dsimp only at hSw); go_simp; try with_reducible rfl)); try simp only [Act.put, zl, z0, z1]
                      refine tW ?_ 2 rfl (by kernel_rfl) (fun _ _ _ h => h) (by rfl) (by assumption) ?_ ?_; rotate_left; (focus (intro w hSw; (try dsimp only at hSw); go_simp; try with_reducible rfl)); try simp only [Act.put, zl, z0, z1]
                      refine tW ?_ 3 rfl (by kernel_rfl) (fun _ _ _ h => h) (by rfl) (by assumption) ?_ ?_; rotate_left; (focus (intro w hSw; (try dsimp only at hSw); go_simp; try with_reducible rfl)); try simp only [Act.put, zl, z0, z1]
                      refine tW ?_ 4 rfl (by kernel_rfl) (fun _ _ _ h => h) (by rfl) (by assumption) ?_ ?_; rotate_left; (focus (intro w hSw; (try dsimp only at hSw); go_simp; try with_reducible rfl)); try simp only [Act.put, zl, z0, z1]
                      refine tW ?_ 5 rfl (by kernel_rfl) (fun _ _ _ h => h) (by rfl) (by assumption) ?_ ?_; rotate_left; (focus (intro w hSw; (try dsimp only at hSw); go_simp; try with_reducible rfl)); try simp only [Act.put, zl, z0, z1]
                      refine tW ?_ 6 rfl (by kernel_rfl) (fun _ _ _ h => h) (by rfl) (by assumption) ?_ ?_; rotate_left; (focus (intro w hSw; (try dsimp only at hSw); go_simp; try with_reducible rfl)); try simp only [Act.put, zl, z0, z1]
                      refine tW ?_ 7 rfl (by kernel_rfl) (fun _ _ _ h => h) (by rfl) (by assumption) ?_ ?_; rotate_left; (focus (intro w hSw; (try dsimp only at hSw); go_simp; try with_reducible rfl)); try simp only [Act.put, zl, z0, z1]
                      refine tW ?_ 8 rfl (by kernel_rfl) (fun _ _ _ h => h) (by rfl) (by assumption) ?_ ?_; rotate_left; (focus (intro w hSw; (try dsimp only at hSw); go_simp; try with_reducible rfl)); try simp only [Act.put, zl, z0, z1]
                      refine tW ?_ 9 rfl (by kernel_rfl) (fun _ _ _ h => h) (by rfl) (by assumption) ?_ ?_; rotate_left; (focus (intro w hSw; (try dsimp only at hSw); go_simp; try with_reducible rfl)); try simp only [Act.put, zl, z0, z1]
                      refine tW ?_ 10 rfl (by kernel_rfl) (fun _ _ _ h => h) (by rfl) (by assumption) ?_ ?_; rotate_left; (focus (intro w hSw; (try dsimp only at hSw); go_simp; try with_reducible rfl)); try simp only [Act.put, zl, z0, z1]
                      refine tW ?_ 11 rfl (by kernel_rfl) (fun _ _ _ h => h) (by rfl) (by assumption) ?_ ?_; rotate_left; (focus (intro w hSw; (try dsimp only at hSw); go_simp; try with_reducible rfl)); try simp only [Act.put, zl, z0, z1]
                      refine tW ?_ 12 rfl (by kernel_rfl) (fun _ _ _ h => h) (by rfl) (by assumption) ?_ ?_; rotate_left; (focus (intro w hSw; (try dsimp only at hSw); go_simp; try with_reducible rfl)); try simp only [Act.put, zl, z0, z1]
                      refine tW ?_ 13 rfl (by kernel_rfl) (fun _ _ _ h => h) (by rfl) (by assumption) ?_ ?_; rotate_left; (focus (intro w hSw; (try dsimp only at hSw); go_simp; try with_reducible rfl)); try simp only [Act.put, zl, z0, z1]
                      refine tW ?_ 14 rfl (by kernel_rfl) (fun _ _ _ h => h) (by rfl) (by assumption) ?_ ?_; rotate_left; (focus (intro w hSw; (try dsimp only at hSw); go_simp; try with_reducible rfl)); try simp only [Act.put, zl, z0, z1]
                      refine tW ?_ 15 rfl (by kernel_rfl) (fun _ _ _ h => h) (by rfl) (by assumption) ?_ ?_; rotate_left; (focus (intro w hSw; (try dsimp only at hSw); go_simp; try with_reducible rfl)); try simp only [Act.put, zl, z0, z1]
                      refine tW ?_ 16 rfl (by kernel_rfl) (fun _ _ _ h => h) (by rfl) (by assumption) ?_ ?_; rotate_left; (focus (intro w hSw; (try dsimp only at hSw); go_simp; try with_reducible rfl)); try simp only [Act.put, zl, z0, z1]
                      refine wpAnyH_ready (rs := [17]) (by kernel_rfl) (by simp) ?_; refine consL 17 rfl (fun K hK => ?_) AllReadyH.nil
                      (go_simp; go_at_call 24; refine (quit_any A8 m c8 nw H z _ HNL.out (owns_RdN (owns_below HO5.out hD0.1) HNL.out) (own_nil HO5.out) (by omega) (now_ids HNow.out)).mono ?_; rintro e w6 ⟨A9, c9, rfl, hown, hb⟩; have hSn := hSof _ (zbT hD0.1 hb hD0.1.size); have HO9 := hide hown; have HZ9 := hide hD0.1.size; clear hown hb; (try dsimp only at hSn))
                      refine hK.out _ _ ?_ (fun hD1 => ?_)
                      · (try dsimp only); first | assumption | exact hSof _ (zbD HBk.out)
                      clear hK K hD0; try simp only [Act.put, zl, z0, z1]
                      refine tW ?_ 18 rfl (by kernel_rfl) (fun _ _ _ h => h) (by rfl) (by assumption) ?_ ?_; rotate_left; (focus (intro w hSw; (try dsimp only at hSw); go_simp; try with_reducible rfl)); try simp only [Act.put, zl, z0, z1]
                      refine wpAnyH_done (by kernel_rfl) ?_ _
                      (try dsimp only [Act.put, List.getElem_toArray, List.getElem_cons_succ, List.getElem_cons_zero])
                      (try simp only [zl, z0, z1])
                      have HBS := hide hSn.1
                      clear hSn hS hSof
                      have HNow2 := hide ((HNow.out.quit HIH'.out (by omega) HZ.out).1)
                      have HNL2 := hide (show (nw ++ [E.qn nw H z]).length = m + 1 by rw [List.length_append, HNL.out]; rfl)
                      have HFs := hide ((HBS.out.block _ (blk_lt HF5.out)).trans HF5.out)
                      have HAs := hide ((HBS.out.block _ (blk_lt HA5.out)).trans HA5.out)
                      obtain ⟨r3, hr3⟩ : ∃ q, needsV f (nw ++ [E.qn nw H z]) H p = q := ⟨_, rfl⟩
                      have HR3 := hide hr3
                      obtain ⟨va3, vb3, hv3⟩ : ∃ a b, nv r3 = (a, b) := ⟨_, _, rfl⟩
                      have HV3 := hide hv3
                      clear hv3
                      have HOs := hide (owns_mono HO9.out (Nat.le_trans HBa5.out.size HZ9.out))
                      clear hr3 hu hut hum humx
                      have xs0 : w6.cell? ⟨w.heap.size, 0, none⟩ = some (.int .i64 f.places) := (blk_cell HFs.out 0).trans rfl
                      have xs1 : w6.cell? ⟨w.heap.size, 1, none⟩ = some (.int .i64 f.wilds) := (blk_cell HFs.out 1).trans rfl
                      have xs2 : w6.cell? ⟨w.heap.size, 2, none⟩ = some (.int .i64 f.guards) := (blk_cell HFs.out 2).trans rfl
                      have xs3 : w6.cell? ⟨w.heap.size, 3, none⟩ = some (.int .i64 f.close) := (blk_cell HFs.out 3).trans rfl
                      have xs4 : w6.cell? ⟨w.heap.size, 4, none⟩ = some (.int .i64 f.freeze) := (blk_cell HFs.out 4).trans rfl
                      have ys0 : w6.cell? ⟨w.heap.size + 1, 0, none⟩ = some (.int .i64 H) := (blk_cell HAs.out 0).trans rfl
                      have ys1 : w6.cell? ⟨w.heap.size + 1, 1, none⟩ = some (.int .i64 p) := (blk_cell HAs.out 1).trans rfl
                      have ys2 : w6.cell? ⟨w.heap.size + 1, 2, none⟩ = some (.slice (some ⟨bs, os, none⟩) np cp) := (blk_cell HAs.out 2).trans rfl
                      have lsf := blk_lt HFs.out
                      have lsa := blk_lt HAs.out
                      as_aux_lemma =>
                       go_wp2_with (go_at_call 23; with_reducible refine (needs_now f A9 (m + 1) c9 (nw ++ [E.qn nw H z]) (dn ++ [E.qn nw H z]) H p (j + 1) w6 HNL2.out (owns_RdN HO9.out HNL2.out) (by omega) HNow2.out HVF.out HIH'.out HPP.out r3 HR3.out _ _ HV3.out).mono ?_; rintro e w10 ⟨rfl, hb⟩; have HO10 := hide (owns_below HOs.out hb); have HB10 := hide (zbT (zbT HBa5.out HBS.out HBa5.out.size) hb (Nat.le_trans HBa5.out.size HBS.out.size)); clear hb)
                       clear xs0 xs1 xs2 xs3 xs4 ys0 ys1 ys2 lsf lsa
                       go_roundw
                       case rel => exact ⟨j + 1, m + 1, A9, c9, nw ++ [E.qn nw H z], dn ++ [E.qn nw H z], r3, va3, vb3, by omega, rfl, rfl, rfl, by go_num, HV3, HNL2, HNow2, HR3, HO10, HB10⟩
                       case measure => simp [intOf]; omega
    · clear hbb
      go_wp2_with (go_at_call 11; refine (works_any _).mono ?_; rintro e w9 ⟨rfl, hb9⟩; have HB9 := hide (zbT HBW1.out hb9 HBW1.out.size); clear hb9)
      go_ret
      exact ⟨rfl, HB9.out⟩
end Go.Proofs.Ytobjahlmjcnfoaa
