/-
  Part of a claim's texts: contracts of the program's functions and the plain functions that they compute, in build order.
-/
import Derived.Test.YtobjahlmjcnfoaaZB02
import Derived.Test.YtobjahlmjcnfoaaZB04
namespace Go.Proofs.Ytobjahlmjcnfoaa
open Go.RowKit
attribute [local go_sem ↓] Go.wp_at_zero Go.wp_at_succ

namespace E
theorem when_end (y : Int) (s : St) : St.when y s [] = none := rfl
def moreB (x : Nt) (r : List Nt) : Bool := match r with | z :: _ => decide (z.hour = x.hour) | [] => false
theorem when_step (y : Int) (s : St) (x : Nt) (r : List Nt) : St.when y s (x :: r) = if moreB x r = false ∧ (((s.take x).where_ y).1 = 1 ∨ ((s.take x).where_ y).1 = 2) then some x.hour else St.when y (s.take x) r := rfl
end E

set_option maxHeartbeats 6400000 in
set_option maxRecDepth 100000 in
theorem when_any (f : E.Fd) (A : Option Addr) (n c : Nat) (d : List E.Nt) (y : Int) (w : World) (hp0 : 0 ≤ f.places) (hp1 : f.places ≤ 32) (hn : d.length = n) (hr : RdN w w.heap.size A d) (hn1 : n ≤ 60) (hpl : ∀ x ∈ d, 0 ≤ x.player ∧ x.player ≤ 999) :
    Calls Try.prog 40 #[.agg #[.int .i64 f.places, .int .i64 f.wilds, .int .i64 f.guards, .int .i64 f.close, .int .i64 f.freeze, .slice A n c], .int .i64 y] w fun e w' => e = .returned (NeedsVal (E.St.when y (E.St.new f) d)) ∧ Below w.heap.size w w' := by
  have HN := hide hn
  have HR := hide hr
  have HN1 := hide hn1
  have HP0 := hide hp0
  have HP1 := hide hp1
  have HPL := hide hpl
  clear hn hr hp0 hp1 hpl hn1
  go_enter Try.func40, Try.ntmps40
  obtain ⟨w1, hw1⟩ : ∃ w1, w.alloc (.cells #[.int .i64 f.places, .int .i64 f.wilds, .int .i64 f.guards, .int .i64 f.close, .int .i64 f.freeze, .slice A n c] 65) = w1 := ⟨_, rfl⟩
  have HB1 := hide (show Below w.heap.size w w1 by rw [← hw1]; (repeat' first | exact zbR _ _ | assumption | refine zbD ?_ | refine zbA ?_ ?_ _ | refine zbS ?_ ?_ _ | refine zbT ?_ (by assumption) ?_ | (simp; done) | (simp; omega) | omega))
  have HQ := hide (show w1.heap[w.heap.size]? = some (.cells #[.int .i64 f.places, .int .i64 f.wilds, .int .i64 f.guards, .int .i64 f.close, .int .i64 f.freeze, .slice A n c] 65 (0, 0)) by rw [← hw1]; exact World.alloc_heap_new _ _)
  have HW1 := hide hw1
  clear hw1
  go_wp2_with (go_at_call 45; rw [HW1.out]; refine (newList_any f _).mono ?_; rintro e w2 ⟨rfl, hl2, hb2⟩; have HL2 := hide hl2; have HB2 := hide hb2; clear hl2 hb2; have k2 : w2.cell? ⟨w.heap.size, 5, none⟩ = some (.slice A n c) := (blk_cell ((HB2.out.block _ (blk_lt HQ.out)).trans HQ.out) 5).trans rfl)
  obtain ⟨L, hL⟩ : ∃ L, w1.heap.size + 1 + 1 = L := ⟨_, rfl⟩
  rw [hL] at HL2 ⊢
  obtain ⟨B, hB⟩ : ∃ B, w1.heap.size + 1 = B := ⟨_, rfl⟩
  rw [hB] at HL2
  have HS1 := hide (show w.heap.size ≤ w1.heap.size from HB1.out.size)
  have HLL := hide (show L < w2.heap.size from HL2.out.lt)
  have HBL2 := hide (show B < w2.heap.size from HL2.out.map.lt)
  have HR2 := hide (((HR.out.below HB1.out).below (HB2.out.mono HB1.out.size)))
  clear k2 hL hB
  go_loopw [18] (fun i wr => ∃ (k : Nat) (s : E.St) (mv cv : Value), k ≤ n ∧ i = .int .i64 k ∧ Hid (E.St.when y s (d.drop k) = E.St.when y (E.St.new f) d) ∧ Hid (LOk wr w1.heap.size L B k s mv cv) ∧ Hid (Below w1.heap.size w2 wr)) (fun i _ => n - (intOf i).toNat)
  case atStart => exact ⟨0, _, _, _, by omega, rfl, hide (by rw [List.drop_zero]), hide ⟨⟨0, by omega, HL2.out⟩, E.new_ok f, E.new_bd HP0.out HP1.out⟩, hide (Below.refl _ _)⟩
  case round =>
    obtain ⟨k, s, mv, cv, hk, rfl, HE, HLr, HBr⟩ := hrel
    have hn1 := HN1.out
    have HMVL := hide (show ∀ g, mv.ownBlock = some g → g < wr.heap.size from by obtain ⟨⟨_, _, h1⟩, _, _⟩ := HLr.out; exact fun g hg => (h1.main.lt g hg).2)
    have HCVL := hide (show ∀ g, cv.ownBlock = some g → g < wr.heap.size from by obtain ⟨⟨_, _, h1⟩, _, _⟩ := HLr.out; exact fun g hg => (h1.cards.lt g hg).2)
    by_cases hlt : k < n
    · obtain ⟨x, hx⟩ : ∃ q, d[k]? = some q := ⟨_, List.getElem?_eq_getElem (by have := HN.out; omega)⟩
      obtain ⟨b, o, hA, hbB, c0, c1, c2, c3, c4⟩ := (HR2.out.below (HBr.out.mono HS1.out)) k x hx
      subst hA
      have HPX := hide (HPL.out x (List.mem_of_getElem? hx))
      have hdrop : d.drop k = x :: d.drop (k + 1) := by
        obtain ⟨hl, he⟩ := List.getElem?_eq_some_iff.1 hx
        rw [List.drop_eq_getElem_cons hl, he]
      have HE2 := hide ((congrArg (E.St.when y s) hdrop).symm.trans HE.out)
      rw [E.when_step] at HE2
      have hlt' : (k : Int) < (n : Int) := by omega
      have hk0 : (0 : Int) ≤ (k : Int) := by omega
      have hbr : b < wr.heap.size := Nat.lt_of_lt_of_le hbB (Nat.le_trans HB1.out.size (Nat.le_trans HB2.out.size HBr.out.size))
      clear hx hdrop
      by_cases hm : k + 1 < n
      · obtain ⟨z, hz⟩ : ∃ q, d[k + 1]? = some q := ⟨_, List.getElem?_eq_getElem (by have := HN.out; omega)⟩
        have hd1 : d.drop (k + 1) = z :: d.drop (k + 2) := by
          obtain ⟨hl, he⟩ := List.getElem?_eq_some_iff.1 hz
          rw [List.drop_eq_getElem_cons hl, he]
        have HMO := hide (show E.moreB x (d.drop (k + 1)) = decide (z.hour = x.hour) by rw [hd1]; rfl)
        have HZ := hide hz
        clear hz hd1
        go_upto_region 6 with (go_at_call 46; refine (take_ok w1.heap.size L B k _ mv cv x _ (HLr.out.below (by (repeat' first | exact zbR _ _ | assumption | refine zbD ?_ | refine zbA ?_ ?_ _ | refine zbS ?_ ?_ _ | refine zbT ?_ (by assumption) ?_ | (simp; done) | (simp; omega) | omega))) (by omega) (by have := HBr.out.size; have := HB2.out.size; simp; omega) HPX.out.1 HPX.out.2).mono ?_; rintro e w4 ⟨rfl, ⟨mv4, cv4, hl4⟩, hb4, hk4⟩; have HL4 := hide hl4; have HB4 := hide hb4; have HX4 := hide (show w4.heap[wr.heap.size]? = some (.cells #[.int .i64 x.id, .int .i64 x.hour, .int .i64 x.kind, .int .i64 x.player, .int .i64 x.rank] 40 (0, 0)) from (hk4 wr.heap.size (by simp) (by have := HLL.out; have := HBr.out.size; omega) (by have := HBL2.out; have := HBr.out.size; omega) (fun e => by have h1 := HMVL.out _ e.symm; omega) (fun e => by have h1 := HCVL.out _ e.symm; omega)).trans (World.alloc_heap_new _ _)); clear hl4 hb4 hk4)
        obtain ⟨V, hV⟩ : ∃ V, w4.drew = V := ⟨_, rfl⟩
        have HBV := hide (show Below w4.heap.size w4 V by rw [← hV]; exact zbD (zbR _ _))
        have HB4V := hide ((zbT HBr.out (show Below wr.heap.size wr _ by (repeat' first | exact zbR _ _ | assumption | refine zbD ?_ | refine zbA ?_ ?_ _ | refine zbS ?_ ?_ _ | refine zbT ?_ (by assumption) ?_ | (simp; done) | (simp; omega) | omega)) (Nat.le_trans HB2.out.size HBr.out.size)).trans (HB4.out.trans (HBV.out.mono (Nat.le_trans (Nat.le_trans HB2.out.size HBr.out.size) (Nat.le_trans (by simp) HB4.out.size)))))
        have HLV := hide (HL4.out.below HBV.out)
        have HXV := hide ((HBV.out.block _ (blk_lt HX4.out)).trans HX4.out)
        have HQV := hide ((HB4V.out.block w.heap.size (blk_lt HQ.out)).trans ((HB2.out.block w.heap.size (blk_lt HQ.out)).trans HQ.out))
        refine wp_region_still_lit (by kernel_rfl) (by kernel_rfl) ?_
        change wpStill _ _ w4.drew (fun a' => Exit.then _ _ Exit.normal a' w4.drew) _ _
        rw [hV]
        clear hV
        have v1 : V.cell? ⟨w.heap.size, 5, none⟩ = some (.slice (some ⟨b, o, none⟩) n c) := (blk_cell HQV.out 5).trans rfl
        have v2 : V.cell? ⟨wr.heap.size, 1, none⟩ = some (.int .i64 x.hour) := (blk_cell HXV.out 1).trans rfl
        have hwr : IntKind.i64.wrap ((k : Int) + 1) = (k : Int) + 1 := IntWalk.i64_in _ (by omega)
        have hk1 : ((k : Int) + 1 < (n : Int)) := by omega
        have hk2 : (0 : Int) ≤ (k : Int) + 1 := by omega
        have hk3 : ((k : Int) + 1).toNat = k + 1 := by omega
        have v3 : V.cell? ⟨b, o + (k + 1) * 5 + 1, none⟩ = some (.int .i64 z.hour) := by
          obtain ⟨b', o', e, _, _, d1, _⟩ := (HR2.out.below (HB4V.out.mono HS1.out)) (k + 1) z HZ.out
          injection e with e
          injection e with e1 e2
          subst e1 e2
          exact d1
        obtain ⟨mo, hmo⟩ : ∃ mo, (z.hour == x.hour) = mo := ⟨_, rfl⟩
        have HMV := hide (show E.moreB x (d.drop (k + 1)) = mo by rw [HMO.out, ← hmo]; rfl)
        with_reducible refine stTake (v := ?_) (by kernel_rfl) ?_ ?_; rotate_left
        · (go_simp; (try with_reducible rfl))
        (try simp only [Act.put, zl, z0, z1])
        with_reducible refine stTake (v := ?_) (by kernel_rfl) ?_ ?_; rotate_left
        · (go_simp; (try with_reducible rfl))
        (try simp only [Act.put, zl, z0, z1])
        with_reducible refine stTake (v := ?_) (by kernel_rfl) ?_ ?_; rotate_left
        · (go_simp; (try with_reducible rfl))
        (try simp only [Act.put, zl, z0, z1])
        with_reducible refine stTake (v := ?_) (by kernel_rfl) ?_ ?_; rotate_left
        · (go_simp; (try with_reducible rfl))
        (try simp only [Act.put, zl, z0, z1])
        with_reducible refine stTake (v := ?_) (by kernel_rfl) ?_ ?_; rotate_left
        · (go_simp; (try with_reducible rfl))
        (try simp only [Act.put, zl, z0, z1])
        with_reducible refine stTake (v := ?_) (by kernel_rfl) ?_ ?_; rotate_left
        · (go_simp; (try simp only [hk1, decide_true]); (try with_reducible rfl))
        (try simp only [Act.put, zl, z0, z1])
        with_reducible refine stTake (v := ?_) (by kernel_rfl) ?_ ?_; rotate_left
        · (go_simp; (try with_reducible rfl))
        (try simp only [Act.put, zl, z0, z1])
        with_reducible refine stTake (v := ?_) (by kernel_rfl) ?_ ?_; rotate_left
        · (go_simp; (try with_reducible rfl))
        (try simp only [Act.put, zl, z0, z1])
        with_reducible refine stTake (v := ?_) (by kernel_rfl) ?_ ?_; rotate_left
        · (go_simp; (try with_reducible rfl))
        (try simp only [Act.put, zl, z0, z1])
        with_reducible refine stTake (v := ?_) (by kernel_rfl) ?_ ?_; rotate_left
        · (go_simp; (try with_reducible rfl))
        (try simp only [Act.put, zl, z0, z1])
        with_reducible refine stTake (v := ?_) (by kernel_rfl) ?_ ?_; rotate_left
        · (go_simp; (try with_reducible rfl))
        (try simp only [Act.put, zl, z0, z1])
        with_reducible refine stTake (v := ?_) (by kernel_rfl) ?_ ?_; rotate_left
        · (go_simp; (try with_reducible rfl))
        (try simp only [Act.put, zl, z0, z1])
        with_reducible refine stTake (v := ?_) (by kernel_rfl) ?_ ?_; rotate_left
        · (go_simp; (try with_reducible rfl))
        (try simp only [Act.put, zl, z0, z1])
        with_reducible refine stTake (v := ?_) (by kernel_rfl) ?_ ?_; rotate_left
        · (go_simp; (try with_reducible rfl))
        (try simp only [Act.put, zl, z0, z1])
        with_reducible refine stTake (v := ?_) (by kernel_rfl) ?_ ?_; rotate_left
        · (go_simp; (try with_reducible rfl))
        (try simp only [Act.put, zl, z0, z1])
        with_reducible refine stTake (v := ?_) (by kernel_rfl) ?_ ?_; rotate_left
        · (go_simp; (try with_reducible rfl))
        (try simp only [Act.put, zl, z0, z1])
        with_reducible refine stTake (v := ?_) (by kernel_rfl) ?_ ?_; rotate_left
        · (go_simp; (try simp only [hmo]); (try with_reducible rfl))
        (try simp only [Act.put, zl, z0, z1])
        with_reducible refine stTake (v := ?_) (by kernel_rfl) ?_ ?_; rotate_left
        · (go_simp; (try with_reducible rfl))
        (try simp only [Act.put, zl, z0, z1])
        with_reducible refine stTake (v := ?_) (by kernel_rfl) ?_ ?_; rotate_left
        · (go_simp; (try with_reducible rfl))
        (try simp only [Act.put, zl, z0, z1])
        refine wpStill_nil ?_
        clear v1 v2 v3 hk1 hk2 hk3 hwr hmo
        cases mo
        · have hwx : ∃ p, ((s.take x).where_ y).1 = p := ⟨_, rfl⟩
          obtain ⟨p, hwh⟩ := hwx
          have HWH := hide hwh
          by_cases p1 : p = 1
          · have HEN := hide ((if_pos ⟨HMV.out, (.inl (HWH.out.trans p1))⟩).symm.trans HE2.out)
            have q1 : (p == 1) = true := by rw [p1]; rfl
            clear p1
            go_wp2_with (go_at_call 37; obtain ⟨⟨n4, hn4, hla4⟩, hok4, hbd4⟩ := HLV.out; refine (stand_any _ L B n4 (s.take x) mv4 cv4 y V hla4 hok4 (by omega) (by have := hbd4.main; omega) (by have := hbd4.cards; omega) hbd4.places0 (by have := hbd4.places; omega)).mono ?_; rintro e w5 ⟨rfl, hb5⟩; have HB5 := hide hb5; have x5 : w5.cell? ⟨wr.heap.size, 1, none⟩ = some (.int .i64 x.hour) := (blk_cell ((hb5.block _ (blk_lt HXV.out)).trans HXV.out) 1).trans rfl; clear hb5 hla4 hok4 hbd4; rw [hwh])
            exact bodyPost_ret (v := .tuple #[.int .i64 x.hour, .bool true]) (by simp [results, Try.results40, go_sem]) rfl ⟨by rw [← HEN.out]; rfl, (HB1.out.trans (HB2.out.mono HS1.out)).trans ((zbT HB4V.out HB5.out (Nat.le_trans HB2.out.size HB4V.out.size)).mono HS1.out)⟩
          · by_cases p2 : p = 2
            · have HEN := hide ((if_pos ⟨HMV.out, (.inr (HWH.out.trans p2))⟩).symm.trans HE2.out)
              have q1 : (p == 1) = false := by rw [p2]; rfl
              have q2 : (p == 2) = true := by rw [p2]; rfl
              clear p1 p2
              go_wp2_with (go_at_call 37; obtain ⟨⟨n4, hn4, hla4⟩, hok4, hbd4⟩ := HLV.out; refine (stand_any _ L B n4 (s.take x) mv4 cv4 y V hla4 hok4 (by omega) (by have := hbd4.main; omega) (by have := hbd4.cards; omega) hbd4.places0 (by have := hbd4.places; omega)).mono ?_; rintro e w5 ⟨rfl, hb5⟩; have HB5 := hide hb5; have x5 : w5.cell? ⟨wr.heap.size, 1, none⟩ = some (.int .i64 x.hour) := (blk_cell ((hb5.block _ (blk_lt HXV.out)).trans HXV.out) 1).trans rfl; clear hb5 hla4 hok4 hbd4; rw [hwh])
              exact bodyPost_ret (v := .tuple #[.int .i64 x.hour, .bool true]) (by simp [results, Try.results40, go_sem]) rfl ⟨by rw [← HEN.out]; rfl, (HB1.out.trans (HB2.out.mono HS1.out)).trans ((zbT HB4V.out HB5.out (Nat.le_trans HB2.out.size HB4V.out.size)).mono HS1.out)⟩
            · have HEN := hide ((if_neg (by rintro ⟨_, h1 | h1⟩; exact p1 (HWH.out.symm.trans h1); exact p2 (HWH.out.symm.trans h1))).symm.trans HE2.out)
              have q1 : (p == 1) = false := by simpa using p1
              have q2 : (p == 2) = false := by simpa using p2
              clear p1 p2
              go_wp2_with (go_at_call 37; obtain ⟨⟨n4, hn4, hla4⟩, hok4, hbd4⟩ := HLV.out; refine (stand_any _ L B n4 (s.take x) mv4 cv4 y V hla4 hok4 (by omega) (by have := hbd4.main; omega) (by have := hbd4.cards; omega) hbd4.places0 (by have := hbd4.places; omega)).mono ?_; rintro e w5 ⟨rfl, hb5⟩; have HB5 := hide hb5; have x5 : w5.cell? ⟨wr.heap.size, 1, none⟩ = some (.int .i64 x.hour) := (blk_cell ((hb5.block _ (blk_lt HXV.out)).trans HXV.out) 1).trans rfl; clear hb5 hla4 hok4 hbd4; rw [hwh])
              go_roundw
              case rel => exact ⟨k + 1, s.take x, mv4, cv4, by omega, by go_num, HEN, hide (HLV.out.below HB5.out), hide (zbT HB4V.out HB5.out (Nat.le_trans HB2.out.size HB4V.out.size))⟩
              case measure => simp [intOf]; omega
        · have hwx : ∃ p, ((s.take x).where_ y).1 = p := ⟨_, rfl⟩
          obtain ⟨p, hwh⟩ := hwx
          have HWH := hide hwh
          have HEN := hide ((if_neg (by rintro ⟨h1, _⟩; rw [HMV.out] at h1; cases h1)).symm.trans HE2.out)
          go_wp2_with (go_at_call 37; obtain ⟨⟨n4, hn4, hla4⟩, hok4, hbd4⟩ := HLV.out; refine (stand_any _ L B n4 (s.take x) mv4 cv4 y V hla4 hok4 (by omega) (by have := hbd4.main; omega) (by have := hbd4.cards; omega) hbd4.places0 (by have := hbd4.places; omega)).mono ?_; rintro e w5 ⟨rfl, hb5⟩; have HB5 := hide hb5; have x5 : w5.cell? ⟨wr.heap.size, 1, none⟩ = some (.int .i64 x.hour) := (blk_cell ((hb5.block _ (blk_lt HXV.out)).trans HXV.out) 1).trans rfl; clear hb5 hla4 hok4 hbd4; rw [hwh])
          go_roundw
          case rel => exact ⟨k + 1, s.take x, mv4, cv4, by omega, by go_num, HEN, hide (HLV.out.below HB5.out), hide (zbT HB4V.out HB5.out (Nat.le_trans HB2.out.size HB4V.out.size))⟩
          case measure => simp [intOf]; omega
      · skip
        have HMV := hide (show E.moreB x (d.drop (k + 1)) = false by rw [List.drop_of_length_le (by have := HN.out; omega)]; rfl)
        go_upto_region 6 with (go_at_call 46; refine (take_ok w1.heap.size L B k _ mv cv x _ (HLr.out.below (by (repeat' first | exact zbR _ _ | assumption | refine zbD ?_ | refine zbA ?_ ?_ _ | refine zbS ?_ ?_ _ | refine zbT ?_ (by assumption) ?_ | (simp; done) | (simp; omega) | omega))) (by omega) (by have := HBr.out.size; have := HB2.out.size; simp; omega) HPX.out.1 HPX.out.2).mono ?_; rintro e w4 ⟨rfl, ⟨mv4, cv4, hl4⟩, hb4, hk4⟩; have HL4 := hide hl4; have HB4 := hide hb4; have HX4 := hide (show w4.heap[wr.heap.size]? = some (.cells #[.int .i64 x.id, .int .i64 x.hour, .int .i64 x.kind, .int .i64 x.player, .int .i64 x.rank] 40 (0, 0)) from (hk4 wr.heap.size (by simp) (by have := HLL.out; have := HBr.out.size; omega) (by have := HBL2.out; have := HBr.out.size; omega) (fun e => by have h1 := HMVL.out _ e.symm; omega) (fun e => by have h1 := HCVL.out _ e.symm; omega)).trans (World.alloc_heap_new _ _)); clear hl4 hb4 hk4)
        obtain ⟨V, hV⟩ : ∃ V, w4.drew = V := ⟨_, rfl⟩
        have HBV := hide (show Below w4.heap.size w4 V by rw [← hV]; exact zbD (zbR _ _))
        have HB4V := hide ((zbT HBr.out (show Below wr.heap.size wr _ by (repeat' first | exact zbR _ _ | assumption | refine zbD ?_ | refine zbA ?_ ?_ _ | refine zbS ?_ ?_ _ | refine zbT ?_ (by assumption) ?_ | (simp; done) | (simp; omega) | omega)) (Nat.le_trans HB2.out.size HBr.out.size)).trans (HB4.out.trans (HBV.out.mono (Nat.le_trans (Nat.le_trans HB2.out.size HBr.out.size) (Nat.le_trans (by simp) HB4.out.size)))))
        have HLV := hide (HL4.out.below HBV.out)
        have HXV := hide ((HBV.out.block _ (blk_lt HX4.out)).trans HX4.out)
        have HQV := hide ((HB4V.out.block w.heap.size (blk_lt HQ.out)).trans ((HB2.out.block w.heap.size (blk_lt HQ.out)).trans HQ.out))
        refine wp_region_still_lit (by kernel_rfl) (by kernel_rfl) ?_
        change wpStill _ _ w4.drew (fun a' => Exit.then _ _ Exit.normal a' w4.drew) _ _
        rw [hV]
        clear hV
        have v1 : V.cell? ⟨w.heap.size, 5, none⟩ = some (.slice (some ⟨b, o, none⟩) n c) := (blk_cell HQV.out 5).trans rfl
        have v2 : V.cell? ⟨wr.heap.size, 1, none⟩ = some (.int .i64 x.hour) := (blk_cell HXV.out 1).trans rfl
        have hwr : IntKind.i64.wrap ((k : Int) + 1) = (k : Int) + 1 := IntWalk.i64_in _ (by omega)
        have hk1 : ¬ ((k : Int) + 1 < (n : Int)) := by omega
        with_reducible refine stTake (v := ?_) (by kernel_rfl) ?_ ?_; rotate_left
        · (go_simp; (try with_reducible rfl))
        (try simp only [Act.put, zl, z0, z1])
        with_reducible refine stTake (v := ?_) (by kernel_rfl) ?_ ?_; rotate_left
        · (go_simp; (try with_reducible rfl))
        (try simp only [Act.put, zl, z0, z1])
        with_reducible refine stTake (v := ?_) (by kernel_rfl) ?_ ?_; rotate_left
        · (go_simp; (try with_reducible rfl))
        (try simp only [Act.put, zl, z0, z1])
        with_reducible refine stTake (v := ?_) (by kernel_rfl) ?_ ?_; rotate_left
        · (go_simp; (try with_reducible rfl))
        (try simp only [Act.put, zl, z0, z1])
        with_reducible refine stTake (v := ?_) (by kernel_rfl) ?_ ?_; rotate_left
        · (go_simp; (try with_reducible rfl))
        (try simp only [Act.put, zl, z0, z1])
        with_reducible refine stTake (v := ?_) (by kernel_rfl) ?_ ?_; rotate_left
        · (go_simp; (try simp only [hk1, decide_false]); (try with_reducible rfl))
        (try simp only [Act.put, zl, z0, z1])
        with_reducible refine stTake (v := ?_) (by kernel_rfl) ?_ ?_; rotate_left
        · (go_simp; (try with_reducible rfl))
        (try simp only [Act.put, zl, z0, z1])
        with_reducible refine stSkip (by kernel_rfl) ?_
        (try simp only [Act.put, zl, z0, z1])
        with_reducible refine stSkip (by kernel_rfl) ?_
        (try simp only [Act.put, zl, z0, z1])
        with_reducible refine stSkip (by kernel_rfl) ?_
        (try simp only [Act.put, zl, z0, z1])
        with_reducible refine stSkip (by kernel_rfl) ?_
        (try simp only [Act.put, zl, z0, z1])
        with_reducible refine stSkip (by kernel_rfl) ?_
        (try simp only [Act.put, zl, z0, z1])
        with_reducible refine stSkip (by kernel_rfl) ?_
        (try simp only [Act.put, zl, z0, z1])
        with_reducible refine stSkip (by kernel_rfl) ?_
        (try simp only [Act.put, zl, z0, z1])
        with_reducible refine stSkip (by kernel_rfl) ?_
        (try simp only [Act.put, zl, z0, z1])
        with_reducible refine stSkip (by kernel_rfl) ?_
        (try simp only [Act.put, zl, z0, z1])
        with_reducible refine stSkip (by kernel_rfl) ?_
        (try simp only [Act.put, zl, z0, z1])
        with_reducible refine stTake (v := ?_) (by kernel_rfl) ?_ ?_; rotate_left
        · (go_simp; (try with_reducible rfl))
        (try simp only [Act.put, zl, z0, z1])
        with_reducible refine stTake (v := ?_) (by kernel_rfl) ?_ ?_; rotate_left
        · (go_simp; (try with_reducible rfl))
        (try simp only [Act.put, zl, z0, z1])
        refine wpStill_nil ?_
        clear v1 v2 hk1 hwr
        have hwx : ∃ p, ((s.take x).where_ y).1 = p := ⟨_, rfl⟩
        obtain ⟨p, hwh⟩ := hwx
        have HWH := hide hwh
        by_cases p1 : p = 1
        · have HEN := hide ((if_pos ⟨HMV.out, (.inl (HWH.out.trans p1))⟩).symm.trans HE2.out)
          have q1 : (p == 1) = true := by rw [p1]; rfl
          clear p1
          go_wp2_with (go_at_call 37; obtain ⟨⟨n4, hn4, hla4⟩, hok4, hbd4⟩ := HLV.out; refine (stand_any _ L B n4 (s.take x) mv4 cv4 y V hla4 hok4 (by omega) (by have := hbd4.main; omega) (by have := hbd4.cards; omega) hbd4.places0 (by have := hbd4.places; omega)).mono ?_; rintro e w5 ⟨rfl, hb5⟩; have HB5 := hide hb5; have x5 : w5.cell? ⟨wr.heap.size, 1, none⟩ = some (.int .i64 x.hour) := (blk_cell ((hb5.block _ (blk_lt HXV.out)).trans HXV.out) 1).trans rfl; clear hb5 hla4 hok4 hbd4; rw [hwh])
          exact bodyPost_ret (v := .tuple #[.int .i64 x.hour, .bool true]) (by simp [results, Try.results40, go_sem]) rfl ⟨by rw [← HEN.out]; rfl, (HB1.out.trans (HB2.out.mono HS1.out)).trans ((zbT HB4V.out HB5.out (Nat.le_trans HB2.out.size HB4V.out.size)).mono HS1.out)⟩
        · by_cases p2 : p = 2
          · have HEN := hide ((if_pos ⟨HMV.out, (.inr (HWH.out.trans p2))⟩).symm.trans HE2.out)
            have q1 : (p == 1) = false := by rw [p2]; rfl
            have q2 : (p == 2) = true := by rw [p2]; rfl
            clear p1 p2
            go_wp2_with (go_at_call 37; obtain ⟨⟨n4, hn4, hla4⟩, hok4, hbd4⟩ := HLV.out; refine (stand_any _ L B n4 (s.take x) mv4 cv4 y V hla4 hok4 (by omega) (by have := hbd4.main; omega) (by have := hbd4.cards; omega) hbd4.places0 (by have := hbd4.places; omega)).mono ?_; rintro e w5 ⟨rfl, hb5⟩; have HB5 := hide hb5; have x5 : w5.cell? ⟨wr.heap.size, 1, none⟩ = some (.int .i64 x.hour) := (blk_cell ((hb5.block _ (blk_lt HXV.out)).trans HXV.out) 1).trans rfl; clear hb5 hla4 hok4 hbd4; rw [hwh])
            exact bodyPost_ret (v := .tuple #[.int .i64 x.hour, .bool true]) (by simp [results, Try.results40, go_sem]) rfl ⟨by rw [← HEN.out]; rfl, (HB1.out.trans (HB2.out.mono HS1.out)).trans ((zbT HB4V.out HB5.out (Nat.le_trans HB2.out.size HB4V.out.size)).mono HS1.out)⟩
          · have HEN := hide ((if_neg (by rintro ⟨_, h1 | h1⟩; exact p1 (HWH.out.symm.trans h1); exact p2 (HWH.out.symm.trans h1))).symm.trans HE2.out)
            have q1 : (p == 1) = false := by simpa using p1
            have q2 : (p == 2) = false := by simpa using p2
            clear p1 p2
            go_wp2_with (go_at_call 37; obtain ⟨⟨n4, hn4, hla4⟩, hok4, hbd4⟩ := HLV.out; refine (stand_any _ L B n4 (s.take x) mv4 cv4 y V hla4 hok4 (by omega) (by have := hbd4.main; omega) (by have := hbd4.cards; omega) hbd4.places0 (by have := hbd4.places; omega)).mono ?_; rintro e w5 ⟨rfl, hb5⟩; have HB5 := hide hb5; have x5 : w5.cell? ⟨wr.heap.size, 1, none⟩ = some (.int .i64 x.hour) := (blk_cell ((hb5.block _ (blk_lt HXV.out)).trans HXV.out) 1).trans rfl; clear hb5 hla4 hok4 hbd4; rw [hwh])
            go_roundw
            case rel => exact ⟨k + 1, s.take x, mv4, cv4, by omega, by go_num, HEN, hide (HLV.out.below HB5.out), hide (zbT HB4V.out HB5.out (Nat.le_trans HB2.out.size HB4V.out.size))⟩
            case measure => simp [intOf]; omega
    · have hkn : k = n := by omega
      subst hkn
      go_wp2_with fail
      have hv : E.St.when y (E.St.new f) d = none := HE.out.symm.trans (by rw [List.drop_of_length_le (by have := HN.out; omega)]; exact E.when_end y s)
      exact bodyPost_ret (v := .tuple #[.int .i64 0, .bool false]) (by simp [results, Try.results40, go_sem]) rfl ⟨by rw [hv]; rfl, (HB1.out.trans (HB2.out.mono HS1.out)).trans (HBr.out.mono HS1.out)⟩

end Go.Proofs.Ytobjahlmjcnfoaa

namespace Go.Proofs.Ytobjahlmjcnfoaa
open Go.RowKit
attribute [local go_sem ↓] Go.wp_at_zero Go.wp_at_succ

def whenV (f : E.Fd) (l : List E.Nt) (p : Int) : Option Int := match E.diffs l with | some d => E.St.when p (E.St.new f) d | none => none
def WhenPost (f : E.Fd) (l : List E.Nt) (p : Int) : Value := if E.errE f l 0 p = 0 then (match whenV f l p with | some q => .tuple #[.int .i64 q, .int .i64 0] | none => .tuple #[.int .i64 0, .int .i64 3]) else .tuple #[.int .i64 0, .int .i64 (E.errE f l 0 p)]
set_option maxHeartbeats 6400000 in
set_option maxRecDepth 100000 in
theorem When_any (f : E.Fd) (A : Option Addr) (n c : Nat) (l : List E.Nt) (p : Int) (w : World) (hn : l.length = n) (hr : RdN w w.heap.size A l) (hid : ∀ x ∈ l, (Lit.int .i64 x.id).wf = true) (hm : n ≤ 1000000) :
    Calls Try.prog 25 #[.agg #[.int .i64 f.places, .int .i64 f.wilds, .int .i64 f.guards, .int .i64 f.close, .int .i64 f.freeze], .slice A n c, .int .i64 p] w fun e w' => e = .returned (WhenPost f l p) ∧ Below w.heap.size w w' := by
  have HN := hide hn
  have HR := hide hr
  have HID := hide hid
  have HM := hide hm
  clear hn hr hid hm
  by_cases h0 : E.errE f l 0 p = 0
  · have HC := hide h0
    have HPB := hide (show 0 ≤ f.places ∧ f.places ≤ 32 from ⟨by have := (E.valid_places (E.errE_ok h0).2.1).1; omega, (E.valid_places (E.errE_ok h0).2.1).2⟩)
    clear h0
    cases hnv0 : whenV f l p with
    | none =>
      have hnv : whenV f l p = none := hnv0
      clear hnv0
      go_enter Try.func25, Try.ntmps25
      go_wp2_with (first | (go_at_call 31; refine (openFor_any f A n c l 0 p _ HN.out ((HR.out.below (by (repeat' first | exact zbR _ _ | assumption | refine zbD ?_ | refine zbA ?_ ?_ _ | refine zbS ?_ ?_ _ | refine zbT ?_ (by assumption) ?_ | (simp; done) | (simp; omega) | omega))).mono (by first | (simp; done) | (simp; omega))) HID.out HM.out).mono ?_; rintro e w2 hd2; have hb2 := hd2.2; have HB2 := hide (zbT (show Below w.heap.size w (w.alloc (.cells #[.int .i64 f.places, .int .i64 f.wilds, .int .i64 f.guards, .int .i64 f.close, .int .i64 f.freeze] 23)) by (repeat' first | exact zbR _ _ | assumption | refine zbD ?_ | refine zbA ?_ ?_ _ | refine zbS ?_ ?_ _ | refine zbT ?_ (by assumption) ?_ | (simp; done) | (simp; omega) | omega)) hb2 (by first | (simp; done) | (simp; omega)));  obtain ⟨(⟨h0, _⟩ | ⟨_, d, A3, c3, hdf, rfl, ho3⟩), _⟩ := hd2; (exact absurd HC.out h0); unfold bookVal; have HDF := hide hdf; have HO3 := hide (owns_mono ho3 (show w.heap.size ≤ _ by first | (simp; done) | (simp; omega))); have HDL := hide (E.diffs_len hdf); have HPL := hide (show ∀ x ∈ d, 0 ≤ x.player ∧ x.player ≤ 999 from fun x hx => E.valid_player ((E.diffs_spec hdf).2.1.valid x hx)); clear hb2 hdf ho3) | (go_at_call 40; refine (when_any f A3 d.length c3 d p (w2.alloc (.cells #[.int .i64 f.places, .int .i64 f.wilds, .int .i64 f.guards, .int .i64 f.close, .int .i64 f.freeze, .slice A3 d.length c3] 65)) HPB.out.1 HPB.out.2 rfl (owns_RdN (HO3.out.kept (World.grownBy_alloc _ _ none) (Classical.em _)) rfl) HDL.out HPL.out).mono ?_; rintro e w5 ⟨rfl, hb5⟩; have HB5 := hide (zbT (HB2.out.trans (zbA (zbR w.heap.size w2) HB2.out.size (.cells #[.int .i64 f.places, .int .i64 f.wilds, .int .i64 f.guards, .int .i64 f.close, .int .i64 f.freeze, .slice A3 d.length c3] 65))) hb5 (by have := HB2.out.size; simp; omega)); have HNV := hide (show whenV f l p = E.St.when p (E.St.new f) d by unfold whenV; rw [HDF.out]); rw [← HNV.out, hnv]; unfold NeedsVal; clear hb5))
      refine bodyPost_ret (v := .tuple #[.int .i64 0, .int .i64 3]) (by simp [results, Try.results25, go_sem]) rfl ?_
      exact ⟨by unfold WhenPost; rw [if_pos HC.out, hnv], HB5.out⟩
    | some z =>
      have hnv : whenV f l p = some z := hnv0
      clear hnv0
      go_enter Try.func25, Try.ntmps25
      go_wp2_with (first | (go_at_call 31; refine (openFor_any f A n c l 0 p _ HN.out ((HR.out.below (by (repeat' first | exact zbR _ _ | assumption | refine zbD ?_ | refine zbA ?_ ?_ _ | refine zbS ?_ ?_ _ | refine zbT ?_ (by assumption) ?_ | (simp; done) | (simp; omega) | omega))).mono (by first | (simp; done) | (simp; omega))) HID.out HM.out).mono ?_; rintro e w2 hd2; have hb2 := hd2.2; have HB2 := hide (zbT (show Below w.heap.size w (w.alloc (.cells #[.int .i64 f.places, .int .i64 f.wilds, .int .i64 f.guards, .int .i64 f.close, .int .i64 f.freeze] 23)) by (repeat' first | exact zbR _ _ | assumption | refine zbD ?_ | refine zbA ?_ ?_ _ | refine zbS ?_ ?_ _ | refine zbT ?_ (by assumption) ?_ | (simp; done) | (simp; omega) | omega)) hb2 (by first | (simp; done) | (simp; omega)));  obtain ⟨(⟨h0, _⟩ | ⟨_, d, A3, c3, hdf, rfl, ho3⟩), _⟩ := hd2; (exact absurd HC.out h0); unfold bookVal; have HDF := hide hdf; have HO3 := hide (owns_mono ho3 (show w.heap.size ≤ _ by first | (simp; done) | (simp; omega))); have HDL := hide (E.diffs_len hdf); have HPL := hide (show ∀ x ∈ d, 0 ≤ x.player ∧ x.player ≤ 999 from fun x hx => E.valid_player ((E.diffs_spec hdf).2.1.valid x hx)); clear hb2 hdf ho3) | (go_at_call 40; refine (when_any f A3 d.length c3 d p (w2.alloc (.cells #[.int .i64 f.places, .int .i64 f.wilds, .int .i64 f.guards, .int .i64 f.close, .int .i64 f.freeze, .slice A3 d.length c3] 65)) HPB.out.1 HPB.out.2 rfl (owns_RdN (HO3.out.kept (World.grownBy_alloc _ _ none) (Classical.em _)) rfl) HDL.out HPL.out).mono ?_; rintro e w5 ⟨rfl, hb5⟩; have HB5 := hide (zbT (HB2.out.trans (zbA (zbR w.heap.size w2) HB2.out.size (.cells #[.int .i64 f.places, .int .i64 f.wilds, .int .i64 f.guards, .int .i64 f.close, .int .i64 f.freeze, .slice A3 d.length c3] 65))) hb5 (by have := HB2.out.size; simp; omega)); have HNV := hide (show whenV f l p = E.St.when p (E.St.new f) d by unfold whenV; rw [HDF.out]); rw [← HNV.out, hnv]; unfold NeedsVal; clear hb5))
      refine bodyPost_ret (v := .tuple #[.int .i64 z, .int .i64 0]) (by simp [results, Try.results25, go_sem]) rfl ?_
      exact ⟨by unfold WhenPost; rw [if_pos HC.out, hnv], HB5.out⟩
  · obtain ⟨en, hen⟩ : ∃ en, E.errE f l 0 p = en := ⟨_, rfl⟩
    have HC := hide h0
    have HC2 := hide hen
    have HE := HC2
    have HN0 := hide (show en ≠ 0 by rw [← hen]; exact h0)
    have hb : (en != 0) = true := by rw [← hen]; simpa using h0
    clear h0 hen
    go_enter Try.func25, Try.ntmps25
    go_wp2_with ((go_at_call 31; refine (openFor_any f A n c l 0 p _ HN.out ((HR.out.below (by (repeat' first | exact zbR _ _ | assumption | refine zbD ?_ | refine zbA ?_ ?_ _ | refine zbS ?_ ?_ _ | refine zbT ?_ (by assumption) ?_ | (simp; done) | (simp; omega) | omega))).mono (by first | (simp; done) | (simp; omega))) HID.out HM.out).mono ?_; rintro e w2 hd2; have hb2 := hd2.2; have HB2 := hide (zbT (show Below w.heap.size w (w.alloc (.cells #[.int .i64 f.places, .int .i64 f.wilds, .int .i64 f.guards, .int .i64 f.close, .int .i64 f.freeze] 23)) by (repeat' first | exact zbR _ _ | assumption | refine zbD ?_ | refine zbA ?_ ?_ _ | refine zbS ?_ ?_ _ | refine zbT ?_ (by assumption) ?_ | (simp; done) | (simp; omega) | omega)) hb2 (by first | (simp; done) | (simp; omega)));  obtain ⟨(⟨_, rfl⟩ | ⟨h0, _⟩), _⟩ := hd2; rotate_left; (exact absurd h0 HC.out); rw [HC2.out]; unfold noBook; clear hb2))
    refine bodyPost_ret (v := .tuple #[.int .i64 0, .int .i64 en]) (by simp [results, Try.results25, go_sem]) rfl ?_
    exact ⟨by unfold WhenPost; rw [if_neg HC.out, HE.out], HB2.out.trans (zbA (zbR w.heap.size w2) HB2.out.size _)⟩


end Go.Proofs.Ytobjahlmjcnfoaa

namespace Go.Proofs.Ytobjahlmjcnfoaa
open Go.RowKit
attribute [local go_sem ↓] Go.wp_at_zero Go.wp_at_succ

namespace E
theorem check_ok {f : Fd} {l : List Nt} (hf : validField f = true) (hl : l.length ≤ 60) (hv : ∀ x ∈ l, validNotice x = true) (hs : ∀ x ∈ l, ∀ y ∈ l, y.id = x.id → y = x) : checkE f l = 0 := by
  obtain ⟨d, hd⟩ := diffs_some hl hv hs
  unfold checkE
  rw [if_pos hf, hd]
  rfl
theorem within_zero (r : Int) : within r 0 0 = (r == 0) := by
  unfold within
  by_cases h : r = 0
  · subst h; rfl
  · have h2 : (r == 0) = false := by simpa using h
    rw [h2]
    rcases Int.lt_or_gt_of_ne h with h3 | h3
    · rw [decide_eq_false (by omega : ¬ 0 ≤ r)]; rfl
    · rw [decide_eq_false (by omega : ¬ r ≤ 0)]; simp
theorem check_bad {f : Fd} {l : List Nt} (hf : validField f = true) (h : diffs l = none) : checkE f l = 51 := by
  unfold checkE
  rw [if_pos hf, h]
  rfl
theorem diffs_long {l : List Nt} (h : 60 < l.length) : diffs l = none := by unfold diffs; rw [if_pos h]
theorem diffs_badN {l : List Nt} {x : Nt} (hx : x ∈ l) (h : validNotice x = false) : diffs l = none := by
  cases hd : diffs l with
  | none => rfl
  | some d =>
    obtain ⟨_, h2, h3⟩ := diffs_spec hd
    have := h2.valid x ((h3 x).2 hx)
    rw [h] at this; cases this
theorem diffs_badI {l : List Nt} {x y : Nt} (hx : x ∈ l) (hy : y ∈ l) (hi : y.id = x.id) (hne : y ≠ x) : diffs l = none := by
  cases hd : diffs l with
  | none => rfl
  | some d =>
    obtain ⟨_, h2, h3⟩ := diffs_spec hd
    exact absurd (ids_inj h2.ids y ((h3 y).2 hy) x ((h3 x).2 hx) hi) hne
def pairOk (l : List Nt) (i : Nat) (x : Nt) : Prop := ∀ k y, k < i → l[k]? = some y → y.id = x.id → y = x
def upTo (l : List Nt) (i : Nat) : Prop := ∀ j x, j < i → l[j]? = some x → validNotice x = true ∧ pairOk l j x
theorem upTo_all {f : Fd} {l : List Nt} (hf : validField f = true) (hl : l.length ≤ 60) (h : upTo l l.length) : checkE f l = 0 := by
  refine check_ok hf hl (fun x hx => ?_) (fun x hx y hy e => ?_)
  · obtain ⟨i, hi, rfl⟩ := List.getElem_of_mem hx
    exact (h i _ hi (List.getElem?_eq_getElem hi)).1
  · obtain ⟨i, hi, rfl⟩ := List.getElem_of_mem hx
    obtain ⟨k, hk, rfl⟩ := List.getElem_of_mem hy
    rcases Nat.lt_trichotomy i k with h1 | h1 | h1
    · exact ((h k _ hk (List.getElem?_eq_getElem hk)).2 i _ h1 (List.getElem?_eq_getElem hi) e.symm).symm
    · subst h1; rfl
    · exact (h i _ hi (List.getElem?_eq_getElem hi)).2 k _ h1 (List.getElem?_eq_getElem hk) e
end E

theorem refWithin_any (n lo hi : Int) (w : World) :
    Calls Try.prog 29 #[.int .i64 n, .int .i64 lo, .int .i64 hi] w fun e w' => e = .returned (.bool (E.within n lo hi)) ∧ w = w' := by
  by_cases h1 : lo ≤ n <;> by_cases h2 : n ≤ hi <;>
    (go_enter Try.func29, Try.ntmps29
     go_wp2
     go_ret
     exact ⟨by simp [E.within, h1, h2], rfl⟩)

set_option maxHeartbeats 6400000 in
set_option maxRecDepth 100000 in
theorem isNotice_any (x : E.Nt) (w : World) :
    Calls Try.prog 30 #[.agg #[.int .i64 x.id, .int .i64 x.hour, .int .i64 x.kind, .int .i64 x.player, .int .i64 x.rank]] w fun e w' => e = .returned (.bool (E.validNotice x)) ∧ Below w.heap.size w w' := by
  obtain ⟨v1, h1⟩ : ∃ b, E.within x.id 0 999 = b := ⟨_, rfl⟩
  obtain ⟨v2, h2⟩ : ∃ b, E.within x.player 0 999 = b := ⟨_, rfl⟩
  obtain ⟨v3, h3⟩ : ∃ b, E.within x.hour 0 9999 = b := ⟨_, rfl⟩
  have hv : E.validNotice x = (v1 && v2 && v3 && E.within x.rank (E.lowOf x.kind) (E.highOf x.kind)) := by unfold E.validNotice; rw [h1, h2, h3]
  have H1 := hide h1
  have H2 := hide h2
  have H3 := hide h3
  have HV := hide hv
  clear h1 h2 h3 hv
  cases v1
  · go_enter Try.func30, Try.ntmps30
    go_wp2_with (first | (go_at_call 29; with_reducible refine (refWithin_any x.id 0 999 _).mono ?_; rintro e w' ⟨rfl, rfl⟩; rw [H1.out]) | (go_at_call 29; with_reducible refine (refWithin_any x.player 0 999 _).mono ?_; rintro e w' ⟨rfl, rfl⟩; rw [H2.out]) | (go_at_call 29; with_reducible refine (refWithin_any x.hour 0 9999 _).mono ?_; rintro e w' ⟨rfl, rfl⟩; rw [H3.out]))
    go_ret
    exact ⟨by rw [HV.out]; rfl, by (repeat' first | exact zbR _ _ | assumption | refine zbD ?_ | refine zbA ?_ ?_ _ | refine zbS ?_ ?_ _ | refine zbT ?_ (by assumption) ?_ | (simp; done) | (simp; omega) | omega)⟩
  · cases v2
    · go_enter Try.func30, Try.ntmps30
      go_wp2_with (first | (go_at_call 29; with_reducible refine (refWithin_any x.id 0 999 _).mono ?_; rintro e w' ⟨rfl, rfl⟩; rw [H1.out]) | (go_at_call 29; with_reducible refine (refWithin_any x.player 0 999 _).mono ?_; rintro e w' ⟨rfl, rfl⟩; rw [H2.out]) | (go_at_call 29; with_reducible refine (refWithin_any x.hour 0 9999 _).mono ?_; rintro e w' ⟨rfl, rfl⟩; rw [H3.out]))
      go_ret
      exact ⟨by rw [HV.out]; rfl, by (repeat' first | exact zbR _ _ | assumption | refine zbD ?_ | refine zbA ?_ ?_ _ | refine zbS ?_ ?_ _ | refine zbT ?_ (by assumption) ?_ | (simp; done) | (simp; omega) | omega)⟩
    · cases v3
      · go_enter Try.func30, Try.ntmps30
        go_wp2_with (first | (go_at_call 29; with_reducible refine (refWithin_any x.id 0 999 _).mono ?_; rintro e w' ⟨rfl, rfl⟩; rw [H1.out]) | (go_at_call 29; with_reducible refine (refWithin_any x.player 0 999 _).mono ?_; rintro e w' ⟨rfl, rfl⟩; rw [H2.out]) | (go_at_call 29; with_reducible refine (refWithin_any x.hour 0 9999 _).mono ?_; rintro e w' ⟨rfl, rfl⟩; rw [H3.out]))
        go_ret
        exact ⟨by rw [HV.out]; rfl, by (repeat' first | exact zbR _ _ | assumption | refine zbD ?_ | refine zbA ?_ ?_ _ | refine zbS ?_ ?_ _ | refine zbT ?_ (by assumption) ?_ | (simp; done) | (simp; omega) | omega)⟩
      · have HV2 := hide (show E.validNotice x = E.within x.rank (E.lowOf x.kind) (E.highOf x.kind) from HV.out.trans (by simp))
        clear HV
        by_cases h1 : x.kind = 1
        · have hk := h1
          clear h1
          have HV3 := hide (show E.validNotice x = E.within x.rank 0 9999 by rw [HV2.out, hk]; rfl)
          have d1 : (x.kind == 1) = true := by rw [hk]; rfl
          clear hk HV2
          obtain ⟨v4, h4⟩ : ∃ b, E.within x.rank 0 9999 = b := ⟨_, rfl⟩
          have H4 := hide h4
          clear h4
          go_enter Try.func30, Try.ntmps30
          go_wp2_with (first | (go_at_call 29; with_reducible refine (refWithin_any x.id 0 999 _).mono ?_; rintro e w' ⟨rfl, rfl⟩; rw [H1.out]) | (go_at_call 29; with_reducible refine (refWithin_any x.player 0 999 _).mono ?_; rintro e w' ⟨rfl, rfl⟩; rw [H2.out]) | (go_at_call 29; with_reducible refine (refWithin_any x.hour 0 9999 _).mono ?_; rintro e w' ⟨rfl, rfl⟩; rw [H3.out]) | (go_at_call 29; with_reducible refine (refWithin_any x.rank 0 9999 _).mono ?_; rintro e w' ⟨rfl, rfl⟩; rw [H4.out]))
          go_ret
          exact ⟨by rw [HV3.out, H4.out]; rfl, by (repeat' first | exact zbR _ _ | assumption | refine zbD ?_ | refine zbA ?_ ?_ _ | refine zbS ?_ ?_ _ | refine zbT ?_ (by assumption) ?_ | (simp; done) | (simp; omega) | omega)⟩
        · by_cases h2 : x.kind = 2
          · have hk := h2
            clear h1 h2
            have HV3 := hide (show E.validNotice x = E.within x.rank 1 9999 by rw [HV2.out, hk]; rfl)
            have d1 : (x.kind == 1) = false := by rw [hk]; rfl
            have d2 : (x.kind == 2) = true := by rw [hk]; rfl
            clear hk HV2
            obtain ⟨v4, h4⟩ : ∃ b, E.within x.rank 1 9999 = b := ⟨_, rfl⟩
            have H4 := hide h4
            clear h4
            go_enter Try.func30, Try.ntmps30
            go_wp2_with (first | (go_at_call 29; with_reducible refine (refWithin_any x.id 0 999 _).mono ?_; rintro e w' ⟨rfl, rfl⟩; rw [H1.out]) | (go_at_call 29; with_reducible refine (refWithin_any x.player 0 999 _).mono ?_; rintro e w' ⟨rfl, rfl⟩; rw [H2.out]) | (go_at_call 29; with_reducible refine (refWithin_any x.hour 0 9999 _).mono ?_; rintro e w' ⟨rfl, rfl⟩; rw [H3.out]) | (go_at_call 29; with_reducible refine (refWithin_any x.rank 1 9999 _).mono ?_; rintro e w' ⟨rfl, rfl⟩; rw [H4.out]))
            go_ret
            exact ⟨by rw [HV3.out, H4.out]; rfl, by (repeat' first | exact zbR _ _ | assumption | refine zbD ?_ | refine zbA ?_ ?_ _ | refine zbS ?_ ?_ _ | refine zbT ?_ (by assumption) ?_ | (simp; done) | (simp; omega) | omega)⟩
          · by_cases h3 : x.kind = 3
            · have hk := h3
              clear h1 h2 h3
              have HV3 := hide (show E.validNotice x = E.within x.rank 0 0 by rw [HV2.out, hk]; rfl)
              have d1 : (x.kind == 1) = false := by rw [hk]; rfl
              have d2 : (x.kind == 2) = false := by rw [hk]; rfl
              have d3 : (x.kind == 3) = true := by rw [hk]; rfl
              clear hk HV2
              have HV4 := hide (show E.validNotice x = (x.rank == 0) from HV3.out.trans (E.within_zero _))
              go_enter Try.func30, Try.ntmps30
              go_wp2_with (first | (go_at_call 29; with_reducible refine (refWithin_any x.id 0 999 _).mono ?_; rintro e w' ⟨rfl, rfl⟩; rw [H1.out]) | (go_at_call 29; with_reducible refine (refWithin_any x.player 0 999 _).mono ?_; rintro e w' ⟨rfl, rfl⟩; rw [H2.out]) | (go_at_call 29; with_reducible refine (refWithin_any x.hour 0 9999 _).mono ?_; rintro e w' ⟨rfl, rfl⟩; rw [H3.out]))
              go_ret
              exact ⟨by rw [HV4.out]; rfl, by (repeat' first | exact zbR _ _ | assumption | refine zbD ?_ | refine zbA ?_ ?_ _ | refine zbS ?_ ?_ _ | refine zbT ?_ (by assumption) ?_ | (simp; done) | (simp; omega) | omega)⟩
            · by_cases h4 : x.kind = 4
              · have hk := h4
                clear h1 h2 h3 h4
                have HV3 := hide (show E.validNotice x = E.within x.rank 0 0 by rw [HV2.out, hk]; rfl)
                have d1 : (x.kind == 1) = false := by rw [hk]; rfl
                have d2 : (x.kind == 2) = false := by rw [hk]; rfl
                have d3 : (x.kind == 3) = false := by rw [hk]; rfl
                have d4 : (x.kind == 4) = true := by rw [hk]; rfl
                clear hk HV2
                have HV4 := hide (show E.validNotice x = (x.rank == 0) from HV3.out.trans (E.within_zero _))
                go_enter Try.func30, Try.ntmps30
                go_wp2_with (first | (go_at_call 29; with_reducible refine (refWithin_any x.id 0 999 _).mono ?_; rintro e w' ⟨rfl, rfl⟩; rw [H1.out]) | (go_at_call 29; with_reducible refine (refWithin_any x.player 0 999 _).mono ?_; rintro e w' ⟨rfl, rfl⟩; rw [H2.out]) | (go_at_call 29; with_reducible refine (refWithin_any x.hour 0 9999 _).mono ?_; rintro e w' ⟨rfl, rfl⟩; rw [H3.out]))
                go_ret
                exact ⟨by rw [HV4.out]; rfl, by (repeat' first | exact zbR _ _ | assumption | refine zbD ?_ | refine zbA ?_ ?_ _ | refine zbS ?_ ?_ _ | refine zbT ?_ (by assumption) ?_ | (simp; done) | (simp; omega) | omega)⟩
              · by_cases h5 : x.kind = 5
                · have hk := h5
                  clear h1 h2 h3 h4 h5
                  have HV3 := hide (show E.validNotice x = E.within x.rank 0 0 by rw [HV2.out, hk]; rfl)
                  have d1 : (x.kind == 1) = false := by rw [hk]; rfl
                  have d2 : (x.kind == 2) = false := by rw [hk]; rfl
                  have d3 : (x.kind == 3) = false := by rw [hk]; rfl
                  have d4 : (x.kind == 4) = false := by rw [hk]; rfl
                  have d5 : (x.kind == 5) = true := by rw [hk]; rfl
                  clear hk HV2
                  have HV4 := hide (show E.validNotice x = (x.rank == 0) from HV3.out.trans (E.within_zero _))
                  go_enter Try.func30, Try.ntmps30
                  go_wp2_with (first | (go_at_call 29; with_reducible refine (refWithin_any x.id 0 999 _).mono ?_; rintro e w' ⟨rfl, rfl⟩; rw [H1.out]) | (go_at_call 29; with_reducible refine (refWithin_any x.player 0 999 _).mono ?_; rintro e w' ⟨rfl, rfl⟩; rw [H2.out]) | (go_at_call 29; with_reducible refine (refWithin_any x.hour 0 9999 _).mono ?_; rintro e w' ⟨rfl, rfl⟩; rw [H3.out]))
                  go_ret
                  exact ⟨by rw [HV4.out]; rfl, by (repeat' first | exact zbR _ _ | assumption | refine zbD ?_ | refine zbA ?_ ?_ _ | refine zbS ?_ ?_ _ | refine zbT ?_ (by assumption) ?_ | (simp; done) | (simp; omega) | omega)⟩
                · have HV3 := hide (show E.validNotice x = false by rw [HV2.out]; unfold E.lowOf E.highOf E.within; rw [if_neg h1, if_neg h2, if_neg (by rintro (h | h | h); exact h3 h; exact h4 h; exact h5 h), if_neg h1, if_neg h2]; simp; omega)
                  have d1 : (x.kind == 1) = false := by simpa using h1
                  have d2 : (x.kind == 2) = false := by simpa using h2
                  have d3 : (x.kind == 3) = false := by simpa using h3
                  have d4 : (x.kind == 4) = false := by simpa using h4
                  have d5 : (x.kind == 5) = false := by simpa using h5
                  clear h1 h2 h3 h4 h5 HV2
                  go_enter Try.func30, Try.ntmps30
                  go_wp2_with (first | (go_at_call 29; with_reducible refine (refWithin_any x.id 0 999 _).mono ?_; rintro e w' ⟨rfl, rfl⟩; rw [H1.out]) | (go_at_call 29; with_reducible refine (refWithin_any x.player 0 999 _).mono ?_; rintro e w' ⟨rfl, rfl⟩; rw [H2.out]) | (go_at_call 29; with_reducible refine (refWithin_any x.hour 0 9999 _).mono ?_; rintro e w' ⟨rfl, rfl⟩; rw [H3.out]))
                  go_ret
                  exact ⟨by rw [HV3.out]; rfl, by (repeat' first | exact zbR _ _ | assumption | refine zbD ?_ | refine zbA ?_ ?_ _ | refine zbS ?_ ?_ _ | refine zbT ?_ (by assumption) ?_ | (simp; done) | (simp; omega) | omega)⟩


end Go.Proofs.Ytobjahlmjcnfoaa

namespace Go.Proofs.Ytobjahlmjcnfoaa
open Go.RowKit
attribute [local go_sem ↓] Go.wp_at_zero Go.wp_at_succ run_neq_nt

namespace E
theorem pair_add {l : List Nt} {m : Nat} {x y : Nt} (h : pairOk l m x) (hy : l[m]? = some y) (he : y.id = x.id → y = x) : pairOk l (m + 1) x := by
  intro k z hk hz hi
  rcases Nat.lt_or_ge k m with h1 | h1
  · exact h k z h1 hz hi
  · have : k = m := by omega
    subst this
    rw [hy] at hz
    have := Option.some.inj hz
    subst this
    exact he hi
theorem upTo_add {l : List Nt} {k : Nat} {x : Nt} (h : upTo l k) (hx : l[k]? = some x) (hv : validNotice x = true) (hp : pairOk l k x) : upTo l (k + 1) := by
  intro j z hj hz
  rcases Nat.lt_or_ge j k with h1 | h1
  · exact h j z h1 hz
  · have : j = k := by omega
    subst this
    rw [hx] at hz
    have := Option.some.inj hz
    subst this
    exact ⟨hv, hp⟩
end E

set_option maxHeartbeats 6400000 in
set_option maxRecDepth 100000 in
theorem refCheck_any (f : E.Fd) (A : Option Addr) (n c : Nat) (l : List E.Nt) (w : World) (hn : l.length = n) (hr : RdN w w.heap.size A l) (hm : n ≤ 1000000) :
    Calls Try.prog 13 #[.agg #[.int .i64 f.places, .int .i64 f.wilds, .int .i64 f.guards, .int .i64 f.close, .int .i64 f.freeze], .slice A n c] w fun e w' => e = .returned (.int .i64 (E.checkE f l)) ∧ Below w.heap.size w w' := by
  have HN := hide hn
  have HR := hide hr
  clear hn hr
  obtain ⟨v1, h1⟩ : ∃ b, E.within f.places 1 32 = b := ⟨_, rfl⟩
  have H1 := hide h1
  clear h1
  cases v1
  · have HC := hide (show E.checkE f l = 50 by unfold E.checkE E.validField; rw [H1.out]; simp)
    go_enter Try.func13, Try.ntmps13
    go_wp2_with (first | (go_at_call 29; with_reducible refine (refWithin_any f.places 1 32 _).mono ?_; rintro e w' ⟨rfl, rfl⟩; rw [H1.out]))
    go_ret
    exact ⟨by rw [HC.out]; rfl, by (repeat' first | exact zbR _ _ | assumption | refine zbD ?_ | refine zbA ?_ ?_ _ | refine zbS ?_ ?_ _ | refine zbT ?_ (by assumption) ?_ | (simp; done) | (simp; omega) | omega)⟩
  · obtain ⟨v2, h2⟩ : ∃ b, E.within f.wilds 0 32 = b := ⟨_, rfl⟩
    have H2 := hide h2
    clear h2
    cases v2
    · have HC := hide (show E.checkE f l = 50 by unfold E.checkE E.validField; rw [H1.out, H2.out]; simp)
      go_enter Try.func13, Try.ntmps13
      go_wp2_with (first | (go_at_call 29; with_reducible refine (refWithin_any f.places 1 32 _).mono ?_; rintro e w' ⟨rfl, rfl⟩; rw [H1.out]) | (go_at_call 29; with_reducible refine (refWithin_any f.wilds 0 32 _).mono ?_; rintro e w' ⟨rfl, rfl⟩; rw [H2.out]))
      go_ret
      exact ⟨by rw [HC.out]; rfl, by (repeat' first | exact zbR _ _ | assumption | refine zbD ?_ | refine zbA ?_ ?_ _ | refine zbS ?_ ?_ _ | refine zbT ?_ (by assumption) ?_ | (simp; done) | (simp; omega) | omega)⟩
    · obtain ⟨v3, h3⟩ : ∃ b, E.within f.guards 0 32 = b := ⟨_, rfl⟩
      have H3 := hide h3
      clear h3
      cases v3
      · have HC := hide (show E.checkE f l = 50 by unfold E.checkE E.validField; rw [H1.out, H2.out, H3.out]; simp)
        go_enter Try.func13, Try.ntmps13
        go_wp2_with (first | (go_at_call 29; with_reducible refine (refWithin_any f.places 1 32 _).mono ?_; rintro e w' ⟨rfl, rfl⟩; rw [H1.out]) | (go_at_call 29; with_reducible refine (refWithin_any f.wilds 0 32 _).mono ?_; rintro e w' ⟨rfl, rfl⟩; rw [H2.out]) | (go_at_call 29; with_reducible refine (refWithin_any f.guards 0 32 _).mono ?_; rintro e w' ⟨rfl, rfl⟩; rw [H3.out]))
        go_ret
        exact ⟨by rw [HC.out]; rfl, by (repeat' first | exact zbR _ _ | assumption | refine zbD ?_ | refine zbA ?_ ?_ _ | refine zbS ?_ ?_ _ | refine zbT ?_ (by assumption) ?_ | (simp; done) | (simp; omega) | omega)⟩
      · obtain ⟨v4, h4⟩ : ∃ b, E.within f.close 0 9999 = b := ⟨_, rfl⟩
        have H4 := hide h4
        clear h4
        cases v4
        · have HC := hide (show E.checkE f l = 50 by unfold E.checkE E.validField; rw [H1.out, H2.out, H3.out, H4.out]; simp)
          go_enter Try.func13, Try.ntmps13
          go_wp2_with (first | (go_at_call 29; with_reducible refine (refWithin_any f.places 1 32 _).mono ?_; rintro e w' ⟨rfl, rfl⟩; rw [H1.out]) | (go_at_call 29; with_reducible refine (refWithin_any f.wilds 0 32 _).mono ?_; rintro e w' ⟨rfl, rfl⟩; rw [H2.out]) | (go_at_call 29; with_reducible refine (refWithin_any f.guards 0 32 _).mono ?_; rintro e w' ⟨rfl, rfl⟩; rw [H3.out]) | (go_at_call 29; with_reducible refine (refWithin_any f.close 0 9999 _).mono ?_; rintro e w' ⟨rfl, rfl⟩; rw [H4.out]))
          go_ret
          exact ⟨by rw [HC.out]; rfl, by (repeat' first | exact zbR _ _ | assumption | refine zbD ?_ | refine zbA ?_ ?_ _ | refine zbS ?_ ?_ _ | refine zbT ?_ (by assumption) ?_ | (simp; done) | (simp; omega) | omega)⟩
        · obtain ⟨v5, h5⟩ : ∃ b, E.within f.freeze f.close 9999 = b := ⟨_, rfl⟩
          have H5 := hide h5
          clear h5
          cases v5
          · have HC := hide (show E.checkE f l = 50 by unfold E.checkE E.validField; rw [H1.out, H2.out, H3.out, H4.out, H5.out]; simp)
            go_enter Try.func13, Try.ntmps13
            go_wp2_with (first | (go_at_call 29; with_reducible refine (refWithin_any f.places 1 32 _).mono ?_; rintro e w' ⟨rfl, rfl⟩; rw [H1.out]) | (go_at_call 29; with_reducible refine (refWithin_any f.wilds 0 32 _).mono ?_; rintro e w' ⟨rfl, rfl⟩; rw [H2.out]) | (go_at_call 29; with_reducible refine (refWithin_any f.guards 0 32 _).mono ?_; rintro e w' ⟨rfl, rfl⟩; rw [H3.out]) | (go_at_call 29; with_reducible refine (refWithin_any f.close 0 9999 _).mono ?_; rintro e w' ⟨rfl, rfl⟩; rw [H4.out]) | (go_at_call 29; with_reducible refine (refWithin_any f.freeze f.close 9999 _).mono ?_; rintro e w' ⟨rfl, rfl⟩; rw [H5.out]))
            go_ret
            exact ⟨by rw [HC.out]; rfl, by (repeat' first | exact zbR _ _ | assumption | refine zbD ?_ | refine zbA ?_ ?_ _ | refine zbS ?_ ?_ _ | refine zbT ?_ (by assumption) ?_ | (simp; done) | (simp; omega) | omega)⟩
          · have HVF := hide (show E.validField f = true by unfold E.validField; rw [H1.out, H2.out, H3.out, H4.out, H5.out]; rfl)
            by_cases h60 : 60 < n
            · have hc1 : (60 : Int) < (n : Int) := by omega
              have HC := hide (E.check_bad HVF.out (E.diffs_long (l := l) (by have := HN.out; omega)))
              go_enter Try.func13, Try.ntmps13
              go_wp2_with (first | (go_at_call 29; with_reducible refine (refWithin_any f.places 1 32 _).mono ?_; rintro e w' ⟨rfl, rfl⟩; rw [H1.out]) | (go_at_call 29; with_reducible refine (refWithin_any f.wilds 0 32 _).mono ?_; rintro e w' ⟨rfl, rfl⟩; rw [H2.out]) | (go_at_call 29; with_reducible refine (refWithin_any f.guards 0 32 _).mono ?_; rintro e w' ⟨rfl, rfl⟩; rw [H3.out]) | (go_at_call 29; with_reducible refine (refWithin_any f.close 0 9999 _).mono ?_; rintro e w' ⟨rfl, rfl⟩; rw [H4.out]) | (go_at_call 29; with_reducible refine (refWithin_any f.freeze f.close 9999 _).mono ?_; rintro e w' ⟨rfl, rfl⟩; rw [H5.out]))
              go_ret
              exact ⟨by rw [HC.out]; rfl, by (repeat' first | exact zbR _ _ | assumption | refine zbD ?_ | refine zbA ?_ ?_ _ | refine zbS ?_ ?_ _ | refine zbT ?_ (by assumption) ?_ | (simp; done) | (simp; omega) | omega)⟩
            · have hc1 : (n : Int) ≤ 60 := by omega
              have hn60 : n ≤ 60 := by omega
              clear h60
              go_enter Try.func13, Try.ntmps13
              go_wp2_with (first | (go_at_call 29; with_reducible refine (refWithin_any f.places 1 32 _).mono ?_; rintro e w' ⟨rfl, rfl⟩; rw [H1.out]) | (go_at_call 29; with_reducible refine (refWithin_any f.wilds 0 32 _).mono ?_; rintro e w' ⟨rfl, rfl⟩; rw [H2.out]) | (go_at_call 29; with_reducible refine (refWithin_any f.guards 0 32 _).mono ?_; rintro e w' ⟨rfl, rfl⟩; rw [H3.out]) | (go_at_call 29; with_reducible refine (refWithin_any f.close 0 9999 _).mono ?_; rintro e w' ⟨rfl, rfl⟩; rw [H4.out]) | (go_at_call 29; with_reducible refine (refWithin_any f.freeze f.close 9999 _).mono ?_; rintro e w' ⟨rfl, rfl⟩; rw [H5.out]))
              obtain ⟨w1, hw1⟩ : ∃ w1, w.alloc (.cells #[.int .i64 f.places, .int .i64 f.wilds, .int .i64 f.guards, .int .i64 f.close, .int .i64 f.freeze] 23) = w1 := ⟨_, rfl⟩
              have HB1 := hide (show Below w.heap.size w w1 by rw [← hw1]; (repeat' first | exact zbR _ _ | assumption | refine zbD ?_ | refine zbA ?_ ?_ _ | refine zbS ?_ ?_ _ | refine zbT ?_ (by assumption) ?_ | (simp; done) | (simp; omega) | omega))
              rw [hw1]
              clear hw1 hc1
              have HR1 := hide (HR.out.below HB1.out)
              go_loopw [5] (fun i wr => ∃ k : Nat, k ≤ n ∧ i = .int .i64 k ∧ Hid (E.upTo l k) ∧ Hid (Below w.heap.size w1 wr)) (fun i _ => n - (intOf i).toNat)
              case atStart => exact ⟨0, by omega, rfl, hide (fun j x hj => by omega), hide (Below.refl _ _)⟩
              case round =>
                obtain ⟨k, hk, rfl, HU, HBr⟩ := hrel
                by_cases hlt : k < n
                · obtain ⟨x, hx⟩ : ∃ q, l[k]? = some q := ⟨_, List.getElem?_eq_getElem (by have := HN.out; omega)⟩
                  obtain ⟨b, o, hA, hbB, d0, d1, d2, d3, d4⟩ := (HR1.out.below HBr.out) k x hx
                  subst hA
                  have HX := hide hx
                  have hlt' : (k : Int) < (n : Int) := by omega
                  have hk0 : (0 : Int) ≤ (k : Int) := by omega
                  obtain ⟨vn, hvn⟩ : ∃ vn, E.validNotice x = vn := ⟨_, rfl⟩
                  have HVN := hide hvn
                  have HCV := fun W => hide (isNotice_any x W)
                  rw [hvn] at HCV
                  clear hx hvn
                  cases vn
                  · have HC := hide (E.check_bad HVF.out (E.diffs_badN (List.mem_of_getElem? HX.out) HVN.out))
                    go_wp2_with (go_at_call 30; refine (HCV _).out.mono ?_; rintro e w3 ⟨rfl, hb3⟩; have HB3 := hide hb3; clear hb3)
                    go_ret
                    exact ⟨by rw [HC.out]; rfl, HB1.out.trans (zbT HBr.out HB3.out (Nat.le_trans HB1.out.size HBr.out.size))⟩
                  · go_wp2_with (go_at_call 30; refine (HCV _).out.mono ?_; rintro e w3 ⟨rfl, hb3⟩; have HB3 := hide (zbT HBr.out hb3 (Nat.le_trans HB1.out.size HBr.out.size)); clear hb3)
                    clear d0 d1 d2 d3 d4 hbB
                    go_loopw [6] (fun j wi => ∃ m : Nat, m ≤ k ∧ j = .int .i64 m ∧ Hid (E.pairOk l m x) ∧ Hid (Below w.heap.size w1 wi)) (fun j _ => k - (intOf j).toNat)
                    case atStart => exact ⟨0, by omega, rfl, hide (fun j y hj => by omega), HB3⟩
                    case round =>
                      obtain ⟨m, hm, rfl, HPK, HBi⟩ := hrel
                      by_cases hmk : m < k
                      · obtain ⟨y, hy⟩ : ∃ q, l[m]? = some q := ⟨_, List.getElem?_eq_getElem (by have := HN.out; omega)⟩
                        have HY := hide hy
                        obtain ⟨q, hq0⟩ : ∃ q, (y.id == x.id) = q := ⟨_, rfl⟩
                        have HQ := hide hq0
                        have hm1 : (m : Int) < (k : Int) := by omega
                        have hm2 : (m : Int) < (n : Int) := by omega
                        have hm0 : (0 : Int) ≤ (m : Int) := by omega
                        clear hy hq0
                        go_upto_region 13 with fail
                        obtain ⟨V, hV⟩ : ∃ V, wr.drew = V := ⟨_, rfl⟩
                        have HBV := hide (show Below wr.heap.size wr V by rw [← hV]; exact zbD (zbR _ _))
                        refine wp_region_still_lit (by kernel_rfl) (by kernel_rfl) ?_
                        change wpStill _ _ wr.drew (fun a' => Exit.then _ _ Exit.normal a' wr.drew) _ _
                        rw [hV]
                        clear hV
                        have HRV := (HR1.out.below HBi.out).below (HBV.out.mono (Nat.le_trans HB1.out.size HBi.out.size))
                        obtain ⟨b1, o1, e1, _, y0, y1, y2, y3, y4⟩ := HRV m y HY.out
                        injection e1 with e1
                        injection e1 with e1 e2
                        subst e1 e2
                        obtain ⟨b2, o2, e1, _, x0, x1, x2, x3, x4⟩ := HRV k x HX.out
                        injection e1 with e1
                        injection e1 with e1 e2
                        subst e1 e2
                        clear HRV
                        have HQ2 := hide (show decide (y.id = x.id) = q from HQ.out)
                        cases q
                        · with_reducible refine stTake (v := ?_) (by kernel_rfl) ?_ ?_; rotate_left
                          · (go_simp; (try with_reducible rfl))
                          (try simp only [Act.put, zl, z0, z1])
                          with_reducible refine stTake (v := ?_) (by kernel_rfl) ?_ ?_; rotate_left
                          · (go_simp; (try with_reducible rfl))
                          (try simp only [Act.put, zl, z0, z1])
                          with_reducible refine stTake (v := ?_) (by kernel_rfl) ?_ ?_; rotate_left
                          · (go_simp; (try with_reducible rfl))
                          (try simp only [Act.put, zl, z0, z1])
                          with_reducible refine stTake (v := ?_) (by kernel_rfl) ?_ ?_; rotate_left
                          · (go_simp; (try with_reducible rfl))
                          (try simp only [Act.put, zl, z0, z1])
                          with_reducible refine stTake (v := ?_) (by kernel_rfl) ?_ ?_; rotate_left
                          · (go_simp; (try with_reducible rfl))
                          (try simp only [Act.put, zl, z0, z1])
                          with_reducible refine stTake (v := ?_) (by kernel_rfl) ?_ ?_; rotate_left
                          · (go_simp; (try with_reducible rfl))
                          (try simp only [Act.put, zl, z0, z1])
                          with_reducible refine stTake (v := ?_) (by kernel_rfl) ?_ ?_; rotate_left
                          · (go_simp; (try with_reducible rfl))
                          (try simp only [Act.put, zl, z0, z1])
                          with_reducible refine stTake (v := ?_) (by kernel_rfl) ?_ ?_; rotate_left
                          · (go_simp; (try with_reducible rfl))
                          (try simp only [Act.put, zl, z0, z1])
                          with_reducible refine stTake (v := ?_) (by kernel_rfl) ?_ ?_; rotate_left
                          · (go_simp; (try with_reducible rfl))
                          (try simp only [Act.put, zl, z0, z1])
                          with_reducible refine stTake (v := ?_) (by kernel_rfl) ?_ ?_; rotate_left
                          · (go_simp; (try with_reducible rfl))
                          (try simp only [Act.put, zl, z0, z1])
                          with_reducible refine stTake (v := ?_) (by kernel_rfl) ?_ ?_; rotate_left
                          · (go_simp; (try simp only [HQ.out, HQ2.out]); (try with_reducible rfl))
                          (try simp only [Act.put, zl, z0, z1])
                          with_reducible refine stTake (v := ?_) (by kernel_rfl) ?_ ?_; rotate_left
                          · (go_simp; (try with_reducible rfl))
                          (try simp only [Act.put, zl, z0, z1])
                          with_reducible refine stSkip (by kernel_rfl) ?_
                          (try simp only [Act.put, zl, z0, z1])
                          with_reducible refine stSkip (by kernel_rfl) ?_
                          (try simp only [Act.put, zl, z0, z1])
                          with_reducible refine stSkip (by kernel_rfl) ?_
                          (try simp only [Act.put, zl, z0, z1])
                          with_reducible refine stSkip (by kernel_rfl) ?_
                          (try simp only [Act.put, zl, z0, z1])
                          with_reducible refine stSkip (by kernel_rfl) ?_
                          (try simp only [Act.put, zl, z0, z1])
                          with_reducible refine stSkip (by kernel_rfl) ?_
                          (try simp only [Act.put, zl, z0, z1])
                          with_reducible refine stSkip (by kernel_rfl) ?_
                          (try simp only [Act.put, zl, z0, z1])
                          with_reducible refine stSkip (by kernel_rfl) ?_
                          (try simp only [Act.put, zl, z0, z1])
                          with_reducible refine stSkip (by kernel_rfl) ?_
                          (try simp only [Act.put, zl, z0, z1])
                          with_reducible refine stTake (v := ?_) (by kernel_rfl) ?_ ?_; rotate_left
                          · (go_simp; (try with_reducible rfl))
                          (try simp only [Act.put, zl, z0, z1])
                          refine wpStill_nil ?_
                          clear y0 y1 y2 y3 y4 x0 x1 x2 x3 x4
                          go_wp2_with fail
                          go_roundw
                          case rel => exact ⟨m + 1, by omega, by go_num, hide (E.pair_add HPK.out HY.out (fun e => by have := HQ.out; rw [beq_eq_false_iff_ne] at this; exact absurd e this)), hide (zbT HBi.out HBV.out (Nat.le_trans HB1.out.size HBi.out.size))⟩
                          case measure => simp [intOf]; omega
                        · obtain ⟨dz, hdz⟩ : ∃ dz, decide (y = x) = dz := ⟨_, rfl⟩
                          have HDZ := hide hdz
                          clear hdz
                          with_reducible refine stTake (v := ?_) (by kernel_rfl) ?_ ?_; rotate_left
                          · (go_simp; (try with_reducible rfl))
                          (try simp only [Act.put, zl, z0, z1])
                          with_reducible refine stTake (v := ?_) (by kernel_rfl) ?_ ?_; rotate_left
                          · (go_simp; (try with_reducible rfl))
                          (try simp only [Act.put, zl, z0, z1])
                          with_reducible refine stTake (v := ?_) (by kernel_rfl) ?_ ?_; rotate_left
                          · (go_simp; (try with_reducible rfl))
                          (try simp only [Act.put, zl, z0, z1])
                          with_reducible refine stTake (v := ?_) (by kernel_rfl) ?_ ?_; rotate_left
                          · (go_simp; (try with_reducible rfl))
                          (try simp only [Act.put, zl, z0, z1])
                          with_reducible refine stTake (v := ?_) (by kernel_rfl) ?_ ?_; rotate_left
                          · (go_simp; (try with_reducible rfl))
                          (try simp only [Act.put, zl, z0, z1])
                          with_reducible refine stTake (v := ?_) (by kernel_rfl) ?_ ?_; rotate_left
                          · (go_simp; (try with_reducible rfl))
                          (try simp only [Act.put, zl, z0, z1])
                          with_reducible refine stTake (v := ?_) (by kernel_rfl) ?_ ?_; rotate_left
                          · (go_simp; (try with_reducible rfl))
                          (try simp only [Act.put, zl, z0, z1])
                          with_reducible refine stTake (v := ?_) (by kernel_rfl) ?_ ?_; rotate_left
                          · (go_simp; (try with_reducible rfl))
                          (try simp only [Act.put, zl, z0, z1])
                          with_reducible refine stTake (v := ?_) (by kernel_rfl) ?_ ?_; rotate_left
                          · (go_simp; (try with_reducible rfl))
                          (try simp only [Act.put, zl, z0, z1])
                          with_reducible refine stTake (v := ?_) (by kernel_rfl) ?_ ?_; rotate_left
                          · (go_simp; (try with_reducible rfl))
                          (try simp only [Act.put, zl, z0, z1])
                          with_reducible refine stTake (v := ?_) (by kernel_rfl) ?_ ?_; rotate_left
                          · (go_simp; (try simp only [HQ.out, HQ2.out]); (try with_reducible rfl))
                          (try simp only [Act.put, zl, z0, z1])
                          with_reducible refine stTake (v := ?_) (by kernel_rfl) ?_ ?_; rotate_left
                          · (go_simp; (try with_reducible rfl))
                          (try simp only [Act.put, zl, z0, z1])
                          with_reducible refine stTake (v := ?_) (by kernel_rfl) ?_ ?_; rotate_left
                          · (go_simp; (try with_reducible rfl))
                          (try simp only [Act.put, zl, z0, z1])
                          with_reducible refine stTake (v := ?_) (by kernel_rfl) ?_ ?_; rotate_left
                          · (go_simp; (try with_reducible rfl))
                          (try simp only [Act.put, zl, z0, z1])
                          with_reducible refine stTake (v := ?_) (by kernel_rfl) ?_ ?_; rotate_left
                          · (go_simp; (try with_reducible rfl))
                          (try simp only [Act.put, zl, z0, z1])
                          with_reducible refine stTake (v := ?_) (by kernel_rfl) ?_ ?_; rotate_left
                          · (go_simp; (try with_reducible rfl))
                          (try simp only [Act.put, zl, z0, z1])
                          with_reducible refine stTake (v := ?_) (by kernel_rfl) ?_ ?_; rotate_left
                          · (go_simp; (try with_reducible rfl))
                          (try simp only [Act.put, zl, z0, z1])
                          with_reducible refine stTake (v := ?_) (by kernel_rfl) ?_ ?_; rotate_left
                          · (go_simp; (try with_reducible rfl))
                          (try simp only [Act.put, zl, z0, z1])
                          with_reducible refine stTake (v := ?_) (by kernel_rfl) ?_ ?_; rotate_left
                          · (go_simp; (try with_reducible rfl))
                          (try simp only [Act.put, zl, z0, z1])
                          with_reducible refine stTake (v := ?_) (by kernel_rfl) ?_ ?_; rotate_left
                          · (go_simp; (try with_reducible rfl))
                          (try simp only [Act.put, zl, z0, z1])
                          with_reducible refine stTake (v := ?_) (by kernel_rfl) ?_ ?_; rotate_left
                          · (go_simp; (try simp only [HDZ.out]); (try with_reducible rfl))
                          (try simp only [Act.put, zl, z0, z1])
                          with_reducible refine stTake (v := ?_) (by kernel_rfl) ?_ ?_; rotate_left
                          · (go_simp; (try with_reducible rfl))
                          (try simp only [Act.put, zl, z0, z1])
                          refine wpStill_nil ?_
                          clear y0 y1 y2 y3 y4 x0 x1 x2 x3 x4
                          cases dz
                          · have HC := hide (E.check_bad HVF.out (E.diffs_badI (List.mem_of_getElem? HX.out) (List.mem_of_getElem? HY.out) (by simpa using HQ.out) (of_decide_eq_false HDZ.out)))
                            go_wp2_with fail
                            go_ret
                            exact ⟨by rw [HC.out]; rfl, HB1.out.trans (zbT HBi.out HBV.out (Nat.le_trans HB1.out.size HBi.out.size))⟩
                          · go_wp2_with fail
                            go_roundw
                            case rel => exact ⟨m + 1, by omega, by go_num, hide (E.pair_add HPK.out HY.out (fun _ => of_decide_eq_true HDZ.out)), hide (zbT HBi.out HBV.out (Nat.le_trans HB1.out.size HBi.out.size))⟩
                            case measure => simp [intOf]; omega
                      · have hmn : m = k := by omega
                        subst hmn
                        go_wp2_with fail
                        go_roundw
                        case rel => exact ⟨m + 1, by omega, by go_num, hide (E.upTo_add HU.out HX.out HVN.out HPK.out), HBi⟩
                        case measure => simp [intOf]; omega
                · have hkn : k = n := by omega
                  subst hkn
                  have HC := hide (E.upTo_all (l := l) HVF.out (by have := HN.out; omega) (by rw [HN.out]; exact HU.out))
                  go_wp2_with fail
                  go_ret
                  exact ⟨by rw [HC.out]; rfl, HB1.out.trans HBr.out⟩


end Go.Proofs.Ytobjahlmjcnfoaa

namespace Go.Proofs.Ytobjahlmjcnfoaa
open Go.RowKit
attribute [local go_sem ↓] Go.wp_at_zero Go.wp_at_succ

namespace E
def exF : Fd := ⟨3, 1, 1, 10, 20⟩
def exL : List Nt := [⟨0, 1, 1, 7, 50⟩, ⟨1, 2, 1, 8, 20⟩, ⟨2, 3, 2, 9, 10⟩, ⟨3, 4, 2, 6, 30⟩, ⟨4, 5, 1, 5, 70⟩, ⟨5, 6, 1, 4, 0⟩, ⟨6, 11, 1, 3, 1⟩, ⟨7, 12, 3, 7, 0⟩, ⟨8, 15, 4, 8, 0⟩, ⟨9, 21, 5, 4, 0⟩, ⟨10, 22, 4, 5, 0⟩]
end E
theorem fldRow : (Try.prog.info? 23).map (·.size) = some 5 := by kernel_rfl
theorem rdN_block {w : World} {b : Nat} {xs : List E.Nt} {t : TypeId} {cs : Array Value} (hb : w.heap[b]? = some (.cells cs t (0, 0))) (hc : cs = (flatN xs).toArray) : RdN w w.heap.size (some ⟨b, 0, none⟩) xs := by
  subst hc
  intro k x hk
  have c : ∀ i, i < 5 → w.cell? ⟨b, 0 + k * 5 + i, none⟩ = (nc x)[i]? := fun i hi => by
    rw [Nat.zero_add, blk_cell hb (k * 5 + i)]
    have := flatN_at xs k x i hk hi
    rw [← this]
    simp
  exact ⟨b, 0, rfl, blk_lt hb, c 0 (by omega), c 1 (by omega), c 2 (by omega), c 3 (by omega), c 4 (by omega)⟩

set_option maxRecDepth 100000 in
theorem notice_any (a b c d e : Int) (w : World) :
    Calls Try.prog 41 #[.int .i64 a, .int .i64 b, .int .i64 c, .int .i64 d, .int .i64 e] w fun e' w' => e' = .returned (.agg #[.int .i64 a, .int .i64 b, .int .i64 c, .int .i64 d, .int .i64 e]) ∧ Below w.heap.size w w' := by
  go_enter Try.func41, Try.ntmps41
  go_wp2_with fail
  exact bodyPost_ret (v := .agg #[.int .i64 a, .int .i64 b, .int .i64 c, .int .i64 d, .int .i64 e]) (by simp [results, Try.results41, go_sem]) rfl ⟨rfl, by (repeat' first | exact zbR _ _ | assumption | refine zbD ?_ | refine zbA ?_ ?_ _ | refine zbS ?_ ?_ _ | refine zbT ?_ (by assumption) ?_ | (simp; done) | (simp; omega) | omega)⟩

theorem ne_types {w : World} {a b : Nat} {c1 c2 : Array Value} {t1 t2 : TypeId} {f1 f2 : Nat × Nat} (h1 : w.heap[a]? = some (.cells c1 t1 f1)) (h2 : w.heap[b]? = some (.cells c2 t2 f2)) (ht : t1 ≠ t2) : a ≠ b := by
  intro e
  subst e
  rw [h1] at h2
  simp only [Option.some.injEq, Obj.cells.injEq] at h2
  exact ht h2.2.1
def ExS (W1 : World) (q : Nat) (v : World) : Prop := W1.grownBy v (some q) ∧ ∃ old : Array Value, v.heap[q]? = some (.cells old 23 (0, 0)) ∧ old.size = 5
theorem ExS.below {W1 u u' : World} {q : Nat} (h : ExS W1 q u) (hb : Below u.heap.size u u') : ExS W1 q u' := by
  obtain ⟨hg, old, ho, h5⟩ := h
  exact ⟨gr_trans hg ⟨hb.os, hb.tape, hb.output, hb.size, fun i hi _ => hb.block i hi⟩, old, (hb.block q (blk_lt ho)).trans ho, h5⟩
theorem ExS.row {W1 u u' : World} {q : Nat} {cs : Array Value} (h : ExS W1 q u) (hc : u'.heap[q]? = some (.cells cs 23 (0, 0))) (hg : u.grownBy u' (some q)) (h5 : cs.size = 5) : ExS W1 q u' := ⟨gr_trans h.1 hg, cs, hc, h5⟩

def ExPost (w : World) (e : Ending) (w' : World) : Prop := ∃ A : Option Addr, e = .returned (.tuple #[.agg #[.int .i64 3, .int .i64 1, .int .i64 1, .int .i64 10, .int .i64 20], .slice A 11 11]) ∧ RdN w' w'.heap.size A E.exL ∧ Below w.heap.size w w'

set_option maxHeartbeats 6400000 in
set_option maxRecDepth 100000 in
theorem Example_any (w : World) : Calls Try.prog 26 #[] w (ExPost w) := by
  go_enter Try.func26, Try.ntmps26
  go_upto_region 2 with fail
  obtain ⟨W1, hW1⟩ : ∃ W1, (w.alloc (.cells #[.int .i64 0, .int .i64 0, .int .i64 0, .int .i64 0, .int .i64 0] 23)).alloc (.cells #[.int .i64 3, .int .i64 1, .int .i64 1, .int .i64 10, .int .i64 20] 23) = W1 := ⟨_, rfl⟩
  have HB1 := hide (show Below w.heap.size w W1 by rw [← hW1]; (repeat' first | exact zbR _ _ | assumption | refine zbD ?_ | refine zbA ?_ ?_ _ | refine zbS ?_ ?_ _ | refine zbT ?_ (by assumption) ?_ | (simp; done) | (simp; omega) | omega))
  have HQ := hide (show W1.heap[w.heap.size]? = some (.cells #[.int .i64 0, .int .i64 0, .int .i64 0, .int .i64 0, .int .i64 0] 23 (0, 0)) by rw [← hW1]; exact (Below.heap_alloc _ _ _ (by first | (simp; done) | (simp; omega) | omega)).trans (World.alloc_heap_new _ _))
  have HQ2 := hide (show W1.heap[w.heap.size + 1]? = some (.cells #[.int .i64 3, .int .i64 1, .int .i64 1, .int .i64 10, .int .i64 20] 23 (0, 0)) by rw [← hW1]; exact (congrArg _ (by simp)).trans (World.alloc_heap_new _ _))
  rw [hW1]
  clear hW1
  obtain ⟨q, hq⟩ : ∃ q, w.heap.size = q := ⟨_, rfl⟩
  obtain ⟨q2, hq2⟩ : ∃ q2, w.heap.size + 1 = q2 := ⟨_, rfl⟩
  have HQE := hide hq
  have HNE := hide (show q2 ≠ q by omega)
  rw [hq2] at HQ2 ⊢
  rw [hq] at HQ ⊢
  have HQW := hide (blk_lt HQ.out)
  clear hq hq2
  have hSof : ∀ v, ExS W1 q v → (fun w' => ExS W1 q w' ∧ w'.cell? ⟨q2, 0, none⟩ = some (.int .i64 3) ∧ w'.cell? ⟨q2, 1, none⟩ = some (.int .i64 1) ∧ w'.cell? ⟨q2, 2, none⟩ = some (.int .i64 1) ∧ w'.cell? ⟨q2, 3, none⟩ = some (.int .i64 10) ∧ w'.cell? ⟨q2, 4, none⟩ = some (.int .i64 20)) v := by
    intro v hb
    have h2 := (hb.1.block q2 (blk_lt HQ2.out) (fun e => HNE.out (Option.some.inj e))).trans HQ2.out
    exact ⟨hb, (blk_cell h2 0).trans rfl, (blk_cell h2 1).trans rfl, (blk_cell h2 2).trans rfl, (blk_cell h2 3).trans rfl, (blk_cell h2 4).trans rfl⟩
  have hS : (fun w' => ExS W1 q w' ∧ w'.cell? ⟨q2, 0, none⟩ = some (.int .i64 3) ∧ w'.cell? ⟨q2, 1, none⟩ = some (.int .i64 1) ∧ w'.cell? ⟨q2, 2, none⟩ = some (.int .i64 1) ∧ w'.cell? ⟨q2, 3, none⟩ = some (.int .i64 10) ∧ w'.cell? ⟨q2, 4, none⟩ = some (.int .i64 20)) W1 := hSof _ ⟨World.grownBy.refl _ _, _, HQ.out, rfl⟩
  (try dsimp only at hS)
  refine wp_region_held_drew (S := (fun w' => ExS W1 q w' ∧ w'.cell? ⟨q2, 0, none⟩ = some (.int .i64 3) ∧ w'.cell? ⟨q2, 1, none⟩ = some (.int .i64 1) ∧ w'.cell? ⟨q2, 2, none⟩ = some (.int .i64 1) ∧ w'.cell? ⟨q2, 3, none⟩ = some (.int .i64 10) ∧ w'.cell? ⟨q2, 4, none⟩ = some (.int .i64 20))) (by kernel_rfl) ?_ (fun hD0 => ?_)
  · (try dsimp only); first | assumption | exact hSof _ (hD0.1.below (zbA (zbR _ _) (Nat.le_refl _) _)) | exact hSof _ (hD0.1.below (zbD (zbA (zbR _ _) (Nat.le_refl _) _))) | exact hSof _ (hD0.1.below (zbD (zbR _ _))) | exact hSof _ ((show ExS W1 q W1 from ⟨World.grownBy.refl _ _, _, HQ.out, rfl⟩).below (zbD (zbR _ _)))
  refine tW ?_ 0 rfl (by kernel_rfl) (fun _ _ _ h => h) (by rfl) (by assumption) ?_ ?_; rotate_left; (focus (intro w hSw; (try dsimp only at hSw); go_simp; try with_reducible rfl)); try simp only [Act.put, zl, z0, z1]
  refine wpAnyH_ready (rs := [1]) (by kernel_rfl) (by simp) ?_; refine consL 1 rfl (fun K hK => ?_) AllReadyH.nil
  (go_simp; go_at_call 41; refine (notice_any _ _ _ _ _ _).mono ?_; rintro e w9 ⟨rfl, hb9⟩; have hSn := hSof _ (hD0.1.below hb9); clear hb9; (try dsimp only at hSn))
  refine hK.out _ _ ?_ (fun hD1 => ?_)
  · (try dsimp only); first | assumption | exact hSof _ (hD0.1.below (zbA (zbR _ _) (Nat.le_refl _) _)) | exact hSof _ (hD0.1.below (zbD (zbA (zbR _ _) (Nat.le_refl _) _))) | exact hSof _ (hD0.1.below (zbD (zbR _ _))) | exact hSof _ ((show ExS W1 q W1 from ⟨World.grownBy.refl _ _, _, HQ.out, rfl⟩).below (zbD (zbR _ _)))
  clear hK K hD0; try simp only [Act.put, zl, z0, z1]
  refine wpAnyH_ready (rs := [2]) (by kernel_rfl) (by simp) ?_; refine consL 2 rfl (fun K hK => ?_) AllReadyH.nil
  (go_simp; go_at_call 41; refine (notice_any _ _ _ _ _ _).mono ?_; rintro e w9 ⟨rfl, hb9⟩; have hSn := hSof _ (hD1.1.below hb9); clear hb9; (try dsimp only at hSn))
  refine hK.out _ _ ?_ (fun hD2 => ?_)
  · (try dsimp only); first | assumption | exact hSof _ (hD1.1.below (zbA (zbR _ _) (Nat.le_refl _) _)) | exact hSof _ (hD1.1.below (zbD (zbA (zbR _ _) (Nat.le_refl _) _))) | exact hSof _ (hD1.1.below (zbD (zbR _ _))) | exact hSof _ ((show ExS W1 q W1 from ⟨World.grownBy.refl _ _, _, HQ.out, rfl⟩).below (zbD (zbR _ _)))
  clear hK K hD1; try simp only [Act.put, zl, z0, z1]
  refine wpAnyH_ready (rs := [3]) (by kernel_rfl) (by simp) ?_; refine consL 3 rfl (fun K hK => ?_) AllReadyH.nil
  (go_simp; go_at_call 41; refine (notice_any _ _ _ _ _ _).mono ?_; rintro e w9 ⟨rfl, hb9⟩; have hSn := hSof _ (hD2.1.below hb9); clear hb9; (try dsimp only at hSn))
  refine hK.out _ _ ?_ (fun hD3 => ?_)
  · (try dsimp only); first | assumption | exact hSof _ (hD2.1.below (zbA (zbR _ _) (Nat.le_refl _) _)) | exact hSof _ (hD2.1.below (zbD (zbA (zbR _ _) (Nat.le_refl _) _))) | exact hSof _ (hD2.1.below (zbD (zbR _ _))) | exact hSof _ ((show ExS W1 q W1 from ⟨World.grownBy.refl _ _, _, HQ.out, rfl⟩).below (zbD (zbR _ _)))
  clear hK K hD2; try simp only [Act.put, zl, z0, z1]
  refine wpAnyH_ready (rs := [4]) (by kernel_rfl) (by simp) ?_; refine consL 4 rfl (fun K hK => ?_) AllReadyH.nil
  (go_simp; go_at_call 41; refine (notice_any _ _ _ _ _ _).mono ?_; rintro e w9 ⟨rfl, hb9⟩; have hSn := hSof _ (hD3.1.below hb9); clear hb9; (try dsimp only at hSn))
  refine hK.out _ _ ?_ (fun hD4 => ?_)
  · (try dsimp only); first | assumption | exact hSof _ (hD3.1.below (zbA (zbR _ _) (Nat.le_refl _) _)) | exact hSof _ (hD3.1.below (zbD (zbA (zbR _ _) (Nat.le_refl _) _))) | exact hSof _ (hD3.1.below (zbD (zbR _ _))) | exact hSof _ ((show ExS W1 q W1 from ⟨World.grownBy.refl _ _, _, HQ.out, rfl⟩).below (zbD (zbR _ _)))
  clear hK K hD3; try simp only [Act.put, zl, z0, z1]
  refine wpAnyH_ready (rs := [5]) (by kernel_rfl) (by simp) ?_; refine consL 5 rfl (fun K hK => ?_) AllReadyH.nil
  (go_simp; go_at_call 41; refine (notice_any _ _ _ _ _ _).mono ?_; rintro e w9 ⟨rfl, hb9⟩; have hSn := hSof _ (hD4.1.below hb9); clear hb9; (try dsimp only at hSn))
  refine hK.out _ _ ?_ (fun hD5 => ?_)
  · (try dsimp only); first | assumption | exact hSof _ (hD4.1.below (zbA (zbR _ _) (Nat.le_refl _) _)) | exact hSof _ (hD4.1.below (zbD (zbA (zbR _ _) (Nat.le_refl _) _))) | exact hSof _ (hD4.1.below (zbD (zbR _ _))) | exact hSof _ ((show ExS W1 q W1 from ⟨World.grownBy.refl _ _, _, HQ.out, rfl⟩).below (zbD (zbR _ _)))
  clear hK K hD4; try simp only [Act.put, zl, z0, z1]
  refine wpAnyH_ready (rs := [6]) (by kernel_rfl) (by simp) ?_; refine consL 6 rfl (fun K hK => ?_) AllReadyH.nil
  (go_simp; go_at_call 41; refine (notice_any _ _ _ _ _ _).mono ?_; rintro e w9 ⟨rfl, hb9⟩; have hSn := hSof _ (hD5.1.below hb9); clear hb9; (try dsimp only at hSn))
  refine hK.out _ _ ?_ (fun hD6 => ?_)
  · (try dsimp only); first | assumption | exact hSof _ (hD5.1.below (zbA (zbR _ _) (Nat.le_refl _) _)) | exact hSof _ (hD5.1.below (zbD (zbA (zbR _ _) (Nat.le_refl _) _))) | exact hSof _ (hD5.1.below (zbD (zbR _ _))) | exact hSof _ ((show ExS W1 q W1 from ⟨World.grownBy.refl _ _, _, HQ.out, rfl⟩).below (zbD (zbR _ _)))
  clear hK K hD5; try simp only [Act.put, zl, z0, z1]
  refine wpAnyH_ready (rs := [7]) (by kernel_rfl) (by simp) ?_; refine consL 7 rfl (fun K hK => ?_) AllReadyH.nil
  (go_simp; go_at_call 41; refine (notice_any _ _ _ _ _ _).mono ?_; rintro e w9 ⟨rfl, hb9⟩; have hSn := hSof _ (hD6.1.below hb9); clear hb9; (try dsimp only at hSn))
  refine hK.out _ _ ?_ (fun hD7 => ?_)
  · (try dsimp only); first | assumption | exact hSof _ (hD6.1.below (zbA (zbR _ _) (Nat.le_refl _) _)) | exact hSof _ (hD6.1.below (zbD (zbA (zbR _ _) (Nat.le_refl _) _))) | exact hSof _ (hD6.1.below (zbD (zbR _ _))) | exact hSof _ ((show ExS W1 q W1 from ⟨World.grownBy.refl _ _, _, HQ.out, rfl⟩).below (zbD (zbR _ _)))
  clear hK K hD6; try simp only [Act.put, zl, z0, z1]
  refine wpAnyH_ready (rs := [8]) (by kernel_rfl) (by simp) ?_; refine consL 8 rfl (fun K hK => ?_) AllReadyH.nil
  (go_simp; go_at_call 41; refine (notice_any _ _ _ _ _ _).mono ?_; rintro e w9 ⟨rfl, hb9⟩; have hSn := hSof _ (hD7.1.below hb9); clear hb9; (try dsimp only at hSn))
  refine hK.out _ _ ?_ (fun hD8 => ?_)
  · (try dsimp only); first | assumption | exact hSof _ (hD7.1.below (zbA (zbR _ _) (Nat.le_refl _) _)) | exact hSof _ (hD7.1.below (zbD (zbA (zbR _ _) (Nat.le_refl _) _))) | exact hSof _ (hD7.1.below (zbD (zbR _ _))) | exact hSof _ ((show ExS W1 q W1 from ⟨World.grownBy.refl _ _, _, HQ.out, rfl⟩).below (zbD (zbR _ _)))
  clear hK K hD7; try simp only [Act.put, zl, z0, z1]
  refine wpAnyH_ready (rs := [9]) (by kernel_rfl) (by simp) ?_; refine consL 9 rfl (fun K hK => ?_) AllReadyH.nil
  (go_simp; go_at_call 41; refine (notice_any _ _ _ _ _ _).mono ?_; rintro e w9 ⟨rfl, hb9⟩; have hSn := hSof _ (hD8.1.below hb9); clear hb9; (try dsimp only at hSn))
  refine hK.out _ _ ?_ (fun hD9 => ?_)
  · (try dsimp only); first | assumption | exact hSof _ (hD8.1.below (zbA (zbR _ _) (Nat.le_refl _) _)) | exact hSof _ (hD8.1.below (zbD (zbA (zbR _ _) (Nat.le_refl _) _))) | exact hSof _ (hD8.1.below (zbD (zbR _ _))) | exact hSof _ ((show ExS W1 q W1 from ⟨World.grownBy.refl _ _, _, HQ.out, rfl⟩).below (zbD (zbR _ _)))
  clear hK K hD8; try simp only [Act.put, zl, z0, z1]
  refine wpAnyH_ready (rs := [10]) (by kernel_rfl) (by simp) ?_; refine consL 10 rfl (fun K hK => ?_) AllReadyH.nil
  (go_simp; go_at_call 41; refine (notice_any _ _ _ _ _ _).mono ?_; rintro e w9 ⟨rfl, hb9⟩; have hSn := hSof _ (hD9.1.below hb9); clear hb9; (try dsimp only at hSn))
  refine hK.out _ _ ?_ (fun hD10 => ?_)
  · (try dsimp only); first | assumption | exact hSof _ (hD9.1.below (zbA (zbR _ _) (Nat.le_refl _) _)) | exact hSof _ (hD9.1.below (zbD (zbA (zbR _ _) (Nat.le_refl _) _))) | exact hSof _ (hD9.1.below (zbD (zbR _ _))) | exact hSof _ ((show ExS W1 q W1 from ⟨World.grownBy.refl _ _, _, HQ.out, rfl⟩).below (zbD (zbR _ _)))
  clear hK K hD9; try simp only [Act.put, zl, z0, z1]
  refine wpAnyH_ready (rs := [11]) (by kernel_rfl) (by simp) ?_; refine consL 11 rfl (fun K hK => ?_) AllReadyH.nil
  (go_simp; go_at_call 41; refine (notice_any _ _ _ _ _ _).mono ?_; rintro e w9 ⟨rfl, hb9⟩; have hSn := hSof _ (hD10.1.below hb9); clear hb9; (try dsimp only at hSn))
  refine hK.out _ _ ?_ (fun hD11 => ?_)
  · (try dsimp only); first | assumption | exact hSof _ (hD10.1.below (zbA (zbR _ _) (Nat.le_refl _) _)) | exact hSof _ (hD10.1.below (zbD (zbA (zbR _ _) (Nat.le_refl _) _))) | exact hSof _ (hD10.1.below (zbD (zbR _ _))) | exact hSof _ ((show ExS W1 q W1 from ⟨World.grownBy.refl _ _, _, HQ.out, rfl⟩).below (zbD (zbR _ _)))
  clear hK K hD10; try simp only [Act.put, zl, z0, z1]
  refine wpAnyH_ready (rs := [12, 13]) (by kernel_rfl) (by simp) ?_; refine consL 12 rfl (fun K hK => ?_) ?_
  (go_simp; (first | refine cap_alloc (K := K) (O := (.cells #[.int .i64 0, .int .i64 1, .int .i64 1, .int .i64 7, .int .i64 50, .int .i64 1, .int .i64 2, .int .i64 1, .int .i64 8, .int .i64 20, .int .i64 2, .int .i64 3, .int .i64 2, .int .i64 9, .int .i64 10, .int .i64 3, .int .i64 4, .int .i64 2, .int .i64 6, .int .i64 30, .int .i64 4, .int .i64 5, .int .i64 1, .int .i64 5, .int .i64 70, .int .i64 5, .int .i64 6, .int .i64 1, .int .i64 4, .int .i64 0, .int .i64 6, .int .i64 11, .int .i64 1, .int .i64 3, .int .i64 1, .int .i64 7, .int .i64 12, .int .i64 3, .int .i64 7, .int .i64 0, .int .i64 8, .int .i64 15, .int .i64 4, .int .i64 8, .int .i64 0, .int .i64 9, .int .i64 21, .int .i64 5, .int .i64 4, .int .i64 0, .int .i64 10, .int .i64 22, .int .i64 4, .int .i64 5, .int .i64 0] 40 (0, 0))) (fun hG hb hle => ?_) | refine cap_allocD (K := K) (O := (.cells #[.int .i64 0, .int .i64 1, .int .i64 1, .int .i64 7, .int .i64 50, .int .i64 1, .int .i64 2, .int .i64 1, .int .i64 8, .int .i64 20, .int .i64 2, .int .i64 3, .int .i64 2, .int .i64 9, .int .i64 10, .int .i64 3, .int .i64 4, .int .i64 2, .int .i64 6, .int .i64 30, .int .i64 4, .int .i64 5, .int .i64 1, .int .i64 5, .int .i64 70, .int .i64 5, .int .i64 6, .int .i64 1, .int .i64 4, .int .i64 0, .int .i64 6, .int .i64 11, .int .i64 1, .int .i64 3, .int .i64 1, .int .i64 7, .int .i64 12, .int .i64 3, .int .i64 7, .int .i64 0, .int .i64 8, .int .i64 15, .int .i64 4, .int .i64 8, .int .i64 0, .int .i64 9, .int .i64 21, .int .i64 5, .int .i64 4, .int .i64 0, .int .i64 10, .int .i64 22, .int .i64 4, .int .i64 5, .int .i64 0] 40 (0, 0))) (fun hG hb hle => ?_)); (try replace HR := hide ((hb.block _ (blk_lt HR.out)).trans HR.out)); (try simp only [World.size_alloc, drew_size] at hG); have HSL := hide hG; clear hG hle hb)
  refine hK.out _ _ ?_ (fun hD12 => ?_)
  · (try dsimp only); first | assumption | exact hSof _ (hD11.1.below (zbA (zbR _ _) (Nat.le_refl _) _)) | exact hSof _ (hD11.1.below (zbD (zbA (zbR _ _) (Nat.le_refl _) _))) | exact hSof _ (hD11.1.below (zbD (zbR _ _))) | exact hSof _ ((show ExS W1 q W1 from ⟨World.grownBy.refl _ _, _, HQ.out, rfl⟩).below (zbD (zbR _ _)))
  clear hK K hD11; try simp only [Act.put, zl, z0, z1]
  refine wpAnyH_ready (rs := [13]) (by kernel_rfl) (by simp) ?_; refine consL 13 rfl (fun K hK => ?_) AllReadyH.nil
  (have hx9 := hD12.1.2; obtain ⟨old9, ho9⟩ := hx9; refine step_row rfl 23 (.tmp 0) (.tmp 4) rfl _ _ rfl rfl 23 _ ho9.1 fldRow ho9.2 (by simp [Value.oneCell']) ?_; refine cap_row2 ho9.1 (fun W9 hqr hgr hbr => ?_); (try replace HSL := hide ((hgr.block _ (blk_lt HSL.out) (fun e => ne_types HSL.out ho9.1 (by decide) (Option.some.inj e))).trans HSL.out)); have hSn := hSof _ (hD12.1.row hqr hgr rfl); have HR := hide hqr; clear hqr hgr hbr ho9; (try dsimp only at hSn))
  refine hK.out _ _ ?_ (fun hD13 => ?_)
  · (try dsimp only); first | assumption | exact hSof _ (hD12.1.below (zbA (zbR _ _) (Nat.le_refl _) _)) | exact hSof _ (hD12.1.below (zbD (zbA (zbR _ _) (Nat.le_refl _) _))) | exact hSof _ (hD12.1.below (zbD (zbR _ _))) | exact hSof _ ((show ExS W1 q W1 from ⟨World.grownBy.refl _ _, _, HQ.out, rfl⟩).below (zbD (zbR _ _)))
  clear hK K hD12; try simp only [Act.put, zl, z0, z1]
  refine tW ?_ 14 rfl (by kernel_rfl) (fun _ _ _ h => h) (by rfl) (by assumption) ?_ ?_; rotate_left; (focus (intro w hSw; (try dsimp only at hSw); go_simp; try with_reducible rfl)); try simp only [Act.put, zl, z0, z1]
  refine wpAnyH_done (by kernel_rfl) ?_ _
  rotate_left 1
  refine consL 13 rfl (fun K hK => ?_) AllReadyH.nil
  (have hx9 := hD11.1.2; obtain ⟨old9, ho9⟩ := hx9; refine step_row rfl 23 (.tmp 0) (.tmp 4) rfl _ _ rfl rfl 23 _ ho9.1 fldRow ho9.2 (by simp [Value.oneCell']) ?_; refine cap_row2 ho9.1 (fun W9 hqr hgr hbr => ?_); (try replace HSL := hide ((hgr.block _ (blk_lt HSL.out) (fun e => ne_types HSL.out ho9.1 (by decide) (Option.some.inj e))).trans HSL.out)); have hSn := hSof _ (hD11.1.row hqr hgr rfl); have HR := hide hqr; clear hqr hgr hbr ho9; (try dsimp only at hSn))
  refine hK.out _ _ ?_ (fun hD12 => ?_)
  · (try dsimp only); first | assumption | exact hSof _ (hD11.1.below (zbA (zbR _ _) (Nat.le_refl _) _)) | exact hSof _ (hD11.1.below (zbD (zbA (zbR _ _) (Nat.le_refl _) _))) | exact hSof _ (hD11.1.below (zbD (zbR _ _))) | exact hSof _ ((show ExS W1 q W1 from ⟨World.grownBy.refl _ _, _, HQ.out, rfl⟩).below (zbD (zbR _ _)))
  clear hK K hD11; try simp only [Act.put, zl, z0, z1]
  refine wpAnyH_ready (rs := [12]) (by kernel_rfl) (by simp) ?_; refine consL 12 rfl (fun K hK => ?_) AllReadyH.nil
  (go_simp; (first | refine cap_alloc (K := K) (O := (.cells #[.int .i64 0, .int .i64 1, .int .i64 1, .int .i64 7, .int .i64 50, .int .i64 1, .int .i64 2, .int .i64 1, .int .i64 8, .int .i64 20, .int .i64 2, .int .i64 3, .int .i64 2, .int .i64 9, .int .i64 10, .int .i64 3, .int .i64 4, .int .i64 2, .int .i64 6, .int .i64 30, .int .i64 4, .int .i64 5, .int .i64 1, .int .i64 5, .int .i64 70, .int .i64 5, .int .i64 6, .int .i64 1, .int .i64 4, .int .i64 0, .int .i64 6, .int .i64 11, .int .i64 1, .int .i64 3, .int .i64 1, .int .i64 7, .int .i64 12, .int .i64 3, .int .i64 7, .int .i64 0, .int .i64 8, .int .i64 15, .int .i64 4, .int .i64 8, .int .i64 0, .int .i64 9, .int .i64 21, .int .i64 5, .int .i64 4, .int .i64 0, .int .i64 10, .int .i64 22, .int .i64 4, .int .i64 5, .int .i64 0] 40 (0, 0))) (fun hG hb hle => ?_) | refine cap_allocD (K := K) (O := (.cells #[.int .i64 0, .int .i64 1, .int .i64 1, .int .i64 7, .int .i64 50, .int .i64 1, .int .i64 2, .int .i64 1, .int .i64 8, .int .i64 20, .int .i64 2, .int .i64 3, .int .i64 2, .int .i64 9, .int .i64 10, .int .i64 3, .int .i64 4, .int .i64 2, .int .i64 6, .int .i64 30, .int .i64 4, .int .i64 5, .int .i64 1, .int .i64 5, .int .i64 70, .int .i64 5, .int .i64 6, .int .i64 1, .int .i64 4, .int .i64 0, .int .i64 6, .int .i64 11, .int .i64 1, .int .i64 3, .int .i64 1, .int .i64 7, .int .i64 12, .int .i64 3, .int .i64 7, .int .i64 0, .int .i64 8, .int .i64 15, .int .i64 4, .int .i64 8, .int .i64 0, .int .i64 9, .int .i64 21, .int .i64 5, .int .i64 4, .int .i64 0, .int .i64 10, .int .i64 22, .int .i64 4, .int .i64 5, .int .i64 0] 40 (0, 0))) (fun hG hb hle => ?_)); (try replace HR := hide ((hb.block _ (blk_lt HR.out)).trans HR.out)); (try simp only [World.size_alloc, drew_size] at hG); have HSL := hide hG; clear hG hle hb)
  refine hK.out _ _ ?_ (fun hD13 => ?_)
  · (try dsimp only); first | assumption | exact hSof _ (hD12.1.below (zbA (zbR _ _) (Nat.le_refl _) _)) | exact hSof _ (hD12.1.below (zbD (zbA (zbR _ _) (Nat.le_refl _) _))) | exact hSof _ (hD12.1.below (zbD (zbR _ _))) | exact hSof _ ((show ExS W1 q W1 from ⟨World.grownBy.refl _ _, _, HQ.out, rfl⟩).below (zbD (zbR _ _)))
  clear hK K hD12; try simp only [Act.put, zl, z0, z1]
  refine tW ?_ 14 rfl (by kernel_rfl) (fun _ _ _ h => h) (by rfl) (by assumption) ?_ ?_; rotate_left; (focus (intro w hSw; (try dsimp only at hSw); go_simp; try with_reducible rfl)); try simp only [Act.put, zl, z0, z1]
  refine wpAnyH_done (by kernel_rfl) ?_ _
  all_goals
    (try dsimp only [Act.put, List.getElem_toArray, List.getElem_cons_succ, List.getElem_cons_zero])
    (try simp only [zl, z0, z1])
  all_goals
    have r0 := (blk_cell HR.out 0).trans (rfl : _ = some (Value.int .i64 3))
    have r1 := (blk_cell HR.out 1).trans (rfl : _ = some (Value.int .i64 1))
    have r2 := (blk_cell HR.out 2).trans (rfl : _ = some (Value.int .i64 1))
    have r3 := (blk_cell HR.out 3).trans (rfl : _ = some (Value.int .i64 10))
    have r4 := (blk_cell HR.out 4).trans (rfl : _ = some (Value.int .i64 20))
    have hx := hD13.1
    clear hD13 hS hSof
  · go_wp2_with fail
    exact bodyPost_ret (v := .tuple #[.agg #[.int .i64 3, .int .i64 1, .int .i64 1, .int .i64 10, .int .i64 20], .slice (some ⟨W9.heap.size, 0, none⟩) 11 11]) (by simp [results, Try.results26, go_sem, r0, r1, r2, r3, r4]) rfl ⟨_, rfl, rdN_block HSL.out rfl, HB1.out.trans (grown_below hx.1 HB1.out.size (fun g e => by have h1 := Option.some.inj e; have h2 := HQE.out; omega))⟩
  · go_wp2_with fail
    exact bodyPost_ret (v := .tuple #[.agg #[.int .i64 3, .int .i64 1, .int .i64 1, .int .i64 10, .int .i64 20], .slice (some ⟨w9.heap.size, 0, none⟩) 11 11]) (by simp [results, Try.results26, go_sem, r0, r1, r2, r3, r4]) rfl ⟨_, rfl, rdN_block HSL.out rfl, HB1.out.trans (grown_below hx.1 HB1.out.size (fun g e => by have h1 := Option.some.inj e; have h2 := HQE.out; omega))⟩

end Go.Proofs.Ytobjahlmjcnfoaa

namespace Go.Proofs.Ytobjahlmjcnfoaa
namespace E

def insI (le : Int → Int → Bool) (x : Int) : List Int → List Int
  | [] => [x]
  | y :: r => if le x y then x :: y :: r else y :: insI le x r
def isort (le : Int → Int → Bool) : List Int → List Int
  | [] => []
  | x :: r => insI le x (isort le r)
theorem insI_perm (le : Int → Int → Bool) (x : Int) : ∀ l, (insI le x l).Perm (x :: l)
  | [] => List.Perm.refl _
  | y :: r => by
    unfold insI
    split
    · exact List.Perm.refl _
    · exact ((insI_perm le x r).cons y).trans (List.Perm.swap x y r)
theorem isort_perm (le : Int → Int → Bool) : ∀ l, (isort le l).Perm l
  | [] => List.Perm.refl _
  | x :: r => (insI_perm le x _).trans ((isort_perm le r).cons x)
theorem insI_sorted {le : Int → Int → Bool} (ht : ∀ a b c, le a b = true → le b c = true → le a c = true) (hl : ∀ a b, (le a b || le b a) = true) (x : Int) : ∀ l, l.Pairwise (fun a b => le a b = true) → (insI le x l).Pairwise (fun a b => le a b = true)
  | [], _ => by simp [insI]
  | y :: r, h => by
    obtain ⟨h1, h2⟩ := List.pairwise_cons.1 h
    unfold insI
    split
    · rename_i hxy
      refine List.pairwise_cons.2 ⟨fun z hz => ?_, h⟩
      rcases List.mem_cons.1 hz with e | e
      · exact e ▸ hxy
      · exact ht _ _ _ hxy (h1 z e)
    · rename_i hxy
      refine List.pairwise_cons.2 ⟨fun z hz => ?_, insI_sorted ht hl x r h2⟩
      rcases List.mem_cons.1 ((insI_perm le x r).mem_iff.1 hz) with e | e
      · subst e
        have := hl z y
        rw [Bool.or_eq_true] at this
        exact this.resolve_left hxy
      · exact h1 z e
theorem isort_sorted {le : Int → Int → Bool} (ht : ∀ a b c, le a b = true → le b c = true → le a c = true) (hl : ∀ a b, (le a b || le b a) = true) : ∀ l, (isort le l).Pairwise (fun a b => le a b = true)
  | [] => List.Pairwise.nil
  | x :: r => insI_sorted ht hl x _ (isort_sorted ht hl r)

def St.orderI (s : St) : List Int := isort s.leP (s.known.filter (fun k => (s.pl k).entry))
def St.altsI (s : St) : List Int := s.orderI.filter (fun k => !s.main.contains k)
def St.settleI (s : St) (lt : Bool) : St :=
  let m := s.main.filter (fun k => lt && (s.pl k).entry)
  { s with main := St.fill s lt ({ s with main := m }.altsI) m (s.guardsOf m) }
def St.takeI (s : St) (x : Nt) : St := (s.said x).settleI (late s.f x.hour)
def St.whereI (s : St) (k : Int) : Int × Int :=
  if 0 ≤ idx s.main k then (1, idx s.main k + 1) else if 0 ≤ idx s.cards k then (2, idx s.cards k + 1) else if 0 ≤ idx s.altsI k then (3, idx s.altsI k + 1) else (0, 0)
def St.needsI (h k : Int) : Nat → Int → St → Option Int
  | 0, _, _ => none
  | n + 1, q, s => if s.main.contains k then some q else if s.main = [] then none else St.needsI h k n (q + 1) (s.takeI ⟨0, h, 4, s.quitter k, 0⟩)
def St.whenI (k : Int) : St → List Nt → Option Int
  | _, [] => none
  | s, x :: r => if moreB x r = false ∧ (((s.takeI x).whereI k).1 = 1 ∨ ((s.takeI x).whereI k).1 = 2) then some x.hour else St.whenI k (s.takeI x) r

theorem orderI_eq {s : St} (h : StOk s) : s.orderI = s.order := by
  refine order_eq h (isort_perm _ _) ?_
  refine List.Pairwise.imp (fun {a b} hab => ?_) (isort_sorted (leP_trans s) (leP_total s) _)
  unfold St.leP at hab
  exact of_decide_eq_true hab
theorem altsI_eq {s : St} (h : StOk s) : s.altsI = s.alts := by
  unfold St.altsI St.alts
  rw [orderI_eq h]
theorem settleI_eq {s : St} (h : StOk s) (lt : Bool) : s.settleI lt = s.settle lt := by
  have h2 : StOk { s with main := s.main.filter (fun k => lt && (s.pl k).entry) } := ⟨h.known, h.range, h.zero, h.turn, h.apart, fun k hk => h.main k (List.mem_filter.1 hk).1, h.cards⟩
  unfold St.settleI St.settle
  dsimp only
  rw [altsI_eq h2]
theorem takeI_eq {s : St} (h : StOk s) (x : Nt) (h0 : 0 ≤ x.player ∧ x.player ≤ 999) (hT : 0 ≤ s.turns) : s.takeI x = s.take x := settleI_eq (said_ok h x h0 hT).1 _
theorem foldI_eq : ∀ (l : List Nt) (s : St), StOk s → 0 ≤ s.turns → (∀ x ∈ l, 0 ≤ x.player ∧ x.player ≤ 999) → l.foldl St.takeI s = l.foldl St.take s
  | [], _, _, _, _ => rfl
  | x :: r, s, h, hT, hp => by
    have h1 := hp x (List.mem_cons_self ..)
    rw [List.foldl_cons, List.foldl_cons, takeI_eq h x h1 hT]
    exact foldI_eq r _ (take_ok h x h1 hT).1 (take_ok h x h1 hT).2 (fun z hz => hp z (List.mem_cons_of_mem _ hz))
theorem fold_ok : ∀ (l : List Nt) (s : St), StOk s → 0 ≤ s.turns → (∀ x ∈ l, 0 ≤ x.player ∧ x.player ≤ 999) → StOk (l.foldl St.take s) ∧ 0 ≤ (l.foldl St.take s).turns
  | [], _, h, hT, _ => ⟨h, hT⟩
  | x :: r, s, h, hT, hp => by
    have h1 := hp x (List.mem_cons_self ..)
    exact fold_ok r _ (take_ok h x h1 hT).1 (take_ok h x h1 hT).2 (fun z hz => hp z (List.mem_cons_of_mem _ hz))
def atI (f : Fd) (h : Int) (l : List Nt) : St := (l.filter (fun x => decide (x.hour ≤ h))).foldl St.takeI (St.new f)
theorem atI_eq (f : Fd) (h : Int) {l : List Nt} (hp : ∀ x ∈ l, 0 ≤ x.player ∧ x.player ≤ 999) : atI f h l = atL f h l := foldI_eq _ _ (new_ok f) (by simp [St.new]) (fun x hx => hp x (List.mem_filter.1 hx).1)
theorem atL_ok (f : Fd) (h : Int) {l : List Nt} (hp : ∀ x ∈ l, 0 ≤ x.player ∧ x.player ≤ 999) : StOk (atL f h l) ∧ 0 ≤ (atL f h l).turns := fold_ok _ _ (new_ok f) (by simp [St.new]) (fun x hx => hp x (List.mem_filter.1 hx).1)
theorem whereI_eq {s : St} (h : StOk s) (k : Int) : s.whereI k = s.where_ k := by
  unfold St.whereI St.where_
  rw [altsI_eq h]
theorem needsI_eq (h k : Int) : ∀ (n : Nat) (q : Int) (s : St), StOk s → 0 ≤ s.turns → St.needsI h k n q s = St.needs h k n q s
  | 0, _, _, _, _ => by rw [St.needsI, St.needs]
  | n + 1, q, s, ho, hT => by
    rw [St.needsI, St.needs]
    split
    · rfl
    · split
      · rfl
      · rename_i hne
        have hr := ho.range _ (ho.main _ (quitter_mem s k hne))
        rw [takeI_eq ho _ hr hT]
        exact needsI_eq h k n _ _ (take_ok ho _ hr hT).1 (take_ok ho _ hr hT).2
theorem whenI_eq (k : Int) : ∀ (l : List Nt) (s : St), StOk s → 0 ≤ s.turns → (∀ x ∈ l, 0 ≤ x.player ∧ x.player ≤ 999) → St.whenI k s l = St.when k s l
  | [], _, _, _, _ => rfl
  | x :: r, s, h, hT, hp => by
    have h1 := hp x (List.mem_cons_self ..)
    have h2 := take_ok h x h1 hT
    rw [St.whenI, when_step, takeI_eq h x h1 hT, whereI_eq h2.1, whenI_eq k r _ h2.1 h2.2 (fun z hz => hp z (List.mem_cons_of_mem _ hz))]

theorem ex_players : ∀ x ∈ exL, 0 ≤ x.player ∧ x.player ≤ 999 := by decide +kernel
theorem ex_sorted : exL.Pairwise (fun x y => leN x y = true) := by
  have : ∀ l : List Nt, (l.Pairwise (fun x y => leN x y = true)) → l.Pairwise (fun x y => leN x y = true) := fun _ h => h
  decide +kernel
theorem ex_diffs : diffs exL = some exL := by
  have h : diff [] exL = some exL := by decide +kernel
  unfold diffs
  rw [if_neg (by decide), h]
  show some (exL.mergeSort leN) = some exL
  rw [List.mergeSort_of_pairwise ex_sorted]
theorem ex_main : (atL exF 12 exL).main = [9, 8, 5] := by rw [← atI_eq exF 12 ex_players]; decide +kernel
theorem ex_cards : (atL exF 12 exL).cards = [7] := by rw [← atI_eq exF 12 ex_players]; decide +kernel
theorem ex_alts : (atL exF 12 exL).alts = [6, 4] := by rw [← altsI_eq (atL_ok exF 12 ex_players).1, ← atI_eq exF 12 ex_players]; decide +kernel
theorem ex_needs : St.needs 10 4 61 0 (atL exF 10 exL) = some 2 := by
  have h := atL_ok exF 10 ex_players
  rw [← needsI_eq _ _ _ _ _ h.1 h.2, ← atI_eq exF 10 ex_players]; decide +kernel
theorem ex_when : St.when 4 (St.new exF) exL = some 15 := by
  rw [← whenI_eq 4 exL (St.new exF) (new_ok exF) (by simp [St.new]) ex_players]; decide +kernel
theorem ex_err (h p : Int) (hh : 0 ≤ h ∧ h ≤ 9999) (hp : 0 ≤ p ∧ p ≤ 999) : errE exF exL h p = 0 := by
  have hc : checkE exF exL = 0 := by
    unfold checkE
    rw [ex_diffs]
    decide +kernel
  unfold errE
  rw [if_neg (by rw [hc]; simp), if_pos ⟨by unfold within; simp [hh.1, hh.2], by unfold within; simp [hp.1, hp.2]⟩]
theorem ex_wf : ∀ x ∈ exL, (Lit.int .i64 x.id).wf = true := by decide +kernel
end E
end Go.Proofs.Ytobjahlmjcnfoaa

namespace Go.Proofs.Ytobjahlmjcnfoaa
open Go.RowKit
attribute [local go_sem ↓] Go.wp_at_zero Go.wp_at_succ

set_option maxHeartbeats 4000000 in
theorem sameInts_eq (A1 A2 : Option Addr) (n c1 c2 : Nat) (xs : List Int) (w : World) (hn : xs.length = n) (hr1 : RdI w w.heap.size A1 xs) (hr2 : RdI w w.heap.size A2 xs) (hm : n ≤ 1000000) :
    Calls Try.prog 27 #[.slice A1 n c1, .slice A2 n c2] w fun e w' => e = .returned (.bool true) ∧ Below w.heap.size w w' := by
  have HN := hide hn
  have HR1 := hide hr1
  have HR2 := hide hr2
  clear hn hr1 hr2
  go_enter Try.func27, Try.ntmps27
  go_wp2_with fail
  go_loopw [5] (fun i wr => ∃ k : Nat, k ≤ n ∧ i = .int .i64 k ∧ Below w.heap.size w wr) (fun i _ => n - (intOf i).toNat)
  case atStart => exact ⟨0, by omega, rfl, by (repeat' first | exact zbR _ _ | assumption | refine zbD ?_ | refine zbA ?_ ?_ _ | refine zbS ?_ ?_ _ | refine zbT ?_ (by assumption) ?_ | (simp; done) | (simp; omega) | omega)⟩
  case round =>
    obtain ⟨k, hk, rfl, hB⟩ := hrel
    by_cases hlt : k < n
    · obtain ⟨p, hp'⟩ : ∃ q, xs[k]? = some q := ⟨_, List.getElem?_eq_getElem (by have := HN.out; omega)⟩
      obtain ⟨b, o, hA, hbB, c0⟩ := (HR1.out.below hB) k p hp'
      obtain ⟨b2, o2, hA2, hbB2, d0⟩ := (HR2.out.below hB) k p hp'
      subst hA hA2
      clear hp'
      have hlt' : (k : Int) < (n : Int) := by omega
      have hk0 : (0 : Int) ≤ (k : Int) := by omega
      go_wp2_with fail
      go_quiet (fail)
      go_wp2_with fail
      go_roundw
      case rel => exact ⟨k + 1, by omega, by go_num, below_drewN hB _⟩
      case measure => simp [intOf]; omega
    · have hkn : k = n := by omega
      subst hkn
      go_wp2_with fail
      go_ret
      exact ⟨rfl, hB⟩

theorem same1 (A : Option Addr) (c : Nat) (x : Int) (W : World) (q : Nat) (hq : W.heap[q]? = some (.cells #[.int .i64 x] 3 (0, 0))) (hr : RdI W W.heap.size A [x]) :
    Calls Try.prog 27 #[.slice A 1 c, .slice (some ⟨q, 0, none⟩) 1 1] W fun e w' => e = .returned (.bool true) ∧ Below W.heap.size W w' :=
  sameInts_eq A (some ⟨q, 0, none⟩) 1 c 1 [x] W rfl hr (rdI_one hq) (by omega)
theorem same2 (A : Option Addr) (c : Nat) (x y : Int) (W : World) (q : Nat) (hq : W.heap[q]? = some (.cells #[.int .i64 x, .int .i64 y] 3 (0, 0))) (hr : RdI W W.heap.size A [x, y]) :
    Calls Try.prog 27 #[.slice A 2 c, .slice (some ⟨q, 0, none⟩) 2 2] W fun e w' => e = .returned (.bool true) ∧ Below W.heap.size W w' :=
  sameInts_eq A (some ⟨q, 0, none⟩) 2 c 2 [x, y] W rfl hr (rdI_two hq) (by omega)
theorem same3 (A : Option Addr) (c : Nat) (x y z : Int) (W : World) (q : Nat) (hq : W.heap[q]? = some (.cells #[.int .i64 x, .int .i64 y, .int .i64 z] 3 (0, 0))) (hr : RdI W W.heap.size A [x, y, z]) :
    Calls Try.prog 27 #[.slice A 3 c, .slice (some ⟨q, 0, none⟩) 3 3] W fun e w' => e = .returned (.bool true) ∧ Below W.heap.size W w' :=
  sameInts_eq A (some ⟨q, 0, none⟩) 3 c 3 [x, y, z] W rfl hr (rdI_three hq) (by omega)
theorem list_ex (A : Option Addr) (w : World) (hr : RdN w w.heap.size A E.exL) :
    Calls Try.prog 14 #[.agg #[.int .i64 3, .int .i64 1, .int .i64 1, .int .i64 10, .int .i64 20], .slice A 11 11, .int .i64 12] w fun e w' => ∃ A1 c1 A2 c2 A3 c3 P, e = .returned (.tuple #[.agg #[.slice A1 3 c1, .slice A2 1 c2, .slice A3 2 c3, .int .i64 P], .int .i64 0]) ∧ RdI w' w'.heap.size A1 [9, 8, 5] ∧ RdI w' w'.heap.size A2 [7] ∧ RdI w' w'.heap.size A3 [6, 4] ∧ Below w.heap.size w w' := by
  refine (List_any E.exF A 11 11 E.exL 12 w rfl hr E.ex_wf (by omega)).mono ?_
  rintro e w' ⟨(⟨h0, _⟩ | ⟨_, d, A1, c1, A2, c2, A3, c3, hd, rfl, h1, h2, h3⟩), hb⟩
  · exact absurd (E.ex_err 12 0 (by omega) (by omega)) h0
  · have e0 : d = E.exL := by rw [E.ex_diffs] at hd; exact (Option.some.inj hd).symm
    subst e0
    rw [show E.atL E.exF 12 E.exL = E.atL E.exF 12 E.exL from rfl] at h1
    have r1 := owns_RdI h1 rfl
    have r2 := owns_RdI h2 rfl
    have r3 := owns_RdI h3 rfl
    rw [E.ex_main] at r1
    rw [E.ex_cards] at r2
    rw [E.ex_alts] at r3
    exact ⟨A1, c1, A2, c2, A3, c3, _, by rw [E.ex_main, E.ex_cards, E.ex_alts]; rfl, r1, r2, r3, hb⟩
theorem needs_ex (A : Option Addr) (w : World) (hr : RdN w w.heap.size A E.exL) :
    Calls Try.prog 23 #[.agg #[.int .i64 3, .int .i64 1, .int .i64 1, .int .i64 10, .int .i64 20], .slice A 11 11, .int .i64 10, .int .i64 4] w fun e w' => e = .returned (.tuple #[.int .i64 2, .int .i64 0]) ∧ Below w.heap.size w w' := by
  refine (Needs_any E.exF A 11 11 E.exL 10 4 w rfl hr E.ex_wf (by omega)).mono ?_
  rintro e w' ⟨rfl, hb⟩
  refine ⟨?_, hb⟩
  unfold NeedsPost needsV
  rw [if_pos (E.ex_err 10 4 (by omega) (by omega)), E.ex_diffs]
  dsimp only
  rw [E.ex_needs]
theorem when_ex (A : Option Addr) (w : World) (hr : RdN w w.heap.size A E.exL) :
    Calls Try.prog 25 #[.agg #[.int .i64 3, .int .i64 1, .int .i64 1, .int .i64 10, .int .i64 20], .slice A 11 11, .int .i64 4] w fun e w' => e = .returned (.tuple #[.int .i64 15, .int .i64 0]) ∧ Below w.heap.size w w' := by
  refine (When_any E.exF A 11 11 E.exL 4 w rfl hr E.ex_wf (by omega)).mono ?_
  rintro e w' ⟨rfl, hb⟩
  refine ⟨?_, hb⟩
  unfold WhenPost whenV
  rw [if_pos (E.ex_err 0 4 (by omega) (by omega)), E.ex_diffs]
  dsimp only
  rw [E.ex_when]

set_option maxHeartbeats 6400000 in
set_option maxRecDepth 100000 in
theorem works_any (w : World) : Calls Try.prog 11 #[] w fun e w' => e = .returned (.bool true) ∧ Below w.heap.size w w' := by
  go_enter Try.func11, Try.ntmps11
  go_wp2_with (first
    | (go_at_call 26; refine (Example_any _).mono ?_; rintro e w1 ⟨A, rfl, hr1, hb1⟩; have HR1 := hide hr1; have HB1 := hide hb1; clear hr1 hb1)
    | (go_at_call 14; refine (list_ex A _ ((HR1.out.below (by (repeat' first | exact zbR _ _ | assumption | refine zbD ?_ | refine zbA ?_ ?_ _ | refine zbS ?_ ?_ _ | refine zbT ?_ (by assumption) ?_ | (simp; done) | (simp; omega) | omega))).mono (by simp))).mono ?_; rintro e w2 ⟨A1, c1, A2, c2, A3, c3, P, rfl, hl1, hl2, hl3, hb2⟩; have HL1 := hide hl1; have HL2 := hide hl2; have HL3 := hide hl3; have HB2 := hide (zbT (show Below w1.heap.size w1 _ by (repeat' first | exact zbR _ _ | assumption | refine zbD ?_ | refine zbA ?_ ?_ _ | refine zbS ?_ ?_ _ | refine zbT ?_ (by assumption) ?_ | (simp; done) | (simp; omega) | omega)) hb2 (by simp)); have HF2 := hide ((hb2.block w1.heap.size (by simp)).trans (World.alloc_heap_new _ _)); have f0 : w2.cell? ⟨w1.heap.size, 0, none⟩ = some (.int .i64 3) := (blk_cell HF2.out 0).trans rfl; have f1 : w2.cell? ⟨w1.heap.size, 1, none⟩ = some (.int .i64 1) := (blk_cell HF2.out 1).trans rfl; have f2 : w2.cell? ⟨w1.heap.size, 2, none⟩ = some (.int .i64 1) := (blk_cell HF2.out 2).trans rfl; have f3 : w2.cell? ⟨w1.heap.size, 3, none⟩ = some (.int .i64 10) := (blk_cell HF2.out 3).trans rfl; have f4 : w2.cell? ⟨w1.heap.size, 4, none⟩ = some (.int .i64 20) := (blk_cell HF2.out 4).trans rfl; have l2 := blk_lt HF2.out; clear hl1 hl2 hl3 hb2)
    | (go_at_call 23; refine (needs_ex A _ (((HR1.out.below HB2.out).below (show Below w1.heap.size w2 _ by have := HB2.out.size; (repeat' first | exact zbR _ _ | assumption | refine zbD ?_ | refine zbA ?_ ?_ _ | refine zbS ?_ ?_ _ | refine zbT ?_ (by assumption) ?_ | (simp; done) | (simp; omega) | omega))).mono (by have := HB2.out.size; simp; omega))).mono ?_; rintro e w3 ⟨rfl, hb3⟩; have HB23 := hide (zbT (show Below w2.heap.size w2 _ by (repeat' first | exact zbR _ _ | assumption | refine zbD ?_ | refine zbA ?_ ?_ _ | refine zbS ?_ ?_ _ | refine zbT ?_ (by assumption) ?_ | (simp; done) | (simp; omega) | omega)) hb3 (by simp)); have HE3 := hide ((hb3.block w2.heap.size (by simp)).trans (World.alloc_heap_new w2 (.cells #[.slice A1 3 c1, .slice A2 1 c2, .slice A3 2 c3, .int .i64 P] 33))); have HF3 := hide ((HB23.out.block w1.heap.size (blk_lt HF2.out)).trans HF2.out); have g0 : w3.cell? ⟨w1.heap.size, 0, none⟩ = some (.int .i64 3) := (blk_cell HF3.out 0).trans rfl; have g1 : w3.cell? ⟨w1.heap.size, 1, none⟩ = some (.int .i64 1) := (blk_cell HF3.out 1).trans rfl; have g2 : w3.cell? ⟨w1.heap.size, 2, none⟩ = some (.int .i64 1) := (blk_cell HF3.out 2).trans rfl; have g3 : w3.cell? ⟨w1.heap.size, 3, none⟩ = some (.int .i64 10) := (blk_cell HF3.out 3).trans rfl; have g4 : w3.cell? ⟨w1.heap.size, 4, none⟩ = some (.int .i64 20) := (blk_cell HF3.out 4).trans rfl; have l3 := blk_lt HF3.out; clear hb3)
    | (go_at_call 25; refine (when_ex A _ (((HR1.out.below HB2.out).below (HB23.out.mono HB2.out.size)).mono (Nat.le_trans HB2.out.size HB23.out.size))).mono ?_; rintro e w4 ⟨rfl, hb4⟩; have HB24 := hide (zbT HB23.out hb4 HB23.out.size); have HE4 := hide ((hb4.block w2.heap.size (blk_lt HE3.out)).trans HE3.out); have e0 : w4.cell? ⟨w2.heap.size, 0, none⟩ = some (.slice A1 3 c1) := (blk_cell HE4.out 0).trans rfl; have l4 := blk_lt HE4.out; clear hb4)
    | (go_at_call 27; with_reducible refine (same3 A1 c1 9 8 5 _ _ (World.alloc_heap_new _ _) ?hr).mono ?_; (case hr => exact ((HL1.out.below HB24.out).below (show Below w2.heap.size w4 _ by have := HB24.out.size; (repeat' first | exact zbR _ _ | assumption | refine zbD ?_ | refine zbA ?_ ?_ _ | refine zbS ?_ ?_ _ | refine zbT ?_ (by assumption) ?_ | (simp; done) | (simp; omega) | omega))).mono (by have := HB24.out.size; simp; omega)); rintro e w5 ⟨rfl, hb9⟩; have HB25 := hide (zbT (HB24.out.trans (show Below w2.heap.size w4 _ by have := HB24.out.size; (repeat' first | exact zbR _ _ | assumption | refine zbD ?_ | refine zbA ?_ ?_ _ | refine zbS ?_ ?_ _ | refine zbT ?_ (by assumption) ?_ | (simp; done) | (simp; omega) | omega))) hb9 (by have := HB24.out.size; simp; omega)); have HE5 := hide ((hb9.block w2.heap.size (by have := blk_lt HE4.out; simp; omega)).trans ((Below.heap_alloc _ _ _ (blk_lt HE4.out)).trans HE4.out)); have e1 : w5.cell? ⟨w2.heap.size, 1, none⟩ = some (.slice A2 1 c2) := (blk_cell HE5.out 1).trans rfl; have l5 := blk_lt HE5.out; clear hb9)
    | (go_at_call 27; with_reducible refine (same1 A2 c2 7 _ _ (World.alloc_heap_new _ _) ?hr).mono ?_; (case hr => exact ((HL2.out.below HB25.out).below (show Below w2.heap.size w5 _ by have := HB25.out.size; (repeat' first | exact zbR _ _ | assumption | refine zbD ?_ | refine zbA ?_ ?_ _ | refine zbS ?_ ?_ _ | refine zbT ?_ (by assumption) ?_ | (simp; done) | (simp; omega) | omega))).mono (by have := HB25.out.size; simp; omega)); rintro e w6 ⟨rfl, hb9⟩; have HB26 := hide (zbT (HB25.out.trans (show Below w2.heap.size w5 _ by have := HB25.out.size; (repeat' first | exact zbR _ _ | assumption | refine zbD ?_ | refine zbA ?_ ?_ _ | refine zbS ?_ ?_ _ | refine zbT ?_ (by assumption) ?_ | (simp; done) | (simp; omega) | omega))) hb9 (by have := HB25.out.size; simp; omega)); have HE6 := hide ((hb9.block w2.heap.size (by have := blk_lt HE5.out; simp; omega)).trans ((Below.heap_alloc _ _ _ (blk_lt HE5.out)).trans HE5.out)); have e2 : w6.cell? ⟨w2.heap.size, 2, none⟩ = some (.slice A3 2 c3) := (blk_cell HE6.out 2).trans rfl; have l6 := blk_lt HE6.out; clear hb9)
    | (go_at_call 27; with_reducible refine (same2 A3 c3 6 4 _ _ (World.alloc_heap_new _ _) ?hr).mono ?_; (case hr => exact ((HL3.out.below HB26.out).below (show Below w2.heap.size w6 _ by have := HB26.out.size; (repeat' first | exact zbR _ _ | assumption | refine zbD ?_ | refine zbA ?_ ?_ _ | refine zbS ?_ ?_ _ | refine zbT ?_ (by assumption) ?_ | (simp; done) | (simp; omega) | omega))).mono (by have := HB26.out.size; simp; omega)); rintro e w7 ⟨rfl, hb9⟩; have HB27 := hide (zbT (HB26.out.trans (show Below w2.heap.size w6 _ by have := HB26.out.size; (repeat' first | exact zbR _ _ | assumption | refine zbD ?_ | refine zbA ?_ ?_ _ | refine zbS ?_ ?_ _ | refine zbT ?_ (by assumption) ?_ | (simp; done) | (simp; omega) | omega))) hb9 (by have := HB26.out.size; simp; omega)); clear hb9))
  go_ret
  exact ⟨rfl, HB1.out.trans ((HB2.out.trans (HB27.out.mono HB2.out.size)).mono HB1.out.size)⟩

end Go.Proofs.Ytobjahlmjcnfoaa

namespace Go.Proofs.Ytobjahlmjcnfoaa
namespace E

theorem taken_hours {d : List Nt} (h : Taken d) : d.Pairwise (fun a b => a.hour ≤ b.hour) :=
  List.Pairwise.imp (fun {a b} hab => by rw [leN_iff] at hab; omega) h.sorted
theorem valid_hour {x : Nt} (h : validNotice x = true) : 0 ≤ x.hour ∧ x.hour ≤ 9999 := by
  unfold validNotice within at h
  simp only [Bool.and_eq_true, decide_eq_true_eq] at h
  omega
theorem err_zero {f : Fd} {l : List Nt} {h p : Int} (hc : checkE f l = 0) (hh : 0 ≤ h ∧ h ≤ 9999) (hp : 0 ≤ p ∧ p ≤ 999) : errE f l h p = 0 := by
  unfold errE
  rw [if_neg (by rw [hc]; simp), if_pos ⟨by unfold within; simp [hh.1, hh.2], by unfold within; simp [hp.1, hp.2]⟩]
theorem check_diffs {f : Fd} {l : List Nt} (hc : checkE f l = 0) : ∃ d, diffs l = some d := by
  unfold checkE at hc
  split at hc
  · cases hd : diffs l with
    | none => rw [hd] at hc; cases hc
    | some d => exact ⟨d, rfl⟩
  · cases hc
end E
end Go.Proofs.Ytobjahlmjcnfoaa

namespace Go.Proofs.Ytobjahlmjcnfoaa
namespace E

def St.greedy (s : St) : List Int := St.fill s false s.order [] 0
theorem fill_keep {s : St} (lt : Bool) {m : Int} : ∀ (l acc : List Int) (g : Int), m ∈ acc → m ∈ s.fill lt l acc g
  | [], _, _, h => h
  | a :: r, acc, g, h => by
    unfold St.fill
    split
    · exact fill_keep lt r _ _ (List.mem_append_left _ h)
    · exact fill_keep lt r _ _ h
theorem fill_congr {s u : St} (hp : u.f.places = s.f.places) (hg : u.f.guards = s.f.guards) (hk : ∀ k, (u.pl k).grd = (s.pl k).grd) : ∀ (l acc : List Int) (g : Int), u.fill false l acc g = s.fill false l acc g
  | [], _, _ => rfl
  | a :: r, acc, g => by
    unfold St.fill
    rw [hp, hg, hk a]
    simp only [or_true, true_and]
    rw [fill_congr hp hg hk r, fill_congr hp hg hk r]
theorem one_bd (b : Bool) : 0 ≤ one b ∧ one b ≤ 1 := by unfold one; split <;> omega

theorem fill_drop (s : St) (r0 m : Int) (hm : m ≠ r0) : ∀ (l acc1 acc2 : List Int) (g1 g2 : Int), (s.f.places ≤ (acc1.length : Int) ∨ (g2 ≤ g1 ∧ acc2.length ≤ acc1.length ∧ g1 - g2 ≤ (acc1.length : Int) - (acc2.length : Int))) → (m ∈ acc1 → m ∈ acc2) → m ∈ s.fill false l acc1 g1 → m ∈ s.fill false (l.filter fun k => k != r0) acc2 g2
  | [], acc1, acc2, g1, g2, _, ha, h => ha h
  | a :: r, acc1, acc2, g1, g2, hi, ha, h => by
    have hb := one_bd (s.pl a).grd
    unfold St.fill at h
    simp only [or_true, true_and] at h
    by_cases e : a = r0
    · subst e
      have hf : (a :: r).filter (fun k => k != a) = r.filter (fun k => k != a) := by simp
      rw [hf]
      split at h
      · refine fill_drop s a m hm r (acc1 ++ [a]) acc2 _ g2 ?_ (fun hx => ?_) h
        · rw [List.length_append]
          simp only [List.length_singleton]
          rcases hi with hi | hi
          · left; push_cast; omega
          · right; refine ⟨by omega, by omega, by push_cast; omega⟩
        · rcases List.mem_append.1 hx with hx | hx
          · exact ha hx
          · simp at hx; exact absurd hx hm
      · exact fill_drop s a m hm r acc1 acc2 g1 g2 hi ha h
    · have hf : (a :: r).filter (fun k => k != r0) = a :: r.filter (fun k => k != r0) := by simp [e]
      rw [hf]
      unfold St.fill
      simp only [or_true, true_and]
      split at h
      · rename_i hc
        have hi' : g2 ≤ g1 ∧ acc2.length ≤ acc1.length ∧ g1 - g2 ≤ (acc1.length : Int) - (acc2.length : Int) := by
          rcases hi with hi | hi
          · omega
          · exact hi
        rw [if_pos ⟨by omega, hc.2.imp (fun h => by omega) id⟩]
        refine fill_drop s r0 m hm r (acc1 ++ [a]) (acc2 ++ [a]) _ _ (.inr ?_) (fun hx => ?_) h
        · rw [List.length_append, List.length_append]
          simp only [List.length_singleton]
          refine ⟨by omega, by omega, by push_cast; omega⟩
        · rcases List.mem_append.1 hx with hx | hx
          · exact List.mem_append_left _ (ha hx)
          · exact List.mem_append_right _ hx
      · rename_i hc
        by_cases hfull : s.f.places ≤ (acc1.length : Int)
        · split
          · exact fill_drop s r0 m hm r acc1 (acc2 ++ [a]) g1 _ (.inl hfull) (fun hx => List.mem_append_left _ (ha hx)) h
          · exact fill_drop s r0 m hm r acc1 acc2 g1 g2 (.inl hfull) ha h
        · have hi' : g2 ≤ g1 ∧ acc2.length ≤ acc1.length ∧ g1 - g2 ≤ (acc1.length : Int) - (acc2.length : Int) := hi.resolve_left hfull
          have hg : ¬ (g1 < s.f.guards ∨ (s.pl a).grd = false) := fun hh => hc ⟨by omega, hh⟩
          have hg1 : s.f.guards ≤ g1 := by
            rcases Int.lt_or_le g1 s.f.guards with h1 | h1
            · exact absurd (.inl h1) hg
            · exact h1
          have hgr : (s.pl a).grd = true := by
            cases hq : (s.pl a).grd with
            | true => rfl
            | false => exact absurd (.inr hq) hg
          split
          · rename_i hc2
            have h2 : g2 < s.f.guards := hc2.2.resolve_right (by rw [hgr]; simp)
            have h1' : one (s.pl a).grd = 1 := by rw [hgr]; rfl
            refine fill_drop s r0 m hm r acc1 (acc2 ++ [a]) g1 _ (.inr ?_) (fun hx => List.mem_append_left _ (ha hx)) h
            rw [List.length_append, h1']
            simp only [List.length_singleton]
            refine ⟨by omega, by omega, by push_cast; omega⟩
          · exact fill_drop s r0 m hm r acc1 acc2 g1 g2 (.inr hi') ha h

structure Late (s u : St) (x : Nt) : Prop where
  ent : ∀ k, (u.pl k).ent = (s.pl k).ent
  rank : ∀ k, (u.pl k).rank = (s.pl k).rank
  turn : ∀ k, (u.pl k).turn = (s.pl k).turn
  grd : ∀ k, (u.pl k).grd = (s.pl k).grd
  other : ∀ k, k ≠ x.player → u.pl k = s.pl k
  quit : ∀ k, (u.pl k).quit = ((s.pl k).quit || (decide (x.kind = 4) && decide (k = x.player)))
  card : ∀ k, (s.pl k).card = true → (u.pl k).card = true
  known : ∀ k, k ∈ u.known ↔ k ∈ s.known ∨ k = x.player
  main : u.main = s.main
  guards : u.f.guards = s.f.guards
  close : u.f.close = s.f.close
  freeze : u.f.freeze = s.f.freeze
  places : late s.f x.hour = false → u.f.places = s.f.places

theorem put_known {s : St} {k : Int} {p : Pl} (j : Int) : j ∈ (s.put k p).known ↔ j ∈ s.known ∨ j = k := by
  unfold St.put
  by_cases e : k ∈ s.known
  · simp only [if_pos e]
    exact ⟨.inl, fun h => h.elim id (fun h => h ▸ e)⟩
  · simp [if_neg e]
theorem put_late {s s0 : St} {x : Nt} {p : Pl} (hp : s0.pl = s.pl) (hk : s0.known = s.known) (hm : s0.main = s.main) (h1 : p.ent = (s.pl x.player).ent) (h2 : p.rank = (s.pl x.player).rank) (h3 : p.turn = (s.pl x.player).turn) (h4 : p.grd = (s.pl x.player).grd) (h5 : p.quit = ((s.pl x.player).quit || decide (x.kind = 4))) (h6 : (s.pl x.player).card = true → p.card = true)
    (h7 : s0.f.guards = s.f.guards) (h8 : s0.f.close = s.f.close) (h9 : s0.f.freeze = s.f.freeze) (h10 : late s.f x.hour = false → s0.f.places = s.f.places) : Late s (s0.put x.player p) x := by
  have e : ∀ k, (s0.put x.player p).pl k = if k = x.player then p else s.pl k := fun k => by unfold St.put; rw [hp]
  refine ⟨fun k => ?_, fun k => ?_, fun k => ?_, fun k => ?_, fun k hk' => ?_, fun k => ?_, fun k hc => ?_, fun k => ?_, hm, h7, h8, h9, h10⟩
  · rw [e]; split; (rename_i h; rw [h, h1]); rfl
  · rw [e]; split; (rename_i h; rw [h, h2]); rfl
  · rw [e]; split; (rename_i h; rw [h, h3]); rfl
  · rw [e]; split; (rename_i h; rw [h, h4]); rfl
  · rw [e, if_neg hk']
  · rw [e]
    by_cases h : k = x.player
    · rw [if_pos h, h5, h]; simp
    · rw [if_neg h]; simp [h]
  · rw [e]; split; (rename_i h; rw [h] at hc; exact h6 hc); exact hc
  · rw [put_known, hk]
theorem said_lateS (s : St) (x : Nt) (hc : s.f.close < x.hour) : Late s (s.said x) x := by
  unfold St.said
  dsimp only
  by_cases k12 : x.kind = 1 ∨ x.kind = 2
  · have hk4 : decide (x.kind = 4) = false := by rcases k12 with e | e <;> rw [e] <;> rfl
    rw [if_pos k12, if_neg (by rintro ⟨h1, _⟩; omega)]
    exact put_late rfl rfl rfl rfl rfl rfl rfl (by rw [hk4]; simp) id rfl rfl rfl (fun _ => rfl)
  · rw [if_neg k12]
    by_cases k3 : x.kind = 3
    · have hk4 : decide (x.kind = 4) = false := by rw [k3]; rfl
      rw [if_pos k3]
      split
      · exact put_late rfl rfl rfl rfl rfl rfl rfl (by rw [hk4]; simp) (fun _ => rfl) rfl rfl rfl (fun _ => rfl)
      · exact put_late rfl rfl rfl rfl rfl rfl rfl (by rw [hk4]; simp) id rfl rfl rfl (fun _ => rfl)
    · rw [if_neg k3]
      by_cases k4 : x.kind = 4
      · rw [if_pos k4]
        by_cases hcond : late s.f x.hour = true ∧ (s.pl x.player).card = true ∧ (s.pl x.player).quit = false
        · rw [if_pos hcond]
          exact put_late rfl rfl rfl rfl rfl rfl rfl (by rw [k4]; simp) id rfl rfl rfl (fun h => by rw [hcond.1] at h; cases h)
        · rw [if_neg hcond]
          exact put_late rfl rfl rfl rfl rfl rfl rfl (by rw [k4]; simp) id rfl rfl rfl (fun _ => rfl)
      · have hk4 : decide (x.kind = 4) = false := decide_eq_false k4
        rw [if_neg k4]
        split
        · exact put_late rfl rfl rfl rfl rfl rfl rfl (by rw [hk4]; simp) id rfl rfl rfl (fun _ => rfl)
        · exact put_late rfl rfl rfl rfl rfl rfl rfl (by rw [hk4]; simp) id rfl rfl rfl (fun _ => rfl)

theorem entry_down {s u : St} {x : Nt} (h : Late s u x) {k : Int} (he : (u.pl k).entry = true) : (s.pl k).entry = true := by
  unfold Pl.entry at *
  simp only [Bool.and_eq_true, Bool.not_eq_true'] at *
  obtain ⟨⟨h1, h2⟩, h3⟩ := he
  refine ⟨⟨by rw [← h.ent]; exact h1, ?_⟩, ?_⟩
  · have := h.quit k
    rw [h2] at this
    cases hq : (s.pl k).quit with
    | false => rfl
    | true => rw [hq] at this; simp at this
  · cases hq : (s.pl k).card with
    | false => rfl
    | true => rw [h.card k hq] at h3; cases h3
theorem late_order {s u : St} {x : Nt} (hs : StOk s) (hu : StOk u) (h : Late s u x) : u.order = s.order.filter (fun k => (u.pl k).entry) := by
  symm
  refine order_eq hu ?_ ?_
  · refine (List.perm_ext_iff_of_nodup ((order_nodup hs).filter _) (hu.known.filter _)).2 (fun k => ?_)
    rw [List.mem_filter, List.mem_filter, order_mem, h.known]
    constructor
    · rintro ⟨⟨h1, _⟩, h2⟩; exact ⟨.inl h1, h2⟩
    · rintro ⟨h1, h2⟩
      have h3 := entry_down h h2
      refine ⟨⟨?_, h3⟩, h2⟩
      by_cases hk : k ∈ s.known
      · exact hk
      · rw [hs.zero k hk] at h3; cases h3
  · refine List.Pairwise.sublist List.filter_sublist ?_
    have ho := List.pairwise_mergeSort (le := s.leP) (leP_trans s) (leP_total s) (s.known.filter (fun k => (s.pl k).entry))
    refine List.Pairwise.imp (fun {a b} hab => ?_) ho
    unfold St.leP at hab
    have := of_decide_eq_true hab
    unfold cmpP at this ⊢
    rw [h.rank, h.rank, h.turn, h.turn]
    exact this
theorem settle_early (u : St) : (u.settle false).main = u.greedy := by
  unfold St.settle St.greedy
  dsimp only
  have e1 : u.main.filter (fun k => false && (u.pl k).entry) = [] := by simp
  rw [e1]
  have e2 : ({ u with main := [] } : St).alts = u.order := by
    unfold St.alts
    show (St.order u).filter _ = _
    simp
  rw [e2]
  rfl

theorem greedy_take (s : St) (x : Nt) : (s.take x).greedy = (s.said x).greedy := by
  unfold St.greedy
  exact fill_congr (s := s.said x) (u := s.take x) rfl rfl (fun _ => rfl) _ _ _

theorem stay_step {s : St} (hs : StOk s) (hT : 0 ≤ s.turns) (x : Nt) (hx : 0 ≤ x.player ∧ x.player ≤ 999) (hc : s.f.close < x.hour) (hg : late s.f x.hour = false → s.main = s.greedy) {m : Int} (hm : m ∈ s.main) (he : ((s.said x).pl m).entry = true) : m ∈ (s.take x).main := by
  have hL := said_lateS s x hc
  have hu := (said_ok hs x hx hT).1
  unfold St.take
  cases hlt : late s.f x.hour with
  | true =>
    unfold St.settle
    dsimp only
    refine fill_keep _ _ _ _ (List.mem_filter.2 ⟨by rw [hL.main]; exact hm, by simpa using he⟩)
  | false =>
    rw [settle_early]
    unfold St.greedy
    rw [fill_congr (hL.places hlt) hL.guards hL.grd, late_order hs hu hL]
    have hm' : m ∈ s.fill false s.order [] 0 := by have := hg hlt; rw [this] at hm; exact hm
    by_cases hp : ((s.said x).pl x.player).entry = true
    · have : s.order.filter (fun k => ((s.said x).pl k).entry) = s.order := by
        rw [List.filter_eq_self]
        intro k hk
        by_cases e : k = x.player
        · rw [e]; exact hp
        · rw [hL.other k e]; exact (order_mem.1 hk).2
      rw [this]
      exact hm'
    · have hne : m ≠ x.player := fun e => hp (e ▸ he)
      have : s.order.filter (fun k => ((s.said x).pl k).entry) = s.order.filter (fun k => k != x.player) := by
        refine List.filter_congr (fun k hk => ?_)
        by_cases e : k = x.player
        · subst e
          have : ((s.said x).pl x.player).entry = false := by simpa using hp
          rw [this]; simp
        · rw [hL.other k e, (order_mem.1 hk).2]; simp [e]
      rw [this]
      exact fill_drop s x.player m hne s.order [] [] 0 0 (.inr ⟨by omega, by omega, by omega⟩) id hm'

theorem main_entry (s : St) (x : Nt) : ∀ k ∈ (s.take x).main, ((s.take x).pl k).entry = true := by
  intro k hk
  have : ∀ (l acc : List Int) (g : Int) (lt : Bool), (∀ k ∈ l, ((s.said x).pl k).entry = true) → (∀ k ∈ acc, ((s.said x).pl k).entry = true) → ∀ k ∈ (s.said x).fill lt l acc g, ((s.said x).pl k).entry = true := fun l acc g lt h1 h2 => fill_known lt (fun k => ((s.said x).pl k).entry = true) l acc g h1 h2
  refine this _ _ _ _ (fun j hj => ?_) (fun j hj => ?_) k hk
  · have := (List.mem_filter.1 hj).1
    exact (order_mem.1 this).2
  · have := (List.mem_filter.1 hj).2
    simp only [Bool.and_eq_true] at this
    exact this.2

def CardsOk (s : St) : Prop := ∀ k, k ∈ s.cards ↔ (s.pl k).card = true ∧ (s.pl k).quit = false
theorem cards_new (f : Fd) : CardsOk (St.new f) := fun k => by simp [St.new, Pl.zero]
theorem cards_said {s : St} (h : CardsOk s) (x : Nt) : CardsOk (s.said x) := by
  have put : ∀ (s0 : St) (p : Pl), s0.pl = s.pl → s0.cards = s.cards → p.card = (s.pl x.player).card → p.quit = (s.pl x.player).quit → CardsOk (s0.put x.player p) := by
    intro s0 p h1 h2 h3 h4 k
    have e : (s0.put x.player p).pl k = if k = x.player then p else s.pl k := by unfold St.put; rw [h1]
    have e2 : (s0.put x.player p).cards = s.cards := h2
    rw [e, e2, h k]
    split
    · rename_i hk; rw [hk, h3, h4]
    · rfl
  unfold St.said
  dsimp only
  split
  · split
    · exact put _ _ rfl rfl rfl rfl
    · exact put _ _ rfl rfl rfl rfl
  · split
    · split
      · rename_i hc
        intro k
        show k ∈ s.cards ++ [x.player] ↔ _
        have e : (({ s with cards := s.cards ++ [x.player] } : St).put x.player { s.pl x.player with card := true }).pl k = if k = x.player then { s.pl x.player with card := true } else s.pl k := rfl
        rw [e, List.mem_append, List.mem_singleton, h k]
        split
        · rename_i hk; subst hk; simp [hc.2.2.1]
        · rename_i hk; simp [hk]
      · exact put _ _ rfl rfl rfl rfl
    · split
      · intro k
        show k ∈ s.cards.filter (fun k => k != x.player) ↔ _
        rw [List.mem_filter, h k]
        show _ ↔ (if k = x.player then ({ s.pl x.player with quit := true } : Pl) else s.pl k).card = true ∧ (if k = x.player then ({ s.pl x.player with quit := true } : Pl) else s.pl k).quit = false
        by_cases hk : k = x.player
        · simp [hk]
        · simp [hk]
      · split
        · exact put _ _ rfl rfl rfl rfl
        · exact put _ _ rfl rfl rfl rfl
theorem cards_take {s : St} (h : CardsOk s) (x : Nt) : CardsOk (s.take x) := cards_said h x

theorem said_fd (s : St) (x : Nt) : (s.said x).f.close = s.f.close := by
  unfold St.said
  dsimp only
  repeat' split
  all_goals (first | rfl | (simp only [St.put]; split <;> rfl))

structure Way (s : St) (m : Int) : Prop where
  ok : StOk s
  turns : 0 ≤ s.turns
  ent : (s.pl m).ent = true
  iff : m ∈ s.main ↔ (s.pl m).entry = true

theorem way_step {s : St} {m : Int} (h : Way s m) (x : Nt) (hx : 0 ≤ x.player ∧ x.player ≤ 999) (hc : s.f.close < x.hour) (hg : late s.f x.hour = false → s.main = s.greedy) : Way (s.take x) m ∧ ((s.take x).pl m).quit = ((s.pl m).quit || (decide (x.kind = 4) && decide (m = x.player))) := by
  have hL := said_lateS s x hc
  refine ⟨⟨(take_ok h.ok x hx h.turns).1, (take_ok h.ok x hx h.turns).2, (hL.ent m).trans h.ent, fun hm => main_entry s x m hm, fun he => ?_⟩, hL.quit m⟩
  exact stay_step h.ok h.turns x hx hc hg (h.iff.2 (entry_down hL he)) he

theorem way_fold {m : Int} (c z : Int) : ∀ (r : List Nt) (s : St), Way s m → s.f.close = c → s.f.freeze = z → (∀ x ∈ r, 0 ≤ x.player ∧ x.player ≤ 999) → (∀ x ∈ r, c < x.hour) → r.Pairwise (fun a b => a.hour ≤ b.hour) → ((∃ x ∈ r, x.hour ≤ z) → s.main = s.greedy) →
    Way (r.foldl St.take s) m ∧ (((r.foldl St.take s).pl m).quit = true ↔ (s.pl m).quit = true ∨ ∃ x ∈ r, x.kind = 4 ∧ x.player = m)
  | [], s, h, _, _, _, _, _, _ => ⟨h, by simp⟩
  | x :: r, s, h, h1, h2, hp, hc, hs, hg => by
    have hx := hp x (List.mem_cons_self ..)
    have hcx := hc x (List.mem_cons_self ..)
    obtain ⟨hs1, hs2⟩ := List.pairwise_cons.1 hs
    obtain ⟨hw, hq⟩ := way_step h x hx (by rw [h1]; exact hcx) (fun hl => hg ⟨x, List.mem_cons_self .., by unfold late at hl; have := of_decide_eq_false hl; rw [h2] at this; omega⟩)
    have ih := way_fold c z r (s.take x) hw ((said_fd s x).trans h1) ((said_freeze s x).trans h2) (fun y hy => hp y (List.mem_cons_of_mem _ hy)) (fun y hy => hc y (List.mem_cons_of_mem _ hy)) hs2 (fun ⟨y, hy, hyz⟩ => by
      have hxz : x.hour ≤ z := Int.le_trans (hs1 y hy) hyz
      have hl : late s.f x.hour = false := by unfold late; rw [h2]; exact decide_eq_false (by omega)
      show ((s.said x).settle (late s.f x.hour)).main = _
      rw [hl, settle_early, greedy_take])
    refine ⟨ih.1, ih.2.trans ?_⟩
    rw [hq]
    simp only [Bool.or_eq_true, Bool.and_eq_true, decide_eq_true_eq, List.mem_cons]
    constructor
    · rintro ((h3 | ⟨h3, h4⟩) | ⟨y, hy, h3⟩)
      · exact .inl h3
      · exact .inr ⟨x, .inl rfl, h3, h4.symm⟩
      · exact .inr ⟨y, .inr hy, h3⟩
    · rintro (h3 | ⟨y, rfl | hy, h3, h4⟩)
      · exact .inl (.inl h3)
      · exact .inl (.inr ⟨h3, h4.symm⟩)
      · exact .inr ⟨y, hy, h3, h4⟩

theorem cards_fold : ∀ (r : List Nt) (s : St), CardsOk s → CardsOk (r.foldl St.take s)
  | [], _, h => h
  | x :: r, _, h => cards_fold r _ (cards_take h x)
theorem fold_fd : ∀ (r : List Nt) (s : St), (r.foldl St.take s).f.close = s.f.close ∧ (r.foldl St.take s).f.freeze = s.f.freeze
  | [], _ => ⟨rfl, rfl⟩
  | x :: r, s => by
    obtain ⟨h1, h2⟩ := fold_fd r (s.take x)
    exact ⟨h1.trans (said_fd s x), h2.trans (said_freeze s x)⟩
theorem fold_main : ∀ (r : List Nt) (s : St), (∀ k ∈ s.main, (s.pl k).entry = true) → ∀ k ∈ (r.foldl St.take s).main, ((r.foldl St.take s).pl k).entry = true
  | [], _, h => h
  | x :: r, s, _ => fold_main r _ (main_entry s x)
theorem fold_greedy (z : Int) : ∀ (r : List Nt) (s : St), s.f.freeze = z → (∀ x ∈ r, x.hour ≤ z) → s.main = s.greedy → (r.foldl St.take s).main = (r.foldl St.take s).greedy
  | [], _, _, _, h => h
  | x :: r, s, hz, hr, h => by
    refine fold_greedy z r (s.take x) ((said_freeze s x).trans hz) (fun y hy => hr y (List.mem_cons_of_mem _ hy)) ?_
    have hl : late s.f x.hour = false := by unfold late; rw [hz]; have := hr x (List.mem_cons_self ..); exact decide_eq_false (by omega)
    show ((s.said x).settle (late s.f x.hour)).main = _
    rw [hl, settle_early, greedy_take]
theorem greedy_new (f : Fd) : (St.new f).main = (St.new f).greedy := by
  unfold St.greedy St.order St.new
  simp [St.fill]
theorem filter_split {h1 h2 : Int} (h12 : h1 ≤ h2) : ∀ (d : List Nt), d.Pairwise (fun a b => a.hour ≤ b.hour) → d.filter (fun x => decide (x.hour ≤ h2)) = d.filter (fun x => decide (x.hour ≤ h1)) ++ d.filter (fun x => decide (h1 < x.hour) && decide (x.hour ≤ h2))
  | [], _ => rfl
  | x :: r, hs => by
    obtain ⟨hs1, hs2⟩ := List.pairwise_cons.1 hs
    by_cases e : x.hour ≤ h1
    · have e2 : x.hour ≤ h2 := by omega
      rw [List.filter_cons_of_pos (by simpa using e2), List.filter_cons_of_pos (by simpa using e), List.filter_cons_of_neg (by simp; omega), List.cons_append, filter_split h12 r hs2]
    · have e1 : r.filter (fun x => decide (x.hour ≤ h1)) = [] := List.filter_eq_nil_iff.2 (fun y hy => by have := hs1 y hy; simp; omega)
      rw [List.filter_cons_of_neg (l := r) (p := fun x => decide (x.hour ≤ h1)) (by simpa using e), e1, List.nil_append]
      refine List.filter_congr (fun y hy => ?_)
      have hy1 : h1 < y.hour := by
        rcases List.mem_cons.1 hy with h | h
        · subst h; omega
        · have := hs1 y h; omega
      simp [hy1]

theorem stays {f : Fd} {d : List Nt} (ht : Taken d) {h1 h2 : Int} (hc : f.close ≤ h1) (h12 : h1 ≤ h2) {m : Int} (hm : m ∈ (atL f h1 d).main) :
    m ∈ (atL f h2 d).main ↔ ¬ (m ∈ (atL f h2 d).cards ∨ ∃ x ∈ d, x.player = m ∧ x.kind = 4 ∧ h1 < x.hour ∧ x.hour ≤ h2) := by
  have hp : ∀ x ∈ d, 0 ≤ x.player ∧ x.player ≤ 999 := fun x hx => valid_player (ht.valid x hx)
  have hs := taken_hours ht
  obtain ⟨hok, hT⟩ := atL_ok f h1 hp
  have hfd := fold_fd (d.filter (fun x => decide (x.hour ≤ h1))) (St.new f)
  have hent := fold_main (d.filter (fun x => decide (x.hour ≤ h1))) (St.new f) (fun k hk => by cases hk) m hm
  have e2 : atL f h2 d = (d.filter (fun x => decide (h1 < x.hour) && decide (x.hour ≤ h2))).foldl St.take (atL f h1 d) := by
    unfold atL
    rw [filter_split h12 d hs, List.foldl_append]
  have hway : Way (atL f h1 d) m := ⟨hok, hT, entry_ent hent, fun _ => hent, fun _ => hm⟩
  have hmem : ∀ x, x ∈ d.filter (fun x => decide (h1 < x.hour) && decide (x.hour ≤ h2)) ↔ x ∈ d ∧ h1 < x.hour ∧ x.hour ≤ h2 := fun x => by simp [List.mem_filter]
  have hf := way_fold f.close f.freeze _ (atL f h1 d) hway hfd.1 hfd.2 (fun x hx => hp x ((hmem x).1 hx).1) (fun x hx => by have := ((hmem x).1 hx).2.1; omega) (List.Pairwise.sublist List.filter_sublist hs) (fun ⟨y, hy, hyz⟩ => by
    refine fold_greedy f.freeze _ (St.new f) rfl (fun x hx => ?_) (greedy_new f)
    have h3 := ((hmem y).1 hy).2.1
    have h4 := (List.mem_filter.1 hx).2
    simp at h4
    omega)
  rw [← e2] at hf
  have hcd : CardsOk (atL f h2 d) := cards_fold _ _ (cards_new f)
  obtain ⟨hw, hq⟩ := hf
  have hq0 : ((atL f h1 d).pl m).quit = false := by
    unfold Pl.entry at hent
    simp only [Bool.and_eq_true, Bool.not_eq_true'] at hent
    exact hent.1.2
  have hq' : ((atL f h2 d).pl m).quit = true ↔ ∃ x ∈ d, x.player = m ∧ x.kind = 4 ∧ h1 < x.hour ∧ x.hour ≤ h2 := by
    rw [hq, hq0]
    constructor
    · rintro (h | ⟨x, hx, h3, h4⟩)
      · cases h
      · exact ⟨x, ((hmem x).1 hx).1, h4, h3, ((hmem x).1 hx).2⟩
    · rintro ⟨x, hx, h3, h4, h5⟩
      exact .inr ⟨x, (hmem x).2 ⟨hx, h5⟩, h4, h3⟩
  rw [← hq', hcd m, hw.iff]
  unfold Pl.entry
  rw [hw.ent]
  cases ((atL f h2 d).pl m).quit <;> cases ((atL f h2 d).pl m).card <;> simp
end E
end Go.Proofs.Ytobjahlmjcnfoaa
