/-
  Part of a claim's texts: contracts of the program's functions and the plain functions that they compute, in build order.
-/
import Derived.Test.YtlpjkolocgkcpaaProg
import Derived.StillTail
import Derived.Test.YtlpjkolocgkcpaaZB01
import Derived.Test.YtlpjkolocgkcpaaZB02
import Derived.Test.YtlpjkolocgkcpaaZB03
namespace Go.Proofs.Ytlpjkolocgkcpaa
open Go.RowKit Go.Shelf
attribute [local go_sem ↓] Go.wp_at_zero Go.wp_at_succ

namespace G
theorem people_bd {q : Qu} (hv : Valid q) (k : Nat) : 0 ≤ ((q.gs.map (·.size)).take k).sum ∧ ((q.gs.map (·.size)).take k).sum ≤ 800 := by
  have h : ∀ (l : List Int), (∀ x ∈ l, 0 ≤ x ∧ x ≤ 20) → 0 ≤ l.sum ∧ l.sum ≤ 20 * l.length := by
    intro l
    induction l with
    | nil => intro _; simp
    | cons a r ih =>
      intro h
      have h1 := h a (List.mem_cons_self ..)
      have h2 := ih (fun x hx => h x (List.mem_cons_of_mem _ hx))
      rw [List.sum_cons, List.length_cons]
      omega
  have h1 := h ((q.gs.map (·.size)).take k) (fun x hx => by
    obtain ⟨p, hp, rfl⟩ := List.mem_map.1 (List.mem_of_mem_take hx)
    have hV := vParty_iff.1 (hv.gv _ hp)
    have := hV.z0
    have := hV.z1
    omega)
  have h2 : ((q.gs.map (·.size)).take k).length ≤ 40 := by
    rw [List.length_take, List.length_map]
    have := hv.gl
    omega
  omega
theorem people_all (q : Qu) {n : Nat} (h : q.gs.length = n) : ((q.gs.map (·.size)).take n).sum = people q.gs := by
  rw [List.take_of_length_le (by rw [List.length_map]; omega)]
  rfl
end G
theorem LineAt.more {w : World} {q : G.Qu} {A : Option Addr} {n c : Nat} {F : Option Addr} {m d : Nat} {O : Option Addr} {co : Nat} {ord : List Nat} (h : LineAt w q A n c F m d O co ord) {k : Nat} (hk : q.seats + (k : Int) ≤ 9999) : LineAt w { q with seats := q.seats + (k : Int) } A n c F m d O co ord :=
  ⟨⟨h.v.o0, h.v.o1, h.v.l0, h.v.lh, h.v.h1, by have := h.v.s0; show 0 ≤ q.seats + (k : Int); omega, hk, h.v.gl, h.v.gv, h.v.gn, h.v.fl, h.v.fv⟩, h.gl, h.fl, h.ol, h.rg, h.rf, h.ro, h.fs, h.os, h.op⟩

set_option maxHeartbeats 6400000 in
set_option maxRecDepth 100000 in
theorem enough_any (q : G.Qu) (A : Option Addr) (n c : Nat) (F : Option Addr) (m d : Nat) (B : Nat) (O : Option Addr) (co : Nat) (ord : List Nat) (g : Nat) (w : World) (hL : LineAt w q A n c F m d O co ord) (hg : g < n) :
    Calls Try.prog 48 #[.agg #[.int .i64 q.opn, .int .i64 q.lo, .int .i64 q.hi, .int .i64 q.seats, .slice A n c, .slice F m d, .map (some B), .slice O n co], .int .i64 (g : Int)] w fun e w' => e = .returned (.tuple #[.int .i64 ((G.enough q g).getD 0), .bool (G.enough q g).isSome]) ∧ Below w.heap.size w w' := by
  have HL := hide hL
  have HGN := hide hL.gl
  have hn40 : n ≤ 40 := by have := hL.v.gl; have := hL.gl; omega
  have hs0 := hL.v.s0
  have hs1 := hL.v.s1
  clear hL
  go_enter Try.func48, Try.ntmps48
  obtain ⟨p, hp⟩ : ∃ p, w.heap.size = p := ⟨_, rfl⟩
  obtain ⟨V, hV⟩ : ∃ V, w.alloc (.cells #[.int .i64 q.opn, .int .i64 q.lo, .int .i64 q.hi, .int .i64 q.seats, .slice A n c, .slice F m d, .map (some B), .slice O n co] 67) = V := ⟨_, rfl⟩
  have V0 := hide (show V.heap[p]? = some (.cells #[.int .i64 q.opn, .int .i64 q.lo, .int .i64 q.hi, .int .i64 q.seats, .slice A n c, .slice F m d, .map (some B), .slice O n co] 67 (0, 0)) by rw [← hV, ← hp]; exact World.alloc_heap_new _ _)
  have VB := hide (show Below w.heap.size w V by rw [← hV]; (repeat' first | exact zbR _ _ | assumption | refine zbD ?_ | refine zbA ?_ ?_ _ | refine zbS ?_ ?_ _ | refine zbT ?_ (by assumption) ?_ | (simp; done) | (simp; omega) | omega))
  go_upto_region 1 with fail
  (try rw [hV])
  clear hV
  have c4 : V.cell? ⟨p, 4, none⟩ = some (.slice A n c) := (blk_cell V0.out 4).trans rfl
  have lp := blk_lt V0.out
  go_wp2
  go_loopw [6, 15] (fun v i wr => ∃ k : Nat, k ≤ n ∧ i = .int .i64 (k : Int) ∧ v = .int .i64 ((q.gs.map (·.size)).take k).sum ∧ Hid (wr.heap[p]? = some (.cells #[.int .i64 q.opn, .int .i64 q.lo, .int .i64 q.hi, .int .i64 q.seats, .slice A n c, .slice F m d, .map (some B), .slice O n co] 67 (0, 0))) ∧ Hid (Below w.heap.size w wr)) (fun _ i _ => n - (intOf i).toNat)
  case atStart => exact ⟨0, by omega, rfl, rfl, V0, VB⟩
  case round =>
    clear c4 lp V0 VB
    obtain ⟨k, hk, rfl, rfl, V0, VB⟩ := hrel
    have lp := blk_lt V0.out
    by_cases hlt : k < n
    · obtain ⟨pt, hpt⟩ : ∃ pt, q.gs[k]? = some pt := ⟨_, List.getElem?_eq_getElem (by rw [HGN.out]; exact hlt)⟩
      obtain ⟨bg, og, rfl, hbg, d0, d1, d2, d3⟩ := (HL.out.rg.below VB.out) k pt hpt
      have lbg : bg < wr.heap.size := Nat.lt_of_lt_of_le hbg VB.out.size
      have hsum := sum_take (show (q.gs.map (·.size))[k]? = some pt.size by rw [List.getElem?_map, hpt]; rfl)
      obtain ⟨b0, b1⟩ := G.people_bd HL.out.v k
      have hV := G.vParty_iff.1 (HL.out.v.gv _ (List.mem_of_getElem? hpt))
      have hz0 := hV.z0
      have hz1 := hV.z1
      obtain ⟨ss, hss⟩ : ∃ ss, ((q.gs.map (·.size)).take k).sum = ss := ⟨_, rfl⟩
      rw [hss] at hsum b0 b1 ⊢
      have HSUM := hide hsum
      have hltI : (k : Int) < (n : Int) := by omega
      clear hV hpt hss hsum
      go_upto_region 5 with fail
      refine cap_w (M := Code.wp _ _ _ _) _ (fun w2 hw2 => ?_)
      have HB2 := hide (show Below wr.heap.size wr w2 by rw [hw2]; exact zbA (zbR _ _) (Nat.le_refl _) _)
      have HT2 := hide (show w2.heap[wr.heap.size]? = some (.cells #[.int .i64 pt.id, .int .i64 pt.at_, .int .i64 pt.size, .int .i64 pt.quits] 42 (0, 0)) by rw [hw2]; exact World.alloc_heap_new _ _)
      clear hw2 d0 d1 d2 d3
      have c2 : w2.cell? ⟨wr.heap.size, 2, none⟩ = some (.int .i64 pt.size) := (blk_cell HT2.out 2).trans rfl
      have l2 := blk_lt HT2.out
      go_wp2
      go_roundw
      case rel => exact ⟨k + 1, by omega, by go_num, by rw [HSUM.out], bkT HB2.out V0, hide (VB.out.trans (HB2.out.mono VB.out.size))⟩
      case measure => simp [intOf]; omega
    · have hkn : k = n := by omega
      subst hkn
      rw [G.people_all q HGN.out]
      have hpb := G.people_bd HL.out.v k
      rw [G.people_all q HGN.out] at hpb
      obtain ⟨P, hP⟩ : ∃ P, G.people q.gs = P := ⟨_, rfl⟩
      rw [hP] at hpb ⊢
      have HP := hide hP
      obtain ⟨b0, b1⟩ := hpb
      have c3 : wr.cell? ⟨p, 3, none⟩ = some (.int .i64 q.seats) := (blk_cell V0.out 3).trans rfl
      have lp := blk_lt V0.out
      clear hP
      obtain ⟨N, hN⟩ : ∃ N : Nat, (max (P - q.seats) 0) + 1 = (N : Int) := ⟨((max (P - q.seats) 0) + 1).toNat, by omega⟩
      have HE0 := hide (show G.enoughF q g N 0 = G.enough q g by
        unfold G.enough
        rw [HP.out, hN]
        rfl)
      have hN8 : q.seats + (N : Int) ≤ 10000 := by omega
      clear lp
      by_cases hps : 0 < P - q.seats
      · have hx1 : max (P - q.seats) 0 = P - q.seats := by omega
        have hx2 : (if P - q.seats < 0 then 0 else P - q.seats) = P - q.seats := if_neg (by omega)
        go_wp2
        have HNv := hide (show P - q.seats + 1 = (N : Int) by omega)
        have HN8 := hide hN8
        clear c3 hN hN8 hx1 hx2
        go_loopw [4, 5, 31] (fun v4 v5 i wr => ∃ j : Nat, j ≤ N ∧ i = .int .i64 (j : Int) ∧ v4 = .int .i64 0 ∧ v5 = .bool false ∧ Hid (G.enoughF q g (N - j) (j : Int) = G.enough q g) ∧ Hid (wr.heap[p]? = some (.cells #[.int .i64 q.opn, .int .i64 q.lo, .int .i64 q.hi, .int .i64 q.seats, .slice A k c, .slice F m d, .map (some B), .slice O k co] 67 (0, 0))) ∧ Hid (Below w.heap.size w wr)) (fun _ _ i _ => N - (intOf i).toNat)
        case atStart => exact ⟨0, by omega, rfl, rfl, rfl, HE0, V0, VB⟩
        case round =>
          clear V0 VB HE0
          obtain ⟨j, hj, rfl, rfl, rfl, HE, V0, VB⟩ := hrel
          have lp := blk_lt V0.out
          by_cases hlt : j < N
          · have hltI : (j : Int) < P - q.seats + 1 := by have := HNv.out; omega
            have h98 : q.seats + (j : Int) ≤ 9999 := by have := HN8.out; omega
            have hv0 := V0.out
            have cp0 := (blk_cell hv0 0).trans rfl; have cp1 := (blk_cell hv0 1).trans rfl; have cp2 := (blk_cell hv0 2).trans rfl; have cp3 := (blk_cell hv0 3).trans rfl; have cp4 := (blk_cell hv0 4).trans rfl; have cp5 := (blk_cell hv0 5).trans rfl; have cp6 := (blk_cell hv0 6).trans rfl; have cp7 := (blk_cell hv0 7).trans rfl
            have HSTEP := hide (show (if G.always { q with seats := q.seats + (j : Int) } g then some (j : Int) else G.enoughF q g (N - (j + 1)) ((j : Int) + 1)) = G.enough q g by
              have h := HE.out
              rw [show N - j = (N - (j + 1)) + 1 by omega] at h
              exact h)
            clear HE hv0
            go_upto_region 11 with fail
            refine cap_w (M := Code.wp _ _ _ _) _ (fun w2 hw2 => ?_)
            have HB2 := hide (show Below wr.heap.size wr w2 by rw [hw2]; exact zbA (zbR _ _) (Nat.le_refl _) _)
            have HT2 := hide (show w2.heap[wr.heap.size]? = some (.cells #[.int .i64 q.opn, .int .i64 q.lo, .int .i64 q.hi, .int .i64 q.seats, .slice A k c, .slice F m d, .map (some B), .slice O k co] 67 (0, 0)) by rw [hw2]; exact World.alloc_heap_new _ _)
            have V2 := bkT HB2.out V0
            have VB2 := hide (VB.out.trans (HB2.out.mono VB.out.size))
            have HQ0 := hide (show w.heap.size ≤ wr.heap.size from VB.out.size)
            have HQP := hide (show p ≠ wr.heap.size by omega)
            obtain ⟨x, hx⟩ : ∃ x, wr.heap.size = x := ⟨_, rfl⟩
            rw [hx] at HT2 HQ0 HQP ⊢
            clear hw2 hx cp0 cp1 cp2 cp3 cp4 cp5 cp6 cp7 lp
            have d3 : w2.cell? ⟨x, 3, none⟩ = some (.int .i64 q.seats) := (blk_cell HT2.out 3).trans rfl
            have f3 := blk_frozen HT2.out 3
            have l3 := blk_lt HT2.out
            go_upto_region 12 with fail
            refine cap_w (M := Code.wp _ _ _ _) _ (fun w3 hw3 => ?_)
            have HT3 := hide (show w3.heap[x]? = some (.cells #[.int .i64 q.opn, .int .i64 q.lo, .int .i64 q.hi, .int .i64 (q.seats + (j : Int)), .slice A k c, .slice F m d, .map (some B), .slice O k co] 67 (0, 0)) by rw [hw3]; exact blk_set HT2.out 3 _)
            have V3 := hide (show w3.heap[p]? = some (.cells #[.int .i64 q.opn, .int .i64 q.lo, .int .i64 q.hi, .int .i64 q.seats, .slice A k c, .slice F m d, .map (some B), .slice O k co] 67 (0, 0)) by rw [hw3]; exact blk_other V2.out HQP.out 3 _)
            have VB3 := hide (show Below w.heap.size w w3 by rw [hw3]; exact zbS VB2.out HQ0.out _)
            clear hw3 d3 f3 l3 HT2 V2 VB2 HB2
            have ht3 := HT3.out
            have cp0 := (blk_cell ht3 0).trans rfl; have cp1 := (blk_cell ht3 1).trans rfl; have cp2 := (blk_cell ht3 2).trans rfl; have cp3 := (blk_cell ht3 3).trans rfl; have cp4 := (blk_cell ht3 4).trans rfl; have cp5 := (blk_cell ht3 5).trans rfl; have cp6 := (blk_cell ht3 6).trans rfl; have cp7 := (blk_cell ht3 7).trans rfl
            have lx := blk_lt ht3
            have HAL := hide (always_any { q with seats := q.seats + (j : Int) } A k c F m d B O co ord g w3 ((HL.out.below VB3.out).more (by omega)) hg)
            obtain ⟨al, hal⟩ : ∃ al, G.always { q with seats := q.seats + (j : Int) } g = al := ⟨_, rfl⟩
            rw [hal] at HSTEP HAL
            clear ht3 hal
            cases al
            · go_wp2_with (go_at_call 61; (refine HAL.out.mono ?_); rintro e w4 ⟨rfl, hb4⟩; have HB4 := hide hb4; clear hb4)
              go_roundw
              case rel => exact ⟨j + 1, by omega, by go_num, rfl, rfl, hide (by have h := HSTEP.out; rw [if_neg (by decide)] at h; exact h), bkT HB4.out V3, hide (VB3.out.trans (HB4.out.mono VB3.out.size))⟩
              case measure => simp [intOf]; omega
            · go_wp2_with (go_at_call 61; (refine HAL.out.mono ?_); rintro e w4 ⟨rfl, hb4⟩; have HB4 := hide hb4; clear hb4)
              go_ret2
              have h : G.enough q g = some (j : Int) := by rw [← HSTEP.out]; rfl
              exact ⟨by first | rfl | (rw [h]; rfl), by first | exact VB3.out.trans (HB4.out.mono VB3.out.size) | exact hp ▸ VB3.out.trans (HB4.out.mono VB3.out.size)⟩
          · have hjn : j = N := by omega
            have h : G.enough q g = none := by
              rw [← HE.out, hjn, Nat.sub_self]
              rfl
            have hge : ¬ ((j : Int) < P - q.seats + 1) := by have := HNv.out; omega
            go_wp2
            go_ret2
            exact ⟨by first | rfl | (rw [h]; rfl), by first | exact VB.out | exact hp ▸ VB.out⟩
      · have hps' : P - q.seats ≤ 0 := by omega
        have hx1 : max (P - q.seats) 0 = 0 := by omega
        have hx2 : (if P - q.seats < 0 then 0 else P - q.seats) = 0 := by split <;> omega
        clear hps
        go_wp2
        have HNv := hide (show 1 = (N : Int) by omega)
        have HN8 := hide hN8
        clear c3 hN hN8 hx1 hx2
        go_loopw [4, 5, 31] (fun v4 v5 i wr => ∃ j : Nat, j ≤ N ∧ i = .int .i64 (j : Int) ∧ v4 = .int .i64 0 ∧ v5 = .bool false ∧ Hid (G.enoughF q g (N - j) (j : Int) = G.enough q g) ∧ Hid (wr.heap[p]? = some (.cells #[.int .i64 q.opn, .int .i64 q.lo, .int .i64 q.hi, .int .i64 q.seats, .slice A k c, .slice F m d, .map (some B), .slice O k co] 67 (0, 0))) ∧ Hid (Below w.heap.size w wr)) (fun _ _ i _ => N - (intOf i).toNat)
        case atStart => exact ⟨0, by omega, rfl, rfl, rfl, HE0, V0, VB⟩
        case round =>
          clear V0 VB HE0
          obtain ⟨j, hj, rfl, rfl, rfl, HE, V0, VB⟩ := hrel
          have lp := blk_lt V0.out
          by_cases hlt : j < N
          · have hltI : (j : Int) < 1 := by have := HNv.out; omega
            have h98 : q.seats + (j : Int) ≤ 9999 := by have := HN8.out; omega
            have hv0 := V0.out
            have cp0 := (blk_cell hv0 0).trans rfl; have cp1 := (blk_cell hv0 1).trans rfl; have cp2 := (blk_cell hv0 2).trans rfl; have cp3 := (blk_cell hv0 3).trans rfl; have cp4 := (blk_cell hv0 4).trans rfl; have cp5 := (blk_cell hv0 5).trans rfl; have cp6 := (blk_cell hv0 6).trans rfl; have cp7 := (blk_cell hv0 7).trans rfl
            have HSTEP := hide (show (if G.always { q with seats := q.seats + (j : Int) } g then some (j : Int) else G.enoughF q g (N - (j + 1)) ((j : Int) + 1)) = G.enough q g by
              have h := HE.out
              rw [show N - j = (N - (j + 1)) + 1 by omega] at h
              exact h)
            clear HE hv0
            go_upto_region 11 with fail
            refine cap_w (M := Code.wp _ _ _ _) _ (fun w2 hw2 => ?_)
            have HB2 := hide (show Below wr.heap.size wr w2 by rw [hw2]; exact zbA (zbR _ _) (Nat.le_refl _) _)
            have HT2 := hide (show w2.heap[wr.heap.size]? = some (.cells #[.int .i64 q.opn, .int .i64 q.lo, .int .i64 q.hi, .int .i64 q.seats, .slice A k c, .slice F m d, .map (some B), .slice O k co] 67 (0, 0)) by rw [hw2]; exact World.alloc_heap_new _ _)
            have V2 := bkT HB2.out V0
            have VB2 := hide (VB.out.trans (HB2.out.mono VB.out.size))
            have HQ0 := hide (show w.heap.size ≤ wr.heap.size from VB.out.size)
            have HQP := hide (show p ≠ wr.heap.size by omega)
            obtain ⟨x, hx⟩ : ∃ x, wr.heap.size = x := ⟨_, rfl⟩
            rw [hx] at HT2 HQ0 HQP ⊢
            clear hw2 hx cp0 cp1 cp2 cp3 cp4 cp5 cp6 cp7 lp
            have d3 : w2.cell? ⟨x, 3, none⟩ = some (.int .i64 q.seats) := (blk_cell HT2.out 3).trans rfl
            have f3 := blk_frozen HT2.out 3
            have l3 := blk_lt HT2.out
            go_upto_region 12 with fail
            refine cap_w (M := Code.wp _ _ _ _) _ (fun w3 hw3 => ?_)
            have HT3 := hide (show w3.heap[x]? = some (.cells #[.int .i64 q.opn, .int .i64 q.lo, .int .i64 q.hi, .int .i64 (q.seats + (j : Int)), .slice A k c, .slice F m d, .map (some B), .slice O k co] 67 (0, 0)) by rw [hw3]; exact blk_set HT2.out 3 _)
            have V3 := hide (show w3.heap[p]? = some (.cells #[.int .i64 q.opn, .int .i64 q.lo, .int .i64 q.hi, .int .i64 q.seats, .slice A k c, .slice F m d, .map (some B), .slice O k co] 67 (0, 0)) by rw [hw3]; exact blk_other V2.out HQP.out 3 _)
            have VB3 := hide (show Below w.heap.size w w3 by rw [hw3]; exact zbS VB2.out HQ0.out _)
            clear hw3 d3 f3 l3 HT2 V2 VB2 HB2
            have ht3 := HT3.out
            have cp0 := (blk_cell ht3 0).trans rfl; have cp1 := (blk_cell ht3 1).trans rfl; have cp2 := (blk_cell ht3 2).trans rfl; have cp3 := (blk_cell ht3 3).trans rfl; have cp4 := (blk_cell ht3 4).trans rfl; have cp5 := (blk_cell ht3 5).trans rfl; have cp6 := (blk_cell ht3 6).trans rfl; have cp7 := (blk_cell ht3 7).trans rfl
            have lx := blk_lt ht3
            have HAL := hide (always_any { q with seats := q.seats + (j : Int) } A k c F m d B O co ord g w3 ((HL.out.below VB3.out).more (by omega)) hg)
            obtain ⟨al, hal⟩ : ∃ al, G.always { q with seats := q.seats + (j : Int) } g = al := ⟨_, rfl⟩
            rw [hal] at HSTEP HAL
            clear ht3 hal
            cases al
            · go_wp2_with (go_at_call 61; (refine HAL.out.mono ?_); rintro e w4 ⟨rfl, hb4⟩; have HB4 := hide hb4; clear hb4)
              go_roundw
              case rel => exact ⟨j + 1, by omega, by go_num, rfl, rfl, hide (by have h := HSTEP.out; rw [if_neg (by decide)] at h; exact h), bkT HB4.out V3, hide (VB3.out.trans (HB4.out.mono VB3.out.size))⟩
              case measure => simp [intOf]; omega
            · go_wp2_with (go_at_call 61; (refine HAL.out.mono ?_); rintro e w4 ⟨rfl, hb4⟩; have HB4 := hide hb4; clear hb4)
              go_ret2
              have h : G.enough q g = some (j : Int) := by rw [← HSTEP.out]; rfl
              exact ⟨by first | rfl | (rw [h]; rfl), by first | exact VB3.out.trans (HB4.out.mono VB3.out.size) | exact hp ▸ VB3.out.trans (HB4.out.mono VB3.out.size)⟩
          · have hjn : j = N := by omega
            have h : G.enough q g = none := by
              rw [← HE.out, hjn, Nat.sub_self]
              rfl
            have hge : ¬ ((j : Int) < 1) := by have := HNv.out; omega
            go_wp2
            go_ret2
            exact ⟨by first | rfl | (rw [h]; rfl), by first | exact VB.out | exact hp ▸ VB.out⟩
end Go.Proofs.Ytlpjkolocgkcpaa

namespace Go.Proofs.Ytlpjkolocgkcpaa
open Go.RowKit
attribute [local go_sem ↓] Go.wp_at_zero Go.wp_at_succ

set_option maxHeartbeats 3200000 in
set_option maxRecDepth 100000 in
theorem People_ref (q : G.Qu) (A : Option Addr) (n c : Nat) (F : Option Addr) (m d : Nat) (w : World) (h : QIn w q A n c F m d) (hv : G.Valid q) :
    Calls Try.prog 32 #[.agg #[.int .i64 q.opn, .int .i64 q.lo, .int .i64 q.hi, .int .i64 q.seats, .slice A n c, .slice F m d]] w fun e w' => e = .returned (.int .i64 (G.people q.gs)) ∧ Below w.heap.size w w' := by
  have HI := hide h
  have HV := hide hv
  have hn40 : n ≤ 40 := by have := hv.gl; have := h.gl; omega
  clear h hv
  go_enter Try.func32, Try.ntmps32
  go_upto_region 1 with fail
  refine cap_w (M := Code.wp _ _ _ _) _ (fun w1 hw1 => ?_)
  have HB1 := hide (show Below w.heap.size w w1 by rw [hw1]; (repeat' first | exact zbR _ _ | assumption | refine zbD ?_ | refine zbA ?_ ?_ _ | refine zbS ?_ ?_ _ | refine zbT ?_ (by assumption) ?_ | (simp; done) | (simp; omega) | omega))
  have HQ := hide (show w1.heap[w.heap.size]? = some (.cells #[.int .i64 q.opn, .int .i64 q.lo, .int .i64 q.hi, .int .i64 q.seats, .slice A n c, .slice F m d] 27 (0, 0)) by rw [hw1]; exact World.alloc_heap_new _ _)
  have HR := hide ((HI.out.below HB1.out).rg)
  clear hw1
  obtain ⟨b0, hb0⟩ : ∃ x, w.heap.size = x := ⟨_, rfl⟩
  have HE0 := hide hb0
  rw [hb0] at HQ ⊢
  clear hb0
  have q4 : w1.cell? ⟨b0, 4, none⟩ = some (.slice A n c) := (blk_cell HQ.out 4).trans rfl
  have lq := blk_lt HQ.out
  go_wp2
  go_loopw [3, 4] (fun v i wr => ∃ k : Nat, k ≤ n ∧ i = .int .i64 (k : Int) ∧ v = .int .i64 ((q.gs.map (·.size)).take k).sum ∧ wr = w1) (fun _ i _ => n - (intOf i).toNat)
  case atStart => exact ⟨0, by omega, rfl, rfl, rfl⟩
  case round =>
    obtain ⟨k, hk, rfl, rfl, rfl⟩ := hrel
    by_cases hlt : k < n
    · obtain ⟨pt, hpt⟩ : ∃ pt, q.gs[k]? = some pt := ⟨_, List.getElem?_eq_getElem (by rw [HI.out.gl]; exact hlt)⟩
      obtain ⟨bg, og, rfl, hbg, _, _, d2, _⟩ := HR.out k pt hpt
      have hsum := sum_take (show (q.gs.map (·.size))[k]? = some pt.size by rw [List.getElem?_map, hpt]; rfl)
      obtain ⟨b0', b1'⟩ := G.people_bd HV.out k
      have hV := G.vParty_iff.1 (HV.out.gv _ (List.mem_of_getElem? hpt))
      have hz0 := hV.z0
      have hz1 := hV.z1
      obtain ⟨ss, hss⟩ : ∃ ss, ((q.gs.map (·.size)).take k).sum = ss := ⟨_, rfl⟩
      rw [hss] at hsum b0' b1' ⊢
      have HSUM := hide hsum
      have hltI : (k : Int) < (n : Int) := by omega
      clear hV hpt hss hsum
      go_wp2
      go_roundw
      case rel => exact ⟨k + 1, by omega, by go_num, by rw [HSUM.out], trivial⟩
      case measure => simp [intOf]; omega
    · have hkn : k = n := by omega
      subst hkn
      rw [G.people_all q HI.out.gl]
      go_wp2
      go_ret
      exact ⟨rfl, HB1.out⟩
end Go.Proofs.Ytlpjkolocgkcpaa

namespace Go.Proofs.Ytlpjkolocgkcpaa
open Go.RowKit
attribute [local go_sem ↓] Go.wp_at_zero Go.wp_at_succ

namespace G
def far (q : Qu) : Bool := valid q && (decide (3 < q.hi - q.lo) || decide (6 < q.gs.length) || decide (24 < people q.gs))
def rdy (q : Qu) (rate : Int) : Bool := !far q && valid q && decide (q.lo ≤ rate) && decide (rate ≤ q.hi)
structure Rdy (q : Qu) (rate : Int) : Prop where
  v : Valid q
  far : q.hi - q.lo ≤ 3
  g6 : q.gs.length ≤ 6
  p24 : people q.gs ≤ 24
  r0 : q.lo ≤ rate
  r1 : rate ≤ q.hi
theorem rdy_get {q : Qu} {rate : Int} (h : rdy q rate = true) : Rdy q rate := by
  unfold rdy G.far at h
  simp only [Bool.and_eq_true, Bool.not_eq_true', decide_eq_true_eq] at h
  obtain ⟨⟨⟨h1, h2⟩, h3⟩, h4⟩ := h
  rw [h2, Bool.true_and] at h1
  simp only [Bool.or_eq_false_iff, decide_eq_false_iff_not, Nat.not_lt, Int.not_lt] at h1
  exact ⟨valid_iff.1 h2, by omega, h1.1.2, h1.2, h3, h4⟩
end G
set_option maxHeartbeats 3200000 in
set_option maxRecDepth 100000 in
theorem far_long (q : G.Qu) (A : Option Addr) (n c : Nat) (F : Option Addr) (m d : Nat) (w : World) (h : 100 < n ∨ 100 < m) :
    Calls Try.prog 12 #[.agg #[.int .i64 q.opn, .int .i64 q.lo, .int .i64 q.hi, .int .i64 q.seats, .slice A n c, .slice F m d]] w fun e w' => e = .returned (.bool true) ∧ Below w.heap.size w w' := by
  by_cases h1 : 100 < n
  · have h1' : (100 : Int) < (n : Int) := by omega
    clear h h1
    go_enter Try.func12, Try.ntmps12
    go_wp2_with fail
    go_ret
    exact ⟨rfl, by (repeat' first | exact zbR _ _ | assumption | refine zbD ?_ | refine zbA ?_ ?_ _ | refine zbS ?_ ?_ _ | refine zbT ?_ (by assumption) ?_ | (simp; done) | (simp; omega) | omega)⟩
  · have h1' : (n : Int) ≤ 100 := by omega
    have h2' : (100 : Int) < (m : Int) := by omega
    clear h h1
    go_enter Try.func12, Try.ntmps12
    go_wp2_with fail
    go_ret
    exact ⟨rfl, by (repeat' first | exact zbR _ _ | assumption | refine zbD ?_ | refine zbA ?_ ?_ _ | refine zbS ?_ ?_ _ | refine zbT ?_ (by assumption) ?_ | (simp; done) | (simp; omega) | omega)⟩
set_option maxHeartbeats 3200000 in
set_option maxRecDepth 100000 in
theorem Far_any (q : G.Qu) (A : Option Addr) (n c : Nat) (F : Option Addr) (m d : Nat) (w : World) (h : QIn w q A n c F m d) (hn : n ≤ 100) (hm : m ≤ 100) :
    Calls Try.prog 12 #[.agg #[.int .i64 q.opn, .int .i64 q.lo, .int .i64 q.hi, .int .i64 q.seats, .slice A n c, .slice F m d]] w fun e w' => e = .returned (.bool (G.far q)) ∧ Below w.heap.size w w' := by
  have HI := hide h
  have hn' : (n : Int) ≤ 100 := by omega
  have hm' : (m : Int) ≤ 100 := by omega
  clear h
  cases hv : G.valid q
  · have HV := hide hv
    have HE := hide (show G.checkE q = 110 by unfold G.checkE; rw [hv]; rfl)
    have HR := hide (show G.far q = false by unfold G.far; rw [hv]; rfl)
    clear hv
    go_enter Try.func12, Try.ntmps12
    go_wp2_with (go_at_call 16; (with_reducible refine (Check_ref q A n c F m d _ (HI.out.below (show Below w.heap.size w _ by (repeat' first | exact zbR _ _ | assumption | refine zbD ?_ | refine zbA ?_ ?_ _ | refine zbS ?_ ?_ _ | refine zbT ?_ (by assumption) ?_ | (simp; done) | (simp; omega) | omega)))).mono ?_); rintro e w2 ⟨rfl, hb2⟩; rw [HE.out]; have HB2 := hide (zbT (show Below w.heap.size w _ by (repeat' first | exact zbR _ _ | assumption | refine zbD ?_ | refine zbA ?_ ?_ _ | refine zbS ?_ ?_ _ | refine zbT ?_ (by assumption) ?_ | (simp; done) | (simp; omega) | omega)) hb2 (by simp)); have HQ2 := hide ((hb2.block _ (by simp)).trans (World.alloc_heap_new w (.cells #[.int .i64 q.opn, .int .i64 q.lo, .int .i64 q.hi, .int .i64 q.seats, .slice A n c, .slice F m d] 27 (0, 0)))); clear hb2)
    go_ret
    exact ⟨by rw [HR.out]; first | rfl | (simp; omega), HB2.out⟩
  · have HV := hide hv
    have HE := hide (show G.checkE q = 0 by unfold G.checkE; rw [hv]; rfl)
    have hV := G.valid_iff.1 hv
    have hw : IntKind.i64.wrap (q.hi - q.lo) = q.hi - q.lo := IntWalk.i64_in _ (by have := hV.l0; have := hV.lh; have := hV.h1; omega)
    have HGL := hide HI.out.gl
    clear hv hV
    by_cases h3 : 3 < q.hi - q.lo
    · have HR := hide (show G.far q = true by unfold G.far; rw [HV.out]; simp [h3])
      go_enter Try.func12, Try.ntmps12
      go_upto_region 3 with fail
      go_wp2_with (go_at_call 16; (with_reducible refine (Check_ref q A n c F m d _ (HI.out.below (show Below w.heap.size w _ by (repeat' first | exact zbR _ _ | assumption | refine zbD ?_ | refine zbA ?_ ?_ _ | refine zbS ?_ ?_ _ | refine zbT ?_ (by assumption) ?_ | (simp; done) | (simp; omega) | omega)))).mono ?_); rintro e w2 ⟨rfl, hb2⟩; rw [HE.out]; have HB2 := hide (zbT (show Below w.heap.size w _ by (repeat' first | exact zbR _ _ | assumption | refine zbD ?_ | refine zbA ?_ ?_ _ | refine zbS ?_ ?_ _ | refine zbT ?_ (by assumption) ?_ | (simp; done) | (simp; omega) | omega)) hb2 (by simp)); have HQ2 := hide ((hb2.block _ (by simp)).trans (World.alloc_heap_new w (.cells #[.int .i64 q.opn, .int .i64 q.lo, .int .i64 q.hi, .int .i64 q.seats, .slice A n c, .slice F m d] 27 (0, 0)))); clear hb2; have q0 : w2.cell? ⟨w.heap.size, 0, none⟩ = some (.int .i64 q.opn) := (blk_cell HQ2.out 0).trans rfl; have q1 : w2.cell? ⟨w.heap.size, 1, none⟩ = some (.int .i64 q.lo) := (blk_cell HQ2.out 1).trans rfl; have q2 : w2.cell? ⟨w.heap.size, 2, none⟩ = some (.int .i64 q.hi) := (blk_cell HQ2.out 2).trans rfl; have q3 : w2.cell? ⟨w.heap.size, 3, none⟩ = some (.int .i64 q.seats) := (blk_cell HQ2.out 3).trans rfl; have q4 : w2.cell? ⟨w.heap.size, 4, none⟩ = some (.slice A n c) := (blk_cell HQ2.out 4).trans rfl; have q5 : w2.cell? ⟨w.heap.size, 5, none⟩ = some (.slice F m d) := (blk_cell HQ2.out 5).trans rfl; have lq := blk_lt HQ2.out)
      go_ret
      exact ⟨by rw [HR.out]; first | rfl | (simp; omega), HB2.out⟩
    · have h3' : q.hi - q.lo ≤ 3 := by omega
      by_cases h6 : 6 < n
      · have HR := hide (show G.far q = true by unfold G.far; rw [HV.out, HGL.out]; simp [h6])
        have h6' : (6 : Int) < (n : Int) := by omega
        clear h3
        go_enter Try.func12, Try.ntmps12
        go_upto_region 3 with fail
        go_wp2_with (go_at_call 16; (with_reducible refine (Check_ref q A n c F m d _ (HI.out.below (show Below w.heap.size w _ by (repeat' first | exact zbR _ _ | assumption | refine zbD ?_ | refine zbA ?_ ?_ _ | refine zbS ?_ ?_ _ | refine zbT ?_ (by assumption) ?_ | (simp; done) | (simp; omega) | omega)))).mono ?_); rintro e w2 ⟨rfl, hb2⟩; rw [HE.out]; have HB2 := hide (zbT (show Below w.heap.size w _ by (repeat' first | exact zbR _ _ | assumption | refine zbD ?_ | refine zbA ?_ ?_ _ | refine zbS ?_ ?_ _ | refine zbT ?_ (by assumption) ?_ | (simp; done) | (simp; omega) | omega)) hb2 (by simp)); have HQ2 := hide ((hb2.block _ (by simp)).trans (World.alloc_heap_new w (.cells #[.int .i64 q.opn, .int .i64 q.lo, .int .i64 q.hi, .int .i64 q.seats, .slice A n c, .slice F m d] 27 (0, 0)))); clear hb2; have q0 : w2.cell? ⟨w.heap.size, 0, none⟩ = some (.int .i64 q.opn) := (blk_cell HQ2.out 0).trans rfl; have q1 : w2.cell? ⟨w.heap.size, 1, none⟩ = some (.int .i64 q.lo) := (blk_cell HQ2.out 1).trans rfl; have q2 : w2.cell? ⟨w.heap.size, 2, none⟩ = some (.int .i64 q.hi) := (blk_cell HQ2.out 2).trans rfl; have q3 : w2.cell? ⟨w.heap.size, 3, none⟩ = some (.int .i64 q.seats) := (blk_cell HQ2.out 3).trans rfl; have q4 : w2.cell? ⟨w.heap.size, 4, none⟩ = some (.slice A n c) := (blk_cell HQ2.out 4).trans rfl; have q5 : w2.cell? ⟨w.heap.size, 5, none⟩ = some (.slice F m d) := (blk_cell HQ2.out 5).trans rfl; have lq := blk_lt HQ2.out)
        go_ret
        exact ⟨by rw [HR.out]; first | rfl | (simp; omega), HB2.out⟩
      · have h6' : (n : Int) ≤ 6 := by omega
        by_cases h24 : 24 < G.people q.gs
        · have HR := hide (show G.far q = true by unfold G.far; rw [HV.out]; simp [h24])
          clear h3 h6
          go_enter Try.func12, Try.ntmps12
          go_upto_region 3 with fail
          go_wp2_with (first | (go_at_call 16; (with_reducible refine (Check_ref q A n c F m d _ (HI.out.below (show Below w.heap.size w _ by (repeat' first | exact zbR _ _ | assumption | refine zbD ?_ | refine zbA ?_ ?_ _ | refine zbS ?_ ?_ _ | refine zbT ?_ (by assumption) ?_ | (simp; done) | (simp; omega) | omega)))).mono ?_); rintro e w2 ⟨rfl, hb2⟩; rw [HE.out]; have HB2 := hide (zbT (show Below w.heap.size w _ by (repeat' first | exact zbR _ _ | assumption | refine zbD ?_ | refine zbA ?_ ?_ _ | refine zbS ?_ ?_ _ | refine zbT ?_ (by assumption) ?_ | (simp; done) | (simp; omega) | omega)) hb2 (by simp)); have HQ2 := hide ((hb2.block _ (by simp)).trans (World.alloc_heap_new w (.cells #[.int .i64 q.opn, .int .i64 q.lo, .int .i64 q.hi, .int .i64 q.seats, .slice A n c, .slice F m d] 27 (0, 0)))); clear hb2; have q0 : w2.cell? ⟨w.heap.size, 0, none⟩ = some (.int .i64 q.opn) := (blk_cell HQ2.out 0).trans rfl; have q1 : w2.cell? ⟨w.heap.size, 1, none⟩ = some (.int .i64 q.lo) := (blk_cell HQ2.out 1).trans rfl; have q2 : w2.cell? ⟨w.heap.size, 2, none⟩ = some (.int .i64 q.hi) := (blk_cell HQ2.out 2).trans rfl; have q3 : w2.cell? ⟨w.heap.size, 3, none⟩ = some (.int .i64 q.seats) := (blk_cell HQ2.out 3).trans rfl; have q4 : w2.cell? ⟨w.heap.size, 4, none⟩ = some (.slice A n c) := (blk_cell HQ2.out 4).trans rfl; have q5 : w2.cell? ⟨w.heap.size, 5, none⟩ = some (.slice F m d) := (blk_cell HQ2.out 5).trans rfl; have lq := blk_lt HQ2.out) | (go_at_call 32; (with_reducible refine (People_ref q A n c F m d _ (HI.out.below HB2.out) (G.valid_iff.1 HV.out)).mono ?_); rintro e w3 ⟨rfl, hb3⟩; have HB3 := hide (zbT HB2.out hb3 HB2.out.size); clear hb3))
          go_ret
          exact ⟨by rw [HR.out]; first | rfl | (simp; omega), HB3.out⟩
        · have HR := hide (show G.far q = false by unfold G.far; rw [HV.out, HGL.out]; simp [h3, h6, h24])
          have h24' : G.people q.gs ≤ 24 := by omega
          clear h3 h6 h24
          go_enter Try.func12, Try.ntmps12
          go_upto_region 3 with fail
          go_wp2_with (first | (go_at_call 16; (with_reducible refine (Check_ref q A n c F m d _ (HI.out.below (show Below w.heap.size w _ by (repeat' first | exact zbR _ _ | assumption | refine zbD ?_ | refine zbA ?_ ?_ _ | refine zbS ?_ ?_ _ | refine zbT ?_ (by assumption) ?_ | (simp; done) | (simp; omega) | omega)))).mono ?_); rintro e w2 ⟨rfl, hb2⟩; rw [HE.out]; have HB2 := hide (zbT (show Below w.heap.size w _ by (repeat' first | exact zbR _ _ | assumption | refine zbD ?_ | refine zbA ?_ ?_ _ | refine zbS ?_ ?_ _ | refine zbT ?_ (by assumption) ?_ | (simp; done) | (simp; omega) | omega)) hb2 (by simp)); have HQ2 := hide ((hb2.block _ (by simp)).trans (World.alloc_heap_new w (.cells #[.int .i64 q.opn, .int .i64 q.lo, .int .i64 q.hi, .int .i64 q.seats, .slice A n c, .slice F m d] 27 (0, 0)))); clear hb2; have q0 : w2.cell? ⟨w.heap.size, 0, none⟩ = some (.int .i64 q.opn) := (blk_cell HQ2.out 0).trans rfl; have q1 : w2.cell? ⟨w.heap.size, 1, none⟩ = some (.int .i64 q.lo) := (blk_cell HQ2.out 1).trans rfl; have q2 : w2.cell? ⟨w.heap.size, 2, none⟩ = some (.int .i64 q.hi) := (blk_cell HQ2.out 2).trans rfl; have q3 : w2.cell? ⟨w.heap.size, 3, none⟩ = some (.int .i64 q.seats) := (blk_cell HQ2.out 3).trans rfl; have q4 : w2.cell? ⟨w.heap.size, 4, none⟩ = some (.slice A n c) := (blk_cell HQ2.out 4).trans rfl; have q5 : w2.cell? ⟨w.heap.size, 5, none⟩ = some (.slice F m d) := (blk_cell HQ2.out 5).trans rfl; have lq := blk_lt HQ2.out) | (go_at_call 32; (with_reducible refine (People_ref q A n c F m d _ (HI.out.below HB2.out) (G.valid_iff.1 HV.out)).mono ?_); rintro e w3 ⟨rfl, hb3⟩; have HB3 := hide (zbT HB2.out hb3 HB2.out.size); clear hb3))
          go_ret
          exact ⟨by rw [HR.out]; first | rfl | (simp; omega), HB3.out⟩
set_option maxHeartbeats 3200000 in
set_option maxRecDepth 100000 in
theorem ready_long (q : G.Qu) (A : Option Addr) (n c : Nat) (F : Option Addr) (m d : Nat) (rate : Int) (w : World) (h : 100 < n ∨ 100 < m) :
    Calls Try.prog 30 #[.agg #[.int .i64 q.opn, .int .i64 q.lo, .int .i64 q.hi, .int .i64 q.seats, .slice A n c, .slice F m d], .int .i64 rate] w fun e w' => e = .returned (.bool false) ∧ Below w.heap.size w w' := by
  have HH := hide h
  clear h
  go_enter Try.func30, Try.ntmps30
  go_wp2_with (go_at_call 12; (with_reducible refine (far_long q A n c F m d _ HH.out).mono ?_); rintro e w2 ⟨rfl, hb2⟩; have HB2 := hide (zbT (show Below w.heap.size w _ by (repeat' first | exact zbR _ _ | assumption | refine zbD ?_ | refine zbA ?_ ?_ _ | refine zbS ?_ ?_ _ | refine zbT ?_ (by assumption) ?_ | (simp; done) | (simp; omega) | omega)) hb2 (by simp)); clear hb2)
  go_ret
  exact ⟨rfl, HB2.out⟩
set_option maxHeartbeats 3200000 in
set_option maxRecDepth 100000 in
theorem ready_any (q : G.Qu) (A : Option Addr) (n c : Nat) (F : Option Addr) (m d : Nat) (rate : Int) (w : World) (h : QIn w q A n c F m d) (hn : n ≤ 100) (hm : m ≤ 100) :
    Calls Try.prog 30 #[.agg #[.int .i64 q.opn, .int .i64 q.lo, .int .i64 q.hi, .int .i64 q.seats, .slice A n c, .slice F m d], .int .i64 rate] w fun e w' => e = .returned (.bool (G.rdy q rate)) ∧ Below w.heap.size w w' := by
  have HI := hide h
  clear h
  cases hf : G.far q
  · have HF := hide hf
    cases hv : G.valid q
    · have HE := hide (show G.checkE q = 110 by unfold G.checkE; rw [hv]; rfl)
      have HR := hide (show G.rdy q rate = false by unfold G.rdy; rw [hv]; simp)
      clear hf hv
      go_enter Try.func30, Try.ntmps30
      go_wp2_with (first | (go_at_call 12; (with_reducible refine (Far_any q A n c F m d _ (HI.out.below (show Below w.heap.size w _ by (repeat' first | exact zbR _ _ | assumption | refine zbD ?_ | refine zbA ?_ ?_ _ | refine zbS ?_ ?_ _ | refine zbT ?_ (by assumption) ?_ | (simp; done) | (simp; omega) | omega))) hn hm).mono ?_); rintro e w2 ⟨rfl, hb2⟩; rw [HF.out]; have HB2 := hide (zbT (show Below w.heap.size w _ by (repeat' first | exact zbR _ _ | assumption | refine zbD ?_ | refine zbA ?_ ?_ _ | refine zbS ?_ ?_ _ | refine zbT ?_ (by assumption) ?_ | (simp; done) | (simp; omega) | omega)) hb2 (by simp)); have HQ2 := hide ((hb2.block _ (by simp)).trans (World.alloc_heap_new w (.cells #[.int .i64 q.opn, .int .i64 q.lo, .int .i64 q.hi, .int .i64 q.seats, .slice A n c, .slice F m d] 27 (0, 0)))); clear hb2; have q0 : w2.cell? ⟨w.heap.size, 0, none⟩ = some (.int .i64 q.opn) := (blk_cell HQ2.out 0).trans rfl; have q1 : w2.cell? ⟨w.heap.size, 1, none⟩ = some (.int .i64 q.lo) := (blk_cell HQ2.out 1).trans rfl; have q2 : w2.cell? ⟨w.heap.size, 2, none⟩ = some (.int .i64 q.hi) := (blk_cell HQ2.out 2).trans rfl; have q3 : w2.cell? ⟨w.heap.size, 3, none⟩ = some (.int .i64 q.seats) := (blk_cell HQ2.out 3).trans rfl; have q4 : w2.cell? ⟨w.heap.size, 4, none⟩ = some (.slice A n c) := (blk_cell HQ2.out 4).trans rfl; have q5 : w2.cell? ⟨w.heap.size, 5, none⟩ = some (.slice F m d) := (blk_cell HQ2.out 5).trans rfl; have lq := blk_lt HQ2.out) | (go_at_call 16; (with_reducible refine (Check_ref q A n c F m d _ (HI.out.below HB2.out)).mono ?_); rintro e w4 ⟨rfl, hb4⟩; rw [HE.out]; have HB4 := hide (zbT HB2.out hb4 HB2.out.size); have HQ4 := bkT hb4 HQ2; clear hb4 q0 q1 q2 q3 q4 q5 lq; have q0 : w4.cell? ⟨w.heap.size, 0, none⟩ = some (.int .i64 q.opn) := (blk_cell HQ4.out 0).trans rfl; have q1 : w4.cell? ⟨w.heap.size, 1, none⟩ = some (.int .i64 q.lo) := (blk_cell HQ4.out 1).trans rfl; have q2 : w4.cell? ⟨w.heap.size, 2, none⟩ = some (.int .i64 q.hi) := (blk_cell HQ4.out 2).trans rfl; have q3 : w4.cell? ⟨w.heap.size, 3, none⟩ = some (.int .i64 q.seats) := (blk_cell HQ4.out 3).trans rfl; have q4 : w4.cell? ⟨w.heap.size, 4, none⟩ = some (.slice A n c) := (blk_cell HQ4.out 4).trans rfl; have q5 : w4.cell? ⟨w.heap.size, 5, none⟩ = some (.slice F m d) := (blk_cell HQ4.out 5).trans rfl; have lq := blk_lt HQ4.out))
      go_ret
      exact ⟨by rw [HR.out]; first | rfl | (simp; omega), HB4.out⟩
    · have HE := hide (show G.checkE q = 0 by unfold G.checkE; rw [hv]; rfl)
      have HV := hide hv
      clear hv
      by_cases h1 : q.lo ≤ rate
      · by_cases h2 : rate ≤ q.hi
        · have HR := hide (show G.rdy q rate = true by unfold G.rdy; rw [hf, HV.out]; simp [h1, h2])
          clear hf
          go_enter Try.func30, Try.ntmps30
          go_wp2_with (first | (go_at_call 12; (with_reducible refine (Far_any q A n c F m d _ (HI.out.below (show Below w.heap.size w _ by (repeat' first | exact zbR _ _ | assumption | refine zbD ?_ | refine zbA ?_ ?_ _ | refine zbS ?_ ?_ _ | refine zbT ?_ (by assumption) ?_ | (simp; done) | (simp; omega) | omega))) hn hm).mono ?_); rintro e w2 ⟨rfl, hb2⟩; rw [HF.out]; have HB2 := hide (zbT (show Below w.heap.size w _ by (repeat' first | exact zbR _ _ | assumption | refine zbD ?_ | refine zbA ?_ ?_ _ | refine zbS ?_ ?_ _ | refine zbT ?_ (by assumption) ?_ | (simp; done) | (simp; omega) | omega)) hb2 (by simp)); have HQ2 := hide ((hb2.block _ (by simp)).trans (World.alloc_heap_new w (.cells #[.int .i64 q.opn, .int .i64 q.lo, .int .i64 q.hi, .int .i64 q.seats, .slice A n c, .slice F m d] 27 (0, 0)))); clear hb2; have q0 : w2.cell? ⟨w.heap.size, 0, none⟩ = some (.int .i64 q.opn) := (blk_cell HQ2.out 0).trans rfl; have q1 : w2.cell? ⟨w.heap.size, 1, none⟩ = some (.int .i64 q.lo) := (blk_cell HQ2.out 1).trans rfl; have q2 : w2.cell? ⟨w.heap.size, 2, none⟩ = some (.int .i64 q.hi) := (blk_cell HQ2.out 2).trans rfl; have q3 : w2.cell? ⟨w.heap.size, 3, none⟩ = some (.int .i64 q.seats) := (blk_cell HQ2.out 3).trans rfl; have q4 : w2.cell? ⟨w.heap.size, 4, none⟩ = some (.slice A n c) := (blk_cell HQ2.out 4).trans rfl; have q5 : w2.cell? ⟨w.heap.size, 5, none⟩ = some (.slice F m d) := (blk_cell HQ2.out 5).trans rfl; have lq := blk_lt HQ2.out) | (go_at_call 16; (with_reducible refine (Check_ref q A n c F m d _ (HI.out.below HB2.out)).mono ?_); rintro e w4 ⟨rfl, hb4⟩; rw [HE.out]; have HB4 := hide (zbT HB2.out hb4 HB2.out.size); have HQ4 := bkT hb4 HQ2; clear hb4 q0 q1 q2 q3 q4 q5 lq; have q0 : w4.cell? ⟨w.heap.size, 0, none⟩ = some (.int .i64 q.opn) := (blk_cell HQ4.out 0).trans rfl; have q1 : w4.cell? ⟨w.heap.size, 1, none⟩ = some (.int .i64 q.lo) := (blk_cell HQ4.out 1).trans rfl; have q2 : w4.cell? ⟨w.heap.size, 2, none⟩ = some (.int .i64 q.hi) := (blk_cell HQ4.out 2).trans rfl; have q3 : w4.cell? ⟨w.heap.size, 3, none⟩ = some (.int .i64 q.seats) := (blk_cell HQ4.out 3).trans rfl; have q4 : w4.cell? ⟨w.heap.size, 4, none⟩ = some (.slice A n c) := (blk_cell HQ4.out 4).trans rfl; have q5 : w4.cell? ⟨w.heap.size, 5, none⟩ = some (.slice F m d) := (blk_cell HQ4.out 5).trans rfl; have lq := blk_lt HQ4.out))
          go_ret
          exact ⟨by rw [HR.out]; first | rfl | (simp; omega), HB4.out⟩
        · have HR := hide (show G.rdy q rate = false by unfold G.rdy; rw [hf, HV.out]; simp [h2])
          have h2' : q.hi < rate := by omega
          clear hf h2
          go_enter Try.func30, Try.ntmps30
          go_wp2_with (first | (go_at_call 12; (with_reducible refine (Far_any q A n c F m d _ (HI.out.below (show Below w.heap.size w _ by (repeat' first | exact zbR _ _ | assumption | refine zbD ?_ | refine zbA ?_ ?_ _ | refine zbS ?_ ?_ _ | refine zbT ?_ (by assumption) ?_ | (simp; done) | (simp; omega) | omega))) hn hm).mono ?_); rintro e w2 ⟨rfl, hb2⟩; rw [HF.out]; have HB2 := hide (zbT (show Below w.heap.size w _ by (repeat' first | exact zbR _ _ | assumption | refine zbD ?_ | refine zbA ?_ ?_ _ | refine zbS ?_ ?_ _ | refine zbT ?_ (by assumption) ?_ | (simp; done) | (simp; omega) | omega)) hb2 (by simp)); have HQ2 := hide ((hb2.block _ (by simp)).trans (World.alloc_heap_new w (.cells #[.int .i64 q.opn, .int .i64 q.lo, .int .i64 q.hi, .int .i64 q.seats, .slice A n c, .slice F m d] 27 (0, 0)))); clear hb2; have q0 : w2.cell? ⟨w.heap.size, 0, none⟩ = some (.int .i64 q.opn) := (blk_cell HQ2.out 0).trans rfl; have q1 : w2.cell? ⟨w.heap.size, 1, none⟩ = some (.int .i64 q.lo) := (blk_cell HQ2.out 1).trans rfl; have q2 : w2.cell? ⟨w.heap.size, 2, none⟩ = some (.int .i64 q.hi) := (blk_cell HQ2.out 2).trans rfl; have q3 : w2.cell? ⟨w.heap.size, 3, none⟩ = some (.int .i64 q.seats) := (blk_cell HQ2.out 3).trans rfl; have q4 : w2.cell? ⟨w.heap.size, 4, none⟩ = some (.slice A n c) := (blk_cell HQ2.out 4).trans rfl; have q5 : w2.cell? ⟨w.heap.size, 5, none⟩ = some (.slice F m d) := (blk_cell HQ2.out 5).trans rfl; have lq := blk_lt HQ2.out) | (go_at_call 16; (with_reducible refine (Check_ref q A n c F m d _ (HI.out.below HB2.out)).mono ?_); rintro e w4 ⟨rfl, hb4⟩; rw [HE.out]; have HB4 := hide (zbT HB2.out hb4 HB2.out.size); have HQ4 := bkT hb4 HQ2; clear hb4 q0 q1 q2 q3 q4 q5 lq; have q0 : w4.cell? ⟨w.heap.size, 0, none⟩ = some (.int .i64 q.opn) := (blk_cell HQ4.out 0).trans rfl; have q1 : w4.cell? ⟨w.heap.size, 1, none⟩ = some (.int .i64 q.lo) := (blk_cell HQ4.out 1).trans rfl; have q2 : w4.cell? ⟨w.heap.size, 2, none⟩ = some (.int .i64 q.hi) := (blk_cell HQ4.out 2).trans rfl; have q3 : w4.cell? ⟨w.heap.size, 3, none⟩ = some (.int .i64 q.seats) := (blk_cell HQ4.out 3).trans rfl; have q4 : w4.cell? ⟨w.heap.size, 4, none⟩ = some (.slice A n c) := (blk_cell HQ4.out 4).trans rfl; have q5 : w4.cell? ⟨w.heap.size, 5, none⟩ = some (.slice F m d) := (blk_cell HQ4.out 5).trans rfl; have lq := blk_lt HQ4.out))
          go_ret
          exact ⟨by rw [HR.out]; first | rfl | (simp; omega), HB4.out⟩
      · have HR := hide (show G.rdy q rate = false by unfold G.rdy; rw [hf, HV.out]; simp [h1])
        have h1' : rate < q.lo := by omega
        clear hf h1
        go_enter Try.func30, Try.ntmps30
        go_wp2_with (first | (go_at_call 12; (with_reducible refine (Far_any q A n c F m d _ (HI.out.below (show Below w.heap.size w _ by (repeat' first | exact zbR _ _ | assumption | refine zbD ?_ | refine zbA ?_ ?_ _ | refine zbS ?_ ?_ _ | refine zbT ?_ (by assumption) ?_ | (simp; done) | (simp; omega) | omega))) hn hm).mono ?_); rintro e w2 ⟨rfl, hb2⟩; rw [HF.out]; have HB2 := hide (zbT (show Below w.heap.size w _ by (repeat' first | exact zbR _ _ | assumption | refine zbD ?_ | refine zbA ?_ ?_ _ | refine zbS ?_ ?_ _ | refine zbT ?_ (by assumption) ?_ | (simp; done) | (simp; omega) | omega)) hb2 (by simp)); have HQ2 := hide ((hb2.block _ (by simp)).trans (World.alloc_heap_new w (.cells #[.int .i64 q.opn, .int .i64 q.lo, .int .i64 q.hi, .int .i64 q.seats, .slice A n c, .slice F m d] 27 (0, 0)))); clear hb2; have q0 : w2.cell? ⟨w.heap.size, 0, none⟩ = some (.int .i64 q.opn) := (blk_cell HQ2.out 0).trans rfl; have q1 : w2.cell? ⟨w.heap.size, 1, none⟩ = some (.int .i64 q.lo) := (blk_cell HQ2.out 1).trans rfl; have q2 : w2.cell? ⟨w.heap.size, 2, none⟩ = some (.int .i64 q.hi) := (blk_cell HQ2.out 2).trans rfl; have q3 : w2.cell? ⟨w.heap.size, 3, none⟩ = some (.int .i64 q.seats) := (blk_cell HQ2.out 3).trans rfl; have q4 : w2.cell? ⟨w.heap.size, 4, none⟩ = some (.slice A n c) := (blk_cell HQ2.out 4).trans rfl; have q5 : w2.cell? ⟨w.heap.size, 5, none⟩ = some (.slice F m d) := (blk_cell HQ2.out 5).trans rfl; have lq := blk_lt HQ2.out) | (go_at_call 16; (with_reducible refine (Check_ref q A n c F m d _ (HI.out.below HB2.out)).mono ?_); rintro e w4 ⟨rfl, hb4⟩; rw [HE.out]; have HB4 := hide (zbT HB2.out hb4 HB2.out.size); have HQ4 := bkT hb4 HQ2; clear hb4 q0 q1 q2 q3 q4 q5 lq; have q0 : w4.cell? ⟨w.heap.size, 0, none⟩ = some (.int .i64 q.opn) := (blk_cell HQ4.out 0).trans rfl; have q1 : w4.cell? ⟨w.heap.size, 1, none⟩ = some (.int .i64 q.lo) := (blk_cell HQ4.out 1).trans rfl; have q2 : w4.cell? ⟨w.heap.size, 2, none⟩ = some (.int .i64 q.hi) := (blk_cell HQ4.out 2).trans rfl; have q3 : w4.cell? ⟨w.heap.size, 3, none⟩ = some (.int .i64 q.seats) := (blk_cell HQ4.out 3).trans rfl; have q4 : w4.cell? ⟨w.heap.size, 4, none⟩ = some (.slice A n c) := (blk_cell HQ4.out 4).trans rfl; have q5 : w4.cell? ⟨w.heap.size, 5, none⟩ = some (.slice F m d) := (blk_cell HQ4.out 5).trans rfl; have lq := blk_lt HQ4.out))
        go_ret
        exact ⟨by rw [HR.out]; first | rfl | (simp; omega), HB4.out⟩
  · have HF := hide hf
    have HR := hide (show G.rdy q rate = false by unfold G.rdy; rw [hf]; rfl)
    clear hf
    go_enter Try.func30, Try.ntmps30
    go_wp2_with (go_at_call 12; (with_reducible refine (Far_any q A n c F m d _ (HI.out.below (show Below w.heap.size w _ by (repeat' first | exact zbR _ _ | assumption | refine zbD ?_ | refine zbA ?_ ?_ _ | refine zbS ?_ ?_ _ | refine zbT ?_ (by assumption) ?_ | (simp; done) | (simp; omega) | omega))) hn hm).mono ?_); rintro e w2 ⟨rfl, hb2⟩; rw [HF.out]; have HB2 := hide (zbT (show Below w.heap.size w _ by (repeat' first | exact zbR _ _ | assumption | refine zbD ?_ | refine zbA ?_ ?_ _ | refine zbS ?_ ?_ _ | refine zbT ?_ (by assumption) ?_ | (simp; done) | (simp; omega) | omega)) hb2 (by simp)); have HQ2 := hide ((hb2.block _ (by simp)).trans (World.alloc_heap_new w (.cells #[.int .i64 q.opn, .int .i64 q.lo, .int .i64 q.hi, .int .i64 q.seats, .slice A n c, .slice F m d] 27 (0, 0)))); clear hb2; have q0 : w2.cell? ⟨w.heap.size, 0, none⟩ = some (.int .i64 q.opn) := (blk_cell HQ2.out 0).trans rfl; have q1 : w2.cell? ⟨w.heap.size, 1, none⟩ = some (.int .i64 q.lo) := (blk_cell HQ2.out 1).trans rfl; have q2 : w2.cell? ⟨w.heap.size, 2, none⟩ = some (.int .i64 q.hi) := (blk_cell HQ2.out 2).trans rfl; have q3 : w2.cell? ⟨w.heap.size, 3, none⟩ = some (.int .i64 q.seats) := (blk_cell HQ2.out 3).trans rfl; have q4 : w2.cell? ⟨w.heap.size, 4, none⟩ = some (.slice A n c) := (blk_cell HQ2.out 4).trans rfl; have q5 : w2.cell? ⟨w.heap.size, 5, none⟩ = some (.slice F m d) := (blk_cell HQ2.out 5).trans rfl; have lq := blk_lt HQ2.out)
    go_ret
    exact ⟨by rw [HR.out]; first | rfl | (simp; omega), HB2.out⟩
end Go.Proofs.Ytlpjkolocgkcpaa

namespace Go.Proofs.Ytlpjkolocgkcpaa
namespace G

theorem run_idsT (S : Int → Int) (rate opn : Int) : ∀ (l : List Pt) (s : Mo), (run S rate opn l s).map (·.1) = l.map (·.id)
  | [], _ => rfl
  | p :: r, s => by
    unfold run
    rw [List.map_cons, List.map_cons, run_idsT S rate opn r]
theorem look_atT : ∀ {R : List (Int × Int)} {j : Nat} {id v : Int}, (R.map (·.1)).Nodup → R[j]? = some (id, v) → look id R = v
  | [], j, id, v, _, h => by simp at h
  | x :: r, 0, id, v, _, h => by
    have hx : x = (id, v) := Option.some.inj h
    subst hx
    unfold look
    rw [List.find?_cons_of_pos (by simp)]
    rfl
  | x :: r, j + 1, id, v, hn, h => by
    rw [List.map_cons, List.nodup_cons] at hn
    have hx : x.1 ≠ id := by
      intro e
      rw [List.getElem?_cons_succ] at h
      exact hn.1 (List.mem_map.2 ⟨(id, v), List.mem_of_getElem? h, e.symm⟩)
    unfold look
    rw [List.find?_cons_of_neg (by simpa using hx)]
    exact look_atT hn.2 h
def R (q : Qu) (rate : Int) : List (Int × Int) := run q.S rate q.opn (srt q.gs) ⟨0, 0, 0⟩
theorem R_nodup {q : Qu} (hv : Valid q) (rate : Int) : ((R q rate).map (·.1)).Nodup := by
  unfold R
  rw [run_idsT]
  exact ((srt_perm q.gs).map _).nodup_iff.2 hv.gn
theorem R_length (q : Qu) (rate : Int) : (R q rate).length = (srt q.gs).length := by
  have h := congrArg List.length (run_idsT q.S rate q.opn (srt q.gs) ⟨0, 0, 0⟩)
  simpa [R] using h
theorem R_at {q : Qu} (hv : Valid q) (rate : Int) {j : Nat} {p : Pt} (h : (srt q.gs)[j]? = some p) : (R q rate)[j]? = some (p.id, look p.id (R q rate)) := by
  have hl : j < (R q rate).length := by rw [R_length]; exact (List.getElem?_eq_some_iff.1 h).1
  obtain ⟨x, hx⟩ : ∃ x, (R q rate)[j]? = some x := ⟨_, List.getElem?_eq_getElem hl⟩
  have h1 : ((R q rate).map (·.1))[j]? = some p.id := by
    unfold R
    rw [run_idsT, List.getElem?_map, h]
    rfl
  rw [List.getElem?_map, hx] at h1
  have h2 : x.1 = p.id := Option.some.inj h1
  have h3 : x = (p.id, x.2) := by rw [← h2]
  rw [h3] at hx
  rw [hx, look_atT (R_nodup hv rate) hx]
theorem enter_getT (q : Qu) (rate : Int) {i : Nat} {p : Pt} (h : q.gs[i]? = some p) : (enter q rate)[i]? = some (look p.id (R q rate)) := by
  unfold enter
  rw [List.getElem?_map, h]
  rfl
theorem mo0 {rate : Int} (hr : 1 ≤ rate) : Mo.Ok rate ⟨0, 0, 0⟩ := ⟨Int.le_refl _, Int.le_refl _, by show (0 : Int) < rate; omega⟩
theorem srt_size {q : Qu} (hv : Valid q) : ∀ p ∈ srt q.gs, 1 ≤ p.size := fun p hp => (vParty_iff.1 (hv.gv p ((srt_perm _).mem_iff.1 hp))).z0
theorem sumF_nonneg {fs : List Fr} (h : ∀ f ∈ fs, vFree f = true) (m : Int) : 0 ≤ sumF fs m := by
  induction fs with
  | nil => exact Int.le_refl _
  | cons f r ih =>
    have h1 := ih (fun x hx => h x (List.mem_cons_of_mem _ hx))
    have h2 := (vFree_iff.1 (h f (List.mem_cons_self ..))).2.1
    unfold sumF at h1 ⊢
    rw [List.filter_cons]
    split
    · rw [List.map_cons, List.sum_cons]; omega
    · exact h1
end G
end Go.Proofs.Ytlpjkolocgkcpaa

namespace Go.Proofs.Ytlpjkolocgkcpaa
open Go.RowKit
attribute [local go_sem ↓] Go.wp_at_zero Go.wp_at_succ

theorem TgN.idx {q : G.Qu} {n : Nat} {Fn : Int → Int} {kn : Int → Bool} (h : TgN q.gs n Fn kn) (hn : q.gs.length = n) {id z : Int} {b : Bool} (h1 : b = true → 0 ≤ id ∧ id ≤ 999 ∧ z = Fn id ∧ kn id = true) (h2 : b = false → 0 ≤ id → id ≤ 999 → kn id = false) :
    (b = false → G.idxOf q id = none) ∧ (b = true → ∃ gi : Nat, G.idxOf q id = some gi ∧ z = (gi : Int) ∧ gi < n) := by
  have ht : q.gs.take n = q.gs := List.take_of_length_le (by omega)
  constructor
  · intro hb
    unfold G.idxOf
    rw [List.findIdx?_eq_none_iff]
    intro p hp
    cases he : (p.id == id) with
    | false => rfl
    | true =>
      have e : p.id = id := by simpa using he
      have hm : id ∈ (q.gs.take n).map (·.id) := by rw [ht]; exact List.mem_map.2 ⟨p, hp, e⟩
      have hr := h.2.1 id hm
      have hk := h2 hb hr.1 hr.2
      rw [h.1 id hr.1 hr.2] at hk
      have : ((q.gs.take n).map (·.id)).contains id = true := by simpa using hm
      rw [this] at hk
      cases hk
  · intro hb
    obtain ⟨r0, r1, hz, hk⟩ := h1 hb
    rw [h.1 id r0 r1, ht] at hk
    obtain ⟨p, hp, e⟩ := List.mem_map.1 (by simpa using hk : id ∈ q.gs.map (·.id))
    have hs : (q.gs.findIdx? (fun p => p.id == id)).isSome = true := by
      rw [List.findIdx?_isSome, List.any_eq_true]
      exact ⟨p, hp, by simpa using e⟩
    obtain ⟨gi, hgi⟩ := Option.isSome_iff_exists.1 hs
    have hgi2 := hgi
    rw [List.findIdx?_eq_some_iff_getElem] at hgi2
    obtain ⟨hl, hpg, _⟩ := hgi2
    refine ⟨gi, hgi, ?_, by omega⟩
    have := h.2.2 gi _ (by omega) (List.getElem?_eq_getElem hl)
    rw [show q.gs[gi].id = id by simpa using hpg] at this
    rw [hz, this]
theorem LineAt.keepR {w w' : World} {q : G.Qu} {A : Option Addr} {n c : Nat} {F : Option Addr} {m d : Nat} {O : Option Addr} {co : Nat} {ord : List Nat} {b1 : Nat} (h : LineAt w q A n c F m d O co ord) (hg : w.grownBy w' (some b1)) (hne : ∀ b i, (A = some ⟨b, i, none⟩ ∨ F = some ⟨b, i, none⟩ ∨ O = some ⟨b, i, none⟩) → b ≠ b1) : LineAt w' q A n c F m d O co ord := by
  have hc : ∀ (b i j : Nat), b < w.heap.size → b ≠ b1 → w'.cell? ⟨b, j, none⟩ = w.cell? ⟨b, j, none⟩ := fun b _ j hb hn => gr_cellS hg hb (fun e => hn (Option.some.inj e)) j
  refine ⟨h.v, h.gl, h.fl, h.ol, fun k p hk => ?_, fun k p hk => ?_, fun k p hk => ?_, h.fs, h.os, h.op⟩
  · obtain ⟨b, i, e, hb, c0, c1, c2, c3⟩ := h.rg k p hk
    have hn := hne b i (.inl e)
    exact ⟨b, i, e, Nat.lt_of_lt_of_le hb hg.size, (hc b i _ hb hn).trans c0, (hc b i _ hb hn).trans c1, (hc b i _ hb hn).trans c2, (hc b i _ hb hn).trans c3⟩
  · obtain ⟨b, i, e, hb, c0, c1⟩ := h.rf k p hk
    have hn := hne b i (.inr (.inl e))
    exact ⟨b, i, e, Nat.lt_of_lt_of_le hb hg.size, (hc b i _ hb hn).trans c0, (hc b i _ hb hn).trans c1⟩
  · obtain ⟨b, i, e, hb, c0⟩ := h.ro k p hk
    have hn := hne b i (.inr (.inr e))
    exact ⟨b, i, e, Nat.lt_of_lt_of_le hb hg.size, (hc b i _ hb hn).trans c0⟩
def ForPost (q : G.Qu) (id : Int) (A : Option Addr) (n c m : Nat) (w : World) (e : Ending) (w' : World) : Prop :=
  Below w.heap.size w w' ∧ (G.valid q = false → e = .returned (.tuple #[.agg #[.int .i64 0, .int .i64 0, .int .i64 0, .int .i64 0, .slice none 0 0, .slice none 0 0, .map none, .slice none 0 0], .int .i64 0, .int .i64 110])) ∧
  (G.valid q = true → (G.idxOf q id = none → e = .returned (.tuple #[.agg #[.int .i64 0, .int .i64 0, .int .i64 0, .int .i64 0, .slice none 0 0, .slice none 0 0, .map none, .slice none 0 0], .int .i64 0, .int .i64 1])) ∧
    ∀ gi, G.idxOf q id = some gi → ∃ (F2 : Option Addr) (d2 : Nat) (fs2 : List G.Fr) (g : Nat) (O : Option Addr) (co : Nat) (ord : List Nat),
      e = .returned (.tuple #[.agg #[.int .i64 q.opn, .int .i64 q.lo, .int .i64 q.hi, .int .i64 q.seats, .slice A n c, .slice F2 m d2, .map (some g), .slice O n co], .int .i64 (gi : Int), .int .i64 0]) ∧ fs2.Perm q.fs ∧ LineAt w' { q with fs := fs2 } A n c F2 m d2 O co ord)

set_option maxHeartbeats 6400000 in
set_option maxRecDepth 100000 in
theorem openFor_any (q : G.Qu) (id : Int) (A : Option Addr) (n c : Nat) (F : Option Addr) (m d : Nat) (w : World) (h : QIn w q A n c F m d) (hid : (Lit.int .i64 id).wf = true) :
    Calls Try.prog 43 #[.agg #[.int .i64 q.opn, .int .i64 q.lo, .int .i64 q.hi, .int .i64 q.seats, .slice A n c, .slice F m d], .int .i64 id] w (ForPost q id A n c m w) := by
  have HI := hide h
  have HID := hide hid
  clear h hid
  go_enter Try.func43, Try.ntmps43
  go_upto_region 1 with fail
  refine cap_w (M := Code.wp _ _ _ _) _ (fun w1 hw1 => ?_)
  have HB1 := hide (show Below w.heap.size w w1 by rw [hw1]; (repeat' first | exact zbR _ _ | assumption | refine zbD ?_ | refine zbA ?_ ?_ _ | refine zbS ?_ ?_ _ | refine zbT ?_ (by assumption) ?_ | (simp; done) | (simp; omega) | omega))
  have HQ := hide (show w1.heap[w.heap.size]? = some (.cells #[.int .i64 q.opn, .int .i64 q.lo, .int .i64 q.hi, .int .i64 q.seats, .slice A n c, .slice F m d] 27 (0, 0)) by
    rw [hw1]; exact (Below.heap_alloc _ _ _ (by simp)).trans (World.alloc_heap_new _ _))
  have HZ := hide (show w1.heap[w.heap.size + 1]? = some (.cells #[.int .i64 0, .int .i64 0, .int .i64 0, .int .i64 0, .slice none 0 0, .slice none 0 0, .map none, .slice none 0 0] 67 (0, 0)) by
    rw [hw1]; exact alloc_new_at (by simp))
  clear hw1
  obtain ⟨b1, hb1⟩ : ∃ x, w.heap.size + 1 = x := ⟨_, rfl⟩
  rw [hb1] at HZ ⊢
  obtain ⟨b0, hb0⟩ : ∃ x, w.heap.size = x := ⟨_, rfl⟩
  have HBB := hide (show w.heap.size ≤ b1 by omega)
  have HE := hide (show w.heap.size = b0 ∧ b0 < b1 by omega)
  rw [hb0] at HQ ⊢
  clear hb1 hb0
  have HI1 := hide (HI.out.below HB1.out)
  have q0 : w1.cell? ⟨b0, 0, none⟩ = some (.int .i64 q.opn) := (blk_cell HQ.out 0).trans rfl
  have q1 : w1.cell? ⟨b0, 1, none⟩ = some (.int .i64 q.lo) := (blk_cell HQ.out 1).trans rfl
  have q2 : w1.cell? ⟨b0, 2, none⟩ = some (.int .i64 q.hi) := (blk_cell HQ.out 2).trans rfl
  have q3 : w1.cell? ⟨b0, 3, none⟩ = some (.int .i64 q.seats) := (blk_cell HQ.out 3).trans rfl
  have q4 : w1.cell? ⟨b0, 4, none⟩ = some (.slice A n c) := (blk_cell HQ.out 4).trans rfl
  have q5 : w1.cell? ⟨b0, 5, none⟩ = some (.slice F m d) := (blk_cell HQ.out 5).trans rfl
  have lq := blk_lt HQ.out
  cases hv : G.valid q
  · have HV := hide hv
    clear hv
    go_wp2_with (first | (go_at_call 36; (with_reducible refine (open_in q A n c F m d _ HI1.out).mono ?_); rintro e w2 ⟨hb2, hno, _⟩; obtain rfl := hno HV.out; have HB2 := hide (zbT HB1.out hb2 HB1.out.size); have HZ2 := bkT hb2 HZ; clear hno hb2 q0 q1 q2 q3 q4 q5 lq) | (refine wpList_store_row rfl 67 _ _ rfl b1 _ rfl rfl 67 _ HZ2.out lnRow rfl (by simp [Value.oneCell']) ?_; refine cap_w (M := wpList _ _ _ _ _) _ (fun w3 hw3 => ?_); have HR3 := hide (show w3.heap[b1]? = some (.cells #[.int .i64 0, .int .i64 0, .int .i64 0, .int .i64 0, .slice none 0 0, .slice none 0 0, .map none, .slice none 0 0] 67 (0, 0)) by rw [hw3]; exact setRow_heap _ _ _ _ _ _ HZ2.out); have HG3 := hide (show w2.grownBy w3 (some b1) by rw [hw3]; exact setRow_grown _ _ _); have HB3 := hide (show Below w.heap.size w w3 by rw [hw3]; exact below_row HB2.out HBB.out _); clear hw3 HZ2) | (refine wpList_store_row rfl 67 _ _ rfl b1 _ rfl rfl 67 _ HR3.out lnRow rfl (by simp [Value.oneCell']) ?_))
    refine cap_w (M := bodyPost _ _ _ _ _) _ (fun W9 hW9 => ?_)
    have HR9 := hide (show W9.heap[b1]? = some (.cells #[.int .i64 0, .int .i64 0, .int .i64 0, .int .i64 0, .slice none 0 0, .slice none 0 0, .map none, .slice none 0 0] 67 (0, 0)) by rw [hW9]; exact setRow_heap _ _ _ _ _ _ HR3.out)
    have HG9 := hide (show w3.grownBy W9 (some b1) by rw [hW9]; exact setRow_grown _ _ _)
    have HB9 := hide (show Below w.heap.size w W9 by rw [hW9]; exact below_row HB3.out HBB.out _)
    clear hW9
    have s0 : W9.cell? ⟨b1, 0, none⟩ = some (.int .i64 0) := (blk_cell HR9.out 0).trans rfl
    have s1 : W9.cell? ⟨b1, 1, none⟩ = some (.int .i64 0) := (blk_cell HR9.out 1).trans rfl
    have s2 : W9.cell? ⟨b1, 2, none⟩ = some (.int .i64 0) := (blk_cell HR9.out 2).trans rfl
    have s3 : W9.cell? ⟨b1, 3, none⟩ = some (.int .i64 0) := (blk_cell HR9.out 3).trans rfl
    have s4 : W9.cell? ⟨b1, 4, none⟩ = some (.slice none 0 0) := (blk_cell HR9.out 4).trans rfl
    have s5 : W9.cell? ⟨b1, 5, none⟩ = some (.slice none 0 0) := (blk_cell HR9.out 5).trans rfl
    have s6 : W9.cell? ⟨b1, 6, none⟩ = some (.map none) := (blk_cell HR9.out 6).trans rfl
    have s7 : W9.cell? ⟨b1, 7, none⟩ = some (.slice none 0 0) := (blk_cell HR9.out 7).trans rfl
    refine bodyPost_ret (v := .tuple #[.agg #[.int .i64 0, .int .i64 0, .int .i64 0, .int .i64 0, .slice none 0 0, .slice none 0 0, .map none, .slice none 0 0], .int .i64 0, .int .i64 110]) (by simp [results, Try.results43, go_sem, s0, s1, s2, s3, s4, s5, s6, s7]) rfl ?_
    exact ⟨HB9.out, fun _ => rfl, fun h => by rw [HV.out] at h; cases h⟩
  · have HV := hide hv
    clear hv
    go_upto_region 2 with (first | (go_at_call 36; (with_reducible refine (open_in q A n c F m d _ HI1.out).mono ?_); rintro e w2 ⟨hb2, _, hyes⟩; obtain ⟨F2, d2, fs2, g, O, co, ord, Fn, kn, rfl, hpf, hL, hM, hT, hgs, hfb, hob⟩ := hyes HV.out; have HGS := hide hgs; have HFB := hide hfb; have HOB := hide hob; have HB2 := hide (zbT HB1.out hb2 HB1.out.size); have HZ2 := bkT hb2 HZ; have HPF := hide hpf; have HL := hide hL; have HM := hide hM; have HT := hide hT; clear hyes hb2 hpf hL hM hT hgs hfb hob q0 q1 q2 q3 q4 q5 lq) | (refine wpList_store_row rfl 67 _ _ rfl b1 _ rfl rfl 67 _ HZ2.out lnRow rfl (by simp [Value.oneCell']) ?_; refine cap_w (M := wpList _ _ _ _ _) _ (fun w3 hw3 => ?_); have HR3 := hide (show w3.heap[b1]? = some (.cells #[.int .i64 q.opn, .int .i64 q.lo, .int .i64 q.hi, .int .i64 q.seats, .slice A n c, .slice F2 m d2, .map (some g), .slice O n co] 67 (0, 0)) by rw [hw3]; exact setRow_heap _ _ _ _ _ _ HZ2.out); have HG3 := hide (show w2.grownBy w3 (some b1) by rw [hw3]; exact setRow_grown _ _ _); have HB3 := hide (show Below w.heap.size w w3 by rw [hw3]; exact below_row HB2.out HBB.out _); clear hw3 HZ2))
    have HLT := hide (blk_lt HZ.out)
    have HM3 := hide (HM.out.kept HG3.out (fun e => by have h5 := Option.some.inj e; have := HGS.out; have := HLT.out; omega))
    have HNE := hide (show ∀ b i, (A = some ⟨b, i, none⟩ ∨ F2 = some ⟨b, i, none⟩ ∨ O = some ⟨b, i, none⟩) → b ≠ b1 from fun b i h => by
      rcases h with h | h | h
      · have := HI.out.a b i h; have := HBB.out; have := HE.out; omega
      · have := HFB.out b i h; have := HLT.out; omega
      · have := HOB.out b i h; have := HLT.out; omega)
    obtain ⟨z, bo, hlk0, h1, h2⟩ := MapK.lookOk_wf Try.underlying65 zeroI HM3.out HID.out
    have hlk : (Instr.lookup 65 (.map (some g)) (.int .i64 id) true).run Try.prog w3 = .ok (.tuple #[.int .i64 z, .bool bo]) w3 := hlk0
    obtain ⟨hx1, hx2⟩ := TgN.idx HT.out HI.out.gl h1 h2
    have r0 : w3.cell? ⟨b1, 0, none⟩ = some (.int .i64 q.opn) := (blk_cell HR3.out 0).trans rfl
    have r1 : w3.cell? ⟨b1, 1, none⟩ = some (.int .i64 q.lo) := (blk_cell HR3.out 1).trans rfl
    have r2 : w3.cell? ⟨b1, 2, none⟩ = some (.int .i64 q.hi) := (blk_cell HR3.out 2).trans rfl
    have r3 : w3.cell? ⟨b1, 3, none⟩ = some (.int .i64 q.seats) := (blk_cell HR3.out 3).trans rfl
    have r4 : w3.cell? ⟨b1, 4, none⟩ = some (.slice A n c) := (blk_cell HR3.out 4).trans rfl
    have r5 : w3.cell? ⟨b1, 5, none⟩ = some (.slice F2 m d2) := (blk_cell HR3.out 5).trans rfl
    have r6 : w3.cell? ⟨b1, 6, none⟩ = some (.map (some g)) := (blk_cell HR3.out 6).trans rfl
    have r7 : w3.cell? ⟨b1, 7, none⟩ = some (.slice O n co) := (blk_cell HR3.out 7).trans rfl
    have lr := blk_lt HR3.out
    clear hlk0 h1 h2
    cases bo
    · have HX := hide (hx1 rfl)
      clear hx1 hx2
      go_wp2_with (refine wpList_store_row rfl 67 _ _ rfl b1 _ rfl rfl 67 _ HR3.out lnRow rfl (by simp [Value.oneCell']) ?_)
      refine cap_w (M := bodyPost _ _ _ _ _) _ (fun W9 hW9 => ?_)
      have HR9 := hide (show W9.heap[b1]? = some (.cells #[.int .i64 0, .int .i64 0, .int .i64 0, .int .i64 0, .slice none 0 0, .slice none 0 0, .map none, .slice none 0 0] 67 (0, 0)) by rw [hW9]; exact setRow_heap _ _ _ _ _ _ HR3.out)
      have HG9 := hide (show w3.grownBy W9 (some b1) by rw [hW9]; exact setRow_grown _ _ _)
      have HB9 := hide (show Below w.heap.size w W9 by rw [hW9]; exact below_row HB3.out HBB.out _)
      clear hW9
      have s0 : W9.cell? ⟨b1, 0, none⟩ = some (.int .i64 0) := (blk_cell HR9.out 0).trans rfl
      have s1 : W9.cell? ⟨b1, 1, none⟩ = some (.int .i64 0) := (blk_cell HR9.out 1).trans rfl
      have s2 : W9.cell? ⟨b1, 2, none⟩ = some (.int .i64 0) := (blk_cell HR9.out 2).trans rfl
      have s3 : W9.cell? ⟨b1, 3, none⟩ = some (.int .i64 0) := (blk_cell HR9.out 3).trans rfl
      have s4 : W9.cell? ⟨b1, 4, none⟩ = some (.slice none 0 0) := (blk_cell HR9.out 4).trans rfl
      have s5 : W9.cell? ⟨b1, 5, none⟩ = some (.slice none 0 0) := (blk_cell HR9.out 5).trans rfl
      have s6 : W9.cell? ⟨b1, 6, none⟩ = some (.map none) := (blk_cell HR9.out 6).trans rfl
      have s7 : W9.cell? ⟨b1, 7, none⟩ = some (.slice none 0 0) := (blk_cell HR9.out 7).trans rfl
      refine bodyPost_ret (v := .tuple #[.agg #[.int .i64 0, .int .i64 0, .int .i64 0, .int .i64 0, .slice none 0 0, .slice none 0 0, .map none, .slice none 0 0], .int .i64 0, .int .i64 1]) (by simp [results, Try.results43, go_sem, s0, s1, s2, s3, s4, s5, s6, s7]) rfl ?_
      exact ⟨HB9.out, fun h => (by rw [HV.out] at h; cases h), fun _ => ⟨fun _ => rfl, fun i hi => (by rw [HX.out] at hi; cases hi)⟩⟩
    · obtain ⟨gi, hgi, hz, _⟩ := hx2 rfl
      have HX := hide hgi
      subst hz
      clear hx1 hx2 hgi
      go_wp2_with (refine wpList_store_row rfl 67 _ _ rfl b1 _ rfl rfl 67 _ HR3.out lnRow rfl (by simp [Value.oneCell']) ?_)
      refine cap_w (M := bodyPost _ _ _ _ _) _ (fun W9 hW9 => ?_)
      have HR9 := hide (show W9.heap[b1]? = some (.cells #[.int .i64 q.opn, .int .i64 q.lo, .int .i64 q.hi, .int .i64 q.seats, .slice A n c, .slice F2 m d2, .map (some g), .slice O n co] 67 (0, 0)) by rw [hW9]; exact setRow_heap _ _ _ _ _ _ HR3.out)
      have HG9 := hide (show w3.grownBy W9 (some b1) by rw [hW9]; exact setRow_grown _ _ _)
      have HB9 := hide (show Below w.heap.size w W9 by rw [hW9]; exact below_row HB3.out HBB.out _)
      clear hW9
      have s0 : W9.cell? ⟨b1, 0, none⟩ = some (.int .i64 q.opn) := (blk_cell HR9.out 0).trans rfl
      have s1 : W9.cell? ⟨b1, 1, none⟩ = some (.int .i64 q.lo) := (blk_cell HR9.out 1).trans rfl
      have s2 : W9.cell? ⟨b1, 2, none⟩ = some (.int .i64 q.hi) := (blk_cell HR9.out 2).trans rfl
      have s3 : W9.cell? ⟨b1, 3, none⟩ = some (.int .i64 q.seats) := (blk_cell HR9.out 3).trans rfl
      have s4 : W9.cell? ⟨b1, 4, none⟩ = some (.slice A n c) := (blk_cell HR9.out 4).trans rfl
      have s5 : W9.cell? ⟨b1, 5, none⟩ = some (.slice F2 m d2) := (blk_cell HR9.out 5).trans rfl
      have s6 : W9.cell? ⟨b1, 6, none⟩ = some (.map (some g)) := (blk_cell HR9.out 6).trans rfl
      have s7 : W9.cell? ⟨b1, 7, none⟩ = some (.slice O n co) := (blk_cell HR9.out 7).trans rfl
      refine bodyPost_ret (v := .tuple #[.agg #[.int .i64 q.opn, .int .i64 q.lo, .int .i64 q.hi, .int .i64 q.seats, .slice A n c, .slice F2 m d2, .map (some g), .slice O n co], .int .i64 (gi : Int), .int .i64 0]) (by simp [results, Try.results43, go_sem, s0, s1, s2, s3, s4, s5, s6, s7]) rfl ?_
      refine ⟨HB9.out, fun h => (by rw [HV.out] at h; cases h), fun _ => ⟨fun h => (by rw [HX.out] at h; cases h), fun i hi => ?_⟩⟩
      rw [HX.out] at hi
      cases hi
      refine ⟨F2, d2, fs2, g, O, co, ord, rfl, HPF.out, ?_⟩
      exact HL.out.keepR (HG3.out.andThen HG9.out (fun y hy => .inr hy)) HNE.out
end Go.Proofs.Ytlpjkolocgkcpaa

namespace Go.Proofs.Ytlpjkolocgkcpaa
open Go.RowKit
attribute [local go_sem ↓] Go.wp_at_zero Go.wp_at_succ

theorem spRow : (Try.prog.info? 23).map (·.size) = some 2 := by kernel_rfl

end Go.Proofs.Ytlpjkolocgkcpaa

namespace Go.Proofs.Ytlpjkolocgkcpaa
open Go.RowKit
attribute [local go_sem ↓] Go.wp_at_zero Go.wp_at_succ

theorem G.idxOf_lt {q : G.Qu} {id : Int} {gi : Nat} (h : G.idxOf q id = some gi) : gi < q.gs.length := by
  unfold G.idxOf at h
  rw [List.findIdx?_eq_some_iff_getElem] at h
  exact h.1
set_option maxHeartbeats 6400000 in
set_option maxRecDepth 100000 in
theorem Enough_any (q : G.Qu) (id : Int) (A : Option Addr) (n c : Nat) (F : Option Addr) (m d : Nat) (w : World) (h : QIn w q A n c F m d) (hid : (Lit.int .i64 id).wf = true) :
    Calls Try.prog 24 #[.agg #[.int .i64 q.opn, .int .i64 q.lo, .int .i64 q.hi, .int .i64 q.seats, .slice A n c, .slice F m d], .int .i64 id] w fun e w' => e = .returned (.tuple #[.int .i64 (G.enoughV q id), .int .i64 (G.enoughE q id)]) ∧ Below w.heap.size w w' := by
  have HI := hide h
  have HID := hide hid
  clear h hid
  cases hv : G.valid q
  · have HV := hide hv
    have hE : G.enoughE q id = 110 := by unfold G.enoughE; rw [hv]; rfl
    have hVV : G.enoughV q id = 0 := by unfold G.enoughV; rw [hv]; rfl
    rw [hE, hVV]
    clear hv hE hVV
    go_enter Try.func24, Try.ntmps24
    go_wp2_with (go_at_call 43; (with_reducible refine (openFor_any q id A n c F m d _ (HI.out.below (show Below w.heap.size w (w.alloc (.cells #[.int .i64 q.opn, .int .i64 q.lo, .int .i64 q.hi, .int .i64 q.seats, .slice A n c, .slice F m d] 27)) from zbA (zbR _ _) (Nat.le_refl _) _)) HID.out).mono ?_); rintro e w2 ⟨hb2, hno, _⟩; obtain rfl := hno HV.out; clear hno; have HB2 := hide (zbT (show Below w.heap.size w (w.alloc (.cells #[.int .i64 q.opn, .int .i64 q.lo, .int .i64 q.hi, .int .i64 q.seats, .slice A n c, .slice F m d] 27)) from zbA (zbR _ _) (Nat.le_refl _) _) hb2 (by simp)); clear hb2)
    go_ret2
    exact ⟨rfl, zbA HB2.out HB2.out.size _⟩
  · have HV := hide hv
    cases hx : G.idxOf q id with
    | none =>
      have HX := hide hx
      have hE : G.enoughE q id = 1 := by unfold G.enoughE; rw [hv, if_pos rfl, hx]
      have hVV : G.enoughV q id = 0 := by unfold G.enoughV; rw [hv, if_pos rfl, hx]
      rw [hE, hVV]
      clear hv hE hVV hx
      go_enter Try.func24, Try.ntmps24
      go_wp2_with (go_at_call 43; (with_reducible refine (openFor_any q id A n c F m d _ (HI.out.below (show Below w.heap.size w (w.alloc (.cells #[.int .i64 q.opn, .int .i64 q.lo, .int .i64 q.hi, .int .i64 q.seats, .slice A n c, .slice F m d] 27)) from zbA (zbR _ _) (Nat.le_refl _) _)) HID.out).mono ?_); rintro e w2 ⟨hb2, _, hyes⟩; obtain rfl := (hyes HV.out).1 HX.out; clear hyes; have HB2 := hide (zbT (show Below w.heap.size w (w.alloc (.cells #[.int .i64 q.opn, .int .i64 q.lo, .int .i64 q.hi, .int .i64 q.seats, .slice A n c, .slice F m d] 27)) from zbA (zbR _ _) (Nat.le_refl _) _) hb2 (by simp)); clear hb2)
      go_ret2
      exact ⟨rfl, zbA HB2.out HB2.out.size _⟩
    | some gi =>
      have HX := hide hx
      have HGI := hide (show gi < n by rw [← HI.out.gl]; exact G.idxOf_lt hx)
      cases he : G.enough q gi with
      | none =>
        have HEN := hide he
        have hE : G.enoughE q id = 3 := by unfold G.enoughE; rw [hv, if_pos rfl, hx]; dsimp only; rw [he]; rfl
        have hVV : G.enoughV q id = 0 := by unfold G.enoughV; rw [hv, if_pos rfl, hx]; dsimp only; rw [he]; rfl
        rw [hE, hVV]
        clear hv hE hVV hx he
        go_enter Try.func24, Try.ntmps24
        go_wp2_with (first | (go_at_call 43; (with_reducible refine (openFor_any q id A n c F m d _ (HI.out.below (show Below w.heap.size w (w.alloc (.cells #[.int .i64 q.opn, .int .i64 q.lo, .int .i64 q.hi, .int .i64 q.seats, .slice A n c, .slice F m d] 27)) from zbA (zbR _ _) (Nat.le_refl _) _)) HID.out).mono ?_); rintro e w2 ⟨hb2, _, hyes⟩; obtain ⟨F2, d2, fs2, g, O, co, ord, rfl, hpf, hL⟩ := (hyes HV.out).2 _ HX.out; have HPF := hide hpf; have HL := hide hL; clear hyes hpf hL; have HB2 := hide (zbT (show Below w.heap.size w (w.alloc (.cells #[.int .i64 q.opn, .int .i64 q.lo, .int .i64 q.hi, .int .i64 q.seats, .slice A n c, .slice F m d] 27)) from zbA (zbR _ _) (Nat.le_refl _) _) hb2 (by simp)); clear hb2) | (go_at_call 48; (with_reducible refine (enough_any { q with fs := fs2 } A n c F2 m d2 g O co ord gi _ (HL.out.below (zbA (zbR _ _) (Nat.le_refl _) _)) HGI.out).mono ?_); rintro e w5 ⟨rfl, hb5⟩; rw [G.enough_fs HPF.out, HEN.out]; have HB5 := hide (zbT (zbA HB2.out HB2.out.size _) hb5 (Nat.le_trans HB2.out.size (by simp))); clear hb5))
        go_ret2
        exact ⟨rfl, HB5.out⟩
      | some s =>
        have HEN := hide he
        have hE : G.enoughE q id = 0 := by unfold G.enoughE; rw [hv, if_pos rfl, hx]; dsimp only; rw [he]; rfl
        have hVV : G.enoughV q id = s := by unfold G.enoughV; rw [hv, if_pos rfl, hx]; dsimp only; rw [he]; rfl
        rw [hE, hVV]
        clear hv hE hVV hx he
        go_enter Try.func24, Try.ntmps24
        go_wp2_with (first | (go_at_call 43; (with_reducible refine (openFor_any q id A n c F m d _ (HI.out.below (show Below w.heap.size w (w.alloc (.cells #[.int .i64 q.opn, .int .i64 q.lo, .int .i64 q.hi, .int .i64 q.seats, .slice A n c, .slice F m d] 27)) from zbA (zbR _ _) (Nat.le_refl _) _)) HID.out).mono ?_); rintro e w2 ⟨hb2, _, hyes⟩; obtain ⟨F2, d2, fs2, g, O, co, ord, rfl, hpf, hL⟩ := (hyes HV.out).2 _ HX.out; have HPF := hide hpf; have HL := hide hL; clear hyes hpf hL; have HB2 := hide (zbT (show Below w.heap.size w (w.alloc (.cells #[.int .i64 q.opn, .int .i64 q.lo, .int .i64 q.hi, .int .i64 q.seats, .slice A n c, .slice F m d] 27)) from zbA (zbR _ _) (Nat.le_refl _) _) hb2 (by simp)); clear hb2) | (go_at_call 48; (with_reducible refine (enough_any { q with fs := fs2 } A n c F2 m d2 g O co ord gi _ (HL.out.below (zbA (zbR _ _) (Nat.le_refl _) _)) HGI.out).mono ?_); rintro e w5 ⟨rfl, hb5⟩; rw [G.enough_fs HPF.out, HEN.out]; have HB5 := hide (zbT (zbA HB2.out HB2.out.size _) hb5 (Nat.le_trans HB2.out.size (by simp))); clear hb5))
        go_ret2
        exact ⟨rfl, HB5.out⟩
end Go.Proofs.Ytlpjkolocgkcpaa

namespace Go.Proofs.Ytlpjkolocgkcpaa
namespace G

theorem foldmax_le : ∀ (l : List Int) (a : Int), a ≤ (l.foldl (fun a b => if a < b then b else a) a) ∧ (∀ x ∈ l, x ≤ l.foldl (fun a b => if a < b then b else a) a) ∧ (l.foldl (fun a b => if a < b then b else a) a = a ∨ l.foldl (fun a b => if a < b then b else a) a ∈ l)
  | [], a => ⟨Int.le_refl _, fun x hx => (by cases hx), .inl rfl⟩
  | b :: r, a => by
    obtain ⟨h1, h2, h3⟩ := foldmax_le r (if a < b then b else a)
    rw [List.foldl_cons]
    refine ⟨?_, fun x hx => ?_, ?_⟩
    · split at h1 <;> rename_i c
      · rw [if_pos c]; omega
      · rw [if_neg c]; omega
    · rcases List.mem_cons.1 hx with rfl | hx
      · split at h1 <;> rename_i c
        · rw [if_pos c]; omega
        · rw [if_neg c]; omega
      · exact h2 x hx
    · rcases h3 with h3 | h3
      · rw [h3]
        split
        · exact .inr (List.mem_cons_self ..)
        · exact .inl rfl
      · exact .inr (List.mem_cons_of_mem _ h3)
def mm (q : Qu) (id : Int) : List Int := match idxOf q id with | none => [] | some g => minutesOf q g
def cnt (q : Qu) (id : Int) (j k : Nat) : Nat := match idxOf q id with | none => 0 | some g => if g < k then j + 1 else j
theorem idxOf_at {q : Qu} (hv : Valid q) {k : Nat} {p : Pt} (h : q.gs[k]? = some p) : idxOf q p.id = some k := by
  unfold idxOf
  rw [List.findIdx?_eq_some_iff_getElem]
  obtain ⟨hl, e⟩ := List.getElem?_eq_some_iff.1 h
  refine ⟨hl, by simp [e], fun j hj => ?_⟩
  simp only [beq_iff_eq]
  intro he
  have hn := hv.gn
  have := (List.pairwise_iff_getElem.1 hn) j k (by rw [List.length_map]; omega) (by rw [List.length_map]; omega) hj
  simp only [List.getElem_map] at this
  rw [e] at this
  exact this he
end G
end Go.Proofs.Ytlpjkolocgkcpaa

namespace Go.Proofs.Ytlpjkolocgkcpaa
namespace G

def lastK (q : Qu) (k : Nat) : Int := ((q.gs.take k).map (·.at_)).foldl (fun a b => if a < b then b else a) q.opn
theorem lastK_step {q : Qu} {k : Nat} {p : Pt} (h : q.gs[k]? = some p) : lastK q (k + 1) = if lastK q k < p.at_ then p.at_ else lastK q k := by
  unfold lastK
  rw [List.take_add_one, h, List.map_append, List.foldl_append]
  rfl
theorem lastK_bd {q : Qu} (hv : Valid q) (k : Nat) : q.opn ≤ lastK q k ∧ lastK q k ≤ 1440 ∧ ∀ p ∈ q.gs.take k, p.at_ ≤ lastK q k := by
  obtain ⟨h1, h2, h3⟩ := foldmax_le ((q.gs.take k).map (·.at_)) q.opn
  refine ⟨h1, ?_, fun p hp => h2 _ (List.mem_map.2 ⟨p, hp, rfl⟩)⟩
  unfold lastK
  rcases h3 with e | e
  · rw [e]; exact hv.o1
  · obtain ⟨p, hp, e'⟩ := List.mem_map.1 e
    rw [← e']
    exact (vParty_iff.1 (hv.gv p (List.mem_of_mem_take hp))).a1
theorem ready_now {S : Int → Int} {opn : Int} {p : Pt} {s : Mo} (h : p.size ≤ S (from_ opn p s) - s.used) : ready S opn p s = from_ opn p s := by
  unfold ready
  exact wait_eq (Nat.le_refl _) (Int.le_refl _) (.inr h) (fun j h1 h2 => by omega)
theorem mul_lt_pos {L t rate : Int} (hr : 1 ≤ rate) (ht : 0 ≤ t) : (L * rate + t) / rate ≤ L + t := by
  rw [Int.add_comm, Int.add_mul_ediv_right _ _ (by omega)]
  have := Int.ediv_le_self rate ht
  omega
theorem run_all {S : Int → Int} {rate opn L seats T : Int} (hr : 1 ≤ rate) (hS : ∀ m, seats ≤ S m) (ho : opn ≤ L) (hT : L + T - 1 ≤ 1440) : ∀ (l : List Pt) (s : Mo) (V : Int), s.Ok rate → (∀ p ∈ l, 1 ≤ p.size ∧ p.at_ ≤ L) → s.used + (l.map (·.size)).sum ≤ seats → 0 ≤ V → s.pos rate ≤ L * rate + V → V + (l.map (·.size)).sum ≤ T →
    ∀ (j : Nat) (p : Pt) (x : Int × Int), l[j]? = some p → (run S rate opn l s)[j]? = some x → p.quits = -1 → x.2 ≠ -1
  | [], _, _, _, _, _, _, _, _, j, p, x, hp, _, _ => by simp at hp
  | p :: r, s, V, hs, hz, hu, hV0, hV, hVT, j, p', x, hp, hx, hq => by
    obtain ⟨hz0, hz1⟩ := hz p (List.mem_cons_self ..)
    rw [List.map_cons, List.sum_cons] at hu hVT
    have hrs : 0 ≤ (r.map (·.size)).sum := by
      have : ∀ (l : List Pt), (∀ p ∈ l, 1 ≤ p.size) → 0 ≤ (l.map (·.size)).sum := by
        intro l
        induction l with
        | nil => intro _; exact Int.le_refl _
        | cons a b ih => intro h; rw [List.map_cons, List.sum_cons]; have := h a (List.mem_cons_self ..); have := ih (fun p hp => h p (List.mem_cons_of_mem _ hp)); omega
      exact this r (fun p hp => (hz p (List.mem_cons_of_mem _ hp)).1)
    have hrd : ready S opn p s = from_ opn p s := ready_now (by have := hS (from_ opn p s); omega)
    obtain ⟨k1, k2⟩ := next_ok (S := S) (opn := opn) hr hs hz0
    have hfp : from_ opn p s * rate + now S opn p s ≤ L * rate + V := by
      unfold now
      rw [hrd]
      by_cases c : from_ opn p s = s.min
      · rw [if_pos c, c]; exact hV
      · rw [if_neg c]
        have : from_ opn p s ≤ L := by unfold from_ at c ⊢; omega
        have := Int.mul_le_mul_of_nonneg_right this (show 0 ≤ rate by omega)
        omega
    have hfr : from_ opn p s ≤ L + V := by
      have h0 := (now_bd (S := S) (opn := opn) (p := p) hs).1
      have h1 : from_ opn p s * rate ≤ L * rate + V := by omega
      have h2 := mul_lt_pos (L := L) (t := V) hr hV0
      have h3 : (from_ opn p s * rate) / rate = from_ opn p s := Int.mul_ediv_cancel _ (by omega)
      have h4 := Int.ediv_le_ediv (show 0 < rate by omega) h1
      omega
    have hnx : (next S rate opn p s).used ≤ s.used + p.size ∧ (next S rate opn p s).pos rate ≤ L * rate + (V + p.size) := by
      by_cases c : p.gone ≤ ready S opn p s
      · obtain ⟨_, _, g3, g4⟩ := next_gone (S := S) (opn := opn) (rate := rate) c
        rw [g3, g4, hrd]
        omega
      · obtain ⟨g1, g2, _⟩ := next_in (S := S) (opn := opn) hr (Int.not_le.1 c)
        rw [g1, g2, hrd]
        omega
    unfold run at hx
    cases j with
    | zero =>
      rw [List.getElem?_cons_zero] at hx hp
      cases hx
      cases hp
      have hg : p.gone = 1441 := if_pos hq
      have c : ready S opn p s < p.gone := by rw [hrd, hg]; omega
      obtain ⟨g1, g2, g3⟩ := next_in (S := S) (opn := opn) hr c
      show minuteOf S rate opn p s ≠ -1
      have h4 := (now_bd (S := S) (opn := opn) (p := p) hs).1
      have h6 := (from_le (opn := opn) (p := p) (s := s)).1
      have h7 := hs.m0
      have h8 : 0 ≤ from_ opn p s * rate := Int.mul_nonneg (by omega) (by omega)
      have h9 : ((next S rate opn p s).pos rate - 1) / rate ≤ L + (V + p.size - 1) := by
        refine Int.le_trans (Int.ediv_le_ediv (by omega) (show (next S rate opn p s).pos rate - 1 ≤ L * rate + (V + p.size - 1) by omega)) (mul_lt_pos hr (by omega))
      have h10 : 0 ≤ ((next S rate opn p s).pos rate - 1) / rate := Int.ediv_nonneg (by rw [g2, hrd]; omega) (by omega)
      rw [g3, if_neg (by omega)]
      omega
    | succ j' =>
      rw [List.getElem?_cons_succ] at hx hp
      exact run_all hr hS ho hT r _ (V + p.size) k1 (fun q hq => hz q (List.mem_cons_of_mem _ hq)) (by omega) (by omega) hnx.2 (by omega) j' p' x hp hx hq

theorem valid_seats {q : Qu} (hv : Valid q) {s : Int} (h0 : 0 ≤ s) (h1 : s ≤ 9999) : Valid { q with seats := s } := ⟨hv.o0, hv.o1, hv.l0, hv.lh, hv.h1, h0, h1, hv.gl, hv.gv, hv.gn, hv.fl, hv.fv⟩
theorem always_get {q : Qu} {g : Nat} : always q g = true ↔ ∀ v ∈ minutesOf q g, v ≠ -1 := by
  unfold always
  rw [List.all_eq_true]
  exact ⟨fun h v hv => by simpa using h v hv, fun h v hv => by simpa using h v hv⟩
theorem always_sure {q : Qu} (hv : Valid q) {id : Int} {g : Nat} (h : idxOf q id = some g) : (always q g = true → sureE q id = 0) ∧ (always q g = false → sureE q id = 3) := by
  have hval := valid_iff.2 hv
  have hc : (minutesOf q g).contains (-1) = !always q g := by
    unfold always
    induction minutesOf q g with
    | nil => rfl
    | cons a r ih =>
      rw [List.contains_cons, List.all_cons, ih]
      by_cases e : a = -1
      · subst e; rfl
      · have h1 : ((-1 : Int) == a) = false := by simp; omega
        have h2 : (a != -1) = true := by simpa using e
        rw [h1, h2]
        cases r.all fun m => m != -1 <;> rfl
  constructor
  · intro ha
    unfold sureE
    rw [if_pos hval, h]
    simp only []
    rw [hc, ha]
    rfl
  · intro ha
    unfold sureE
    rw [if_pos hval, h]
    simp only []
    rw [hc, ha]
    rfl
theorem always_all {q : Qu} (hv : Valid q) {g : Nat} {p : Pt} (hp : q.gs[g]? = some p) (hq : p.quits = -1) (hs : people q.gs ≤ q.seats) (hl : lastK q q.gs.length + people q.gs - 1 ≤ 1440) : always q g = true := by
  rw [always_get]
  intro v hvm
  unfold minutesOf at hvm
  obtain ⟨rate, hr, rfl⟩ := List.mem_map.1 hvm
  obtain ⟨j, _, rfl⟩ := List.mem_map.1 hr
  have hr1 : 1 ≤ q.lo + (j : Int) := by have := hv.l0; omega
  rw [List.getD_eq_getElem?_getD, enter_getT q _ hp]
  show look p.id (R q _) ≠ -1
  obtain ⟨i, hi⟩ := List.mem_iff_getElem?.1 ((srt_perm q.gs).mem_iff.2 (List.mem_of_getElem? hp))
  have hb := lastK_bd hv q.gs.length
  rw [List.take_of_length_le (Nat.le_refl _)] at hb
  have hsum : ((srt q.gs).map (·.size)).sum = people q.gs := sum_perm ((srt_perm q.gs).map _)
  refine run_all (S := q.S) (L := lastK q q.gs.length) (seats := q.seats) (T := people q.gs) hr1 (fun m => by unfold Qu.S; have := sumF_nonneg hv.fv m; omega) hb.1 hl (srt q.gs) ⟨0, 0, 0⟩ 0 (mo0 hr1) (fun p hp => ⟨srt_size hv p hp, hb.2.2 p ((srt_perm q.gs).mem_iff.1 hp)⟩) ?_ (Int.le_refl _) ?_ ?_ i p _ hi (R_at hv _ hi) hq
  · rw [hsum]; show 0 + people q.gs ≤ q.seats; omega
  · have h0 : Mo.pos (q.lo + (j : Int)) ⟨0, 0, 0⟩ = 0 := by unfold Mo.pos; simp
    rw [h0]
    have : 0 ≤ lastK q q.gs.length * (q.lo + (j : Int)) := Int.mul_nonneg (by have := hv.o0; omega) (by omega)
    omega
  · rw [hsum]; omega
theorem enoughF_some {q : Qu} {g : Nat} : ∀ {k : Nat} {n r : Int}, enoughF q g k n = some r → n ≤ r ∧ r < n + k ∧ always { q with seats := q.seats + r } g = true ∧ ∀ j, n ≤ j → j < r → always { q with seats := q.seats + j } g = false
  | 0, n, r, h => by cases h
  | k + 1, n, r, h => by
    unfold enoughF at h
    by_cases c : always { q with seats := q.seats + n } g = true
    · rw [if_pos c] at h
      cases h
      exact ⟨Int.le_refl _, by omega, c, fun j h1 h2 => by omega⟩
    · rw [if_neg c] at h
      obtain ⟨h1, h2, h3, h4⟩ := enoughF_some h
      refine ⟨by omega, by omega, h3, fun j a b => ?_⟩
      by_cases e : j = n
      · subst e; simpa using c
      · exact h4 j (by omega) b
theorem enoughF_none {q : Qu} {g : Nat} : ∀ {k : Nat} {n : Int}, enoughF q g k n = none → ∀ j, n ≤ j → j < n + k → always { q with seats := q.seats + j } g = false
  | 0, n, h, j, a, b => by omega
  | k + 1, n, h, j, a, b => by
    unfold enoughF at h
    by_cases c : always { q with seats := q.seats + n } g = true
    · rw [if_pos c] at h; cases h
    · rw [if_neg c] at h
      by_cases e : j = n
      · subst e; simpa using c
      · exact enoughF_none h j (by omega) (by omega)
theorem people_pos {q : Qu} (hv : Valid q) : 0 ≤ people q.gs := by
  have := (people_bd hv q.gs.length).1
  rw [people_all q rfl] at this
  exact this
theorem enough_cases {q : Qu} (hv : Valid q) (hp24 : people q.gs ≤ 24) (id : Int) :
    (idxOf q id = none ∧ enoughE q id = 1) ∨
    (∃ g, idxOf q id = some g ∧ enoughE q id = 3 ∧ ∀ p, q.gs[g]? = some p → p.quits = -1 → people q.gs ≤ 1440 - lastK q q.gs.length + 1 → False) ∨
    (∃ g n, idxOf q id = some g ∧ enoughE q id = 0 ∧ enoughV q id = n ∧ 0 ≤ n ∧ n ≤ people q.gs ∧ q.seats + n ≤ 9999 ∧ n ≤ max 0 (people q.gs - q.seats) ∧ sureE { q with seats := q.seats + n } id = 0 ∧ ∀ j, 0 ≤ j → j < n → sureE { q with seats := q.seats + j } id = 3) := by
  have hval := valid_iff.2 hv
  have hp0 := people_pos hv
  have hs0 := hv.s0
  have hs1 := hv.s1
  cases h : idxOf q id with
  | none => exact .inl ⟨rfl, by unfold enoughE; rw [if_pos hval, h]⟩
  | some g =>
    cases he : enough q g with
    | none =>
      refine .inr (.inl ⟨g, rfl, by unfold enoughE; rw [if_pos hval, h]; simp only []; rw [he]; rfl, fun p hp hq hl => ?_⟩)
      have h2 := enoughF_none he (max (people q.gs - q.seats) 0) (by omega) (by omega)
      have hv2 := valid_seats hv (s := q.seats + max (people q.gs - q.seats) 0) (by omega) (by omega)
      have h3 := always_all hv2 (g := g) (p := p) hp hq (by show people q.gs ≤ q.seats + max (people q.gs - q.seats) 0; omega) (by show lastK q q.gs.length + people q.gs - 1 ≤ 1440; omega)
      rw [h2] at h3
      cases h3
    | some n =>
      obtain ⟨h1, h2, h3, h4⟩ := enoughF_some he
      have hn : n ≤ max 0 (people q.gs - q.seats) := by omega
      have hE : enoughE q id = 0 := by unfold enoughE; rw [if_pos hval, h]; simp only []; rw [he]; rfl
      refine .inr (.inr ⟨g, n, rfl, hE, by unfold enoughV; rw [if_pos hval, h]; simp only []; rw [he]; rfl, h1, by omega, by omega, hn, ?_, fun j a b => ?_⟩)
      · exact (always_sure (valid_seats hv (s := q.seats + n) (by omega) (by omega)) (id := id) (g := g) h).1 h3
      · exact (always_sure (valid_seats hv (s := q.seats + j) (by omega) (by omega)) (id := id) (g := g) h).2 (h4 j a b)
end G
end Go.Proofs.Ytlpjkolocgkcpaa

namespace Go.Proofs.Ytlpjkolocgkcpaa
open Go.RowKit Go.Sort
attribute [local go_sem ↓] Go.wp_at_zero Go.wp_at_succ

def fcG (x : G.Pt) : List Value := [.int .i64 x.id, .int .i64 x.at_, .int .i64 x.size, .int .i64 x.quits]
def flatG (xs : List G.Pt) : List Value := xs.flatMap fcG
theorem flatG_length (xs : List G.Pt) : (flatG xs).length = xs.length * 4 := by
  induction xs with
  | nil => rfl
  | cons x r ih =>
    have : flatG (x :: r) = fcG x ++ flatG r := rfl
    rw [this, List.length_append, ih, List.length_cons]
    show 4 + r.length * 4 = _
    omega
theorem flatG_app (l r : List G.Pt) : flatG (l ++ r) = flatG l ++ flatG r := by unfold flatG; simp
theorem flatG_one (xs : List G.Pt) : ∀ u ∈ flatG xs, u.oneCell' = true := by
  intro u hu
  simp only [flatG, fcG, List.mem_flatMap, List.mem_cons, List.not_mem_nil, or_false] at hu
  obtain ⟨p, _, rfl | rfl | rfl | rfl⟩ := hu <;> rfl
theorem flatG_at : ∀ (xs : List G.Pt) (k : Nat) (x : G.Pt) (i : Nat), xs[k]? = some x → i < 4 → (flatG xs)[k * 4 + i]? = (fcG x)[i]?
  | a :: r, 0, x, i, h, hi => by
    have hx : a = x := Option.some.inj h
    subst hx
    have : flatG (a :: r) = fcG a ++ flatG r := rfl
    rw [this, List.getElem?_append_left (by show 0 * 4 + i < 4; omega)]
    congr 1
    omega
  | a :: r, k + 1, x, i, h, hi => by
    have : flatG (a :: r) = fcG a ++ flatG r := rfl
    rw [this, List.getElem?_append_right (by show 4 ≤ (k + 1) * 4 + i; omega)]
    have e : (k + 1) * 4 + i - (fcG a).length = k * 4 + i := by show (k + 1) * 4 + i - 4 = _; omega
    rw [e]
    exact flatG_at r k x i h hi
theorem infoG : (Try.prog.info? 42).map (fun i => (i.zero, i.size, i.bytes)) = some (some (.agg #[.int .i64 0, .int .i64 0, .int .i64 0, .int .i64 0]), 4, 32) := by kernel_rfl
theorem RdG.cellAt {w : World} {B : Nat} {ad : Addr} {xs : List G.Pt} (h : RdG w B (some ad) xs) {j : Nat} {u : Value} (hj : (flatG xs)[j]? = some u) : w.cell? (ad.add j) = some u := by
  have hjl : j < xs.length * 4 := by have := (List.getElem?_eq_some_iff.1 hj).1; rwa [flatG_length] at this
  obtain ⟨x, hx⟩ : ∃ x, xs[j / 4]? = some x := ⟨_, List.getElem?_eq_getElem (by omega)⟩
  obtain ⟨b, o, e, _, c0, c1, c2, c3⟩ := h (j / 4) x hx
  have e' := Option.some.inj e
  subst e'
  rw [add_plain]
  have h2 := flatG_at xs (j / 4) x (j % 4) hx (by omega)
  rw [show j / 4 * 4 + j % 4 = j by omega, hj] at h2
  rcases (show j % 4 = 0 ∨ j % 4 = 1 ∨ j % 4 = 2 ∨ j % 4 = 3 by omega) with e | e | e | e
  · rw [e] at h2
    rw [show o + j = o + j / 4 * 4 by omega, c0]
    exact h2.symm
  · rw [e] at h2
    rw [show o + j = o + j / 4 * 4 + 1 by omega, c1]
    exact h2.symm
  · rw [e] at h2
    rw [show o + j = o + j / 4 * 4 + 2 by omega, c2]
    exact h2.symm
  · rw [e] at h2
    rw [show o + j = o + j / 4 * 4 + 3 by omega, c3]
    exact h2.symm
theorem RdG.none' {w : World} {B : Nat} {xs : List G.Pt} (h : RdG w B none xs) : xs = [] := by
  match xs, h with
  | [], _ => rfl
  | x :: r, hr => obtain ⟨_, _, e, _⟩ := hr 0 x rfl; cases e
theorem run_app_G {w : World} (ty : TypeId) (base : Nat) (v : Value) (ps : List G.Pt) (m0 : Nat) (hown : w.ownsRow base 42 4 v m0 (flatG ps)) (hlen : ps.length = m0)
    (A : Option Addr) (n c : Nat) (xs : List G.Pt) (hn : xs.length = n) (hr : RdG w w.heap.size A xs) (hA : A = none → c = 0) (h0 : m0 ≤ 1000) (h1 : n ≤ 1000) (hbase : base ≤ w.heap.size) :
    ∃ A' c' w', (Builtin.append_ #[24, 24] ty #[v, .slice A n c]).run Try.prog w = .ok (.slice A' (m0 + n) c') w' ∧ w'.ownsRow base 42 4 (.slice A' (m0 + n) c') (m0 + n) (flatG (ps ++ xs)) ∧ w.grownBy w' v.ownBlock := by
  obtain ⟨i, hi, hz0, hz1, hz2⟩ := info_parts infoG
  rcases A with _ | ad
  · obtain rfl := hr.none'
    have hn0 : n = 0 := by simpa using hn.symm
    subst hn0
    have hc0 := hA rfl
    subst hc0
    obtain ⟨A', c', rfl⟩ := own_form hown
    have hrun := run_append_owned_none (P := Try.prog) (w := w) base 24 ty 42 i 4 Try.underlying24 hi (.slice A' m0 c') m0 (flatG ps) hown
    exact ⟨A', c', w, hrun, by simpa using hown, World.grownBy.refl w _⟩
  · obtain ⟨v', w', hrun, h2, h3, _, _⟩ := run_append_own_at (P := Try.prog) w base 24 ty 42 i _ 4 32 Try.underlying24 hi hz0 hz1 hz2 (by rfl) (by decide) v m0 (flatG ps) hown ad n c (flatG xs) (by rw [flatG_length, hn]) (by
      intro j u hj
      exact hr.cellAt hj) (flatG_one xs) (by unfold maxLen; omega) (by omega) hbase
    obtain ⟨A', c', rfl⟩ := own_form h2
    exact ⟨A', c', w', hrun, by rw [flatG_app]; exact h2, h3⟩
theorem wpList_app_G {w : World} {ops : Array Oper} {rest : List Oper} {o : Oper} {a : Act} {Q : Exit → Act → World → Prop} (hgd : o.guard = none) (s x : Operand)
    (ho : o.op = .call { callee := .builtin .append, args := #[s, x], argTypes := #[24, 24] }) (base : Nat) (v : Value) (ps : List G.Pt) (m0 : Nat) (hs : a.eval s = v) (hown : w.ownsRow base 42 4 v m0 (flatG ps)) (hlen : ps.length = m0)
    (A : Option Addr) (n c : Nat) (xs : List G.Pt) (hx : a.eval x = .slice A n c) (hn : xs.length = n) (hr : RdG w w.heap.size A xs) (hA : A = none → c = 0) (h0 : m0 ≤ 1000) (h1 : n ≤ 1000) (hbase : base ≤ w.heap.size) (N : Nat) (hN : m0 + n = N)
    (h : ∀ A' c' w', w'.ownsRow base 42 4 (.slice A' N c') N (flatG (ps ++ xs)) → w.grownBy w' v.ownBlock → wpList Try.prog ops Q rest (a.put o.dst (.slice A' N c')) w') :
    wpList Try.prog ops Q (o :: rest) a w := by
  subst hN
  refine wpList_plain hgd fun K hK => ?_
  obtain ⟨A', c', w', hr', h2, h3⟩ := run_app_G o.type base v ps m0 hown hlen A n c xs hn hr hA h0 h1 hbase
  unfold Oper.wp execOp
  simp only [ho, resolve, invoke, builtin, Sem.run_bind, Sem.run_pure, Result.andThen_ok, List.map_toArray, List.map_cons, List.map_nil, hs, hx, hr']
  exact hK _ _ (h A' c' w' h2 h3)
theorem ownsG_empty {w : World} {q B : Nat} (hq : w.heap[q]? = some (.cells #[] 42 (0, 0))) (h : B ≤ q) : w.ownsRow B 42 4 (.slice (some ⟨q, 0, Option.none⟩) 0 0) 0 (flatG []) :=
  ⟨rfl, .inr ⟨q, 0, #[], rfl, h, hq, Nat.le_refl _, Nat.zero_le _, rfl, rfl⟩⟩
theorem owns_RdG {w : World} {base : Nat} {A : Option Addr} {n c : Nat} {xs : List G.Pt} (h : w.ownsRow base 42 4 (.slice A n c) n (flatG xs)) (hn : xs.length = n) : RdG w w.heap.size A xs := by
  intro k x hk
  have hkl : k < n := by rw [← hn]; exact (List.getElem?_eq_some_iff.1 hk).1
  obtain ⟨g, rfl, _, h'⟩ := own_slice h (by omega)
  have c : ∀ i, i < 4 → w.cell? ⟨g, 0 + k * 4 + i, none⟩ = (fcG x)[i]? := fun i hi => by
    rw [Nat.zero_add, h'.cellAt (k * 4 + i) (by omega)]
    exact flatG_at xs k x i hk hi
  exact ⟨g, 0, rfl, (h'.lt g rfl).2, c 0 (by omega), c 1 (by omega), c 2 (by omega), c 3 (by omega)⟩
def fcT (x : G.Tk) : List Value := [.int .i64 x.id, .int .i64 x.price, .int .i64 x.day, .int .i64 x.paid]
def flatT (xs : List G.Tk) : List Value := xs.flatMap fcT
theorem flatT_length (xs : List G.Tk) : (flatT xs).length = xs.length * 4 := by
  induction xs with
  | nil => rfl
  | cons x r ih =>
    have : flatT (x :: r) = fcT x ++ flatT r := rfl
    rw [this, List.length_append, ih, List.length_cons]
    show 4 + r.length * 4 = _
    omega
theorem flatT_at : ∀ (xs : List G.Tk) (k : Nat) (x : G.Tk) (i : Nat), xs[k]? = some x → i < 4 → (flatT xs)[k * 4 + i]? = (fcT x)[i]?
  | a :: r, 0, x, i, h, hi => by
    have hx : a = x := Option.some.inj h
    subst hx
    have : flatT (a :: r) = fcT a ++ flatT r := rfl
    rw [this, List.getElem?_append_left (by show 0 * 4 + i < 4; omega)]
    congr 1
    omega
  | a :: r, k + 1, x, i, h, hi => by
    have : flatT (a :: r) = fcT a ++ flatT r := rfl
    rw [this, List.getElem?_append_right (by show 4 ≤ (k + 1) * 4 + i; omega)]
    have e : (k + 1) * 4 + i - (fcT a).length = k * 4 + i := by show (k + 1) * 4 + i - 4 = _; omega
    rw [e]
    exact flatT_at r k x i h hi
theorem RdT.cellAt {w : World} {B : Nat} {ad : Addr} {xs : List G.Tk} (h : RdT w B (some ad) xs) {j : Nat} {u : Value} (hj : (flatT xs)[j]? = some u) : w.cell? (ad.add j) = some u := by
  have hjl : j < xs.length * 4 := by have := (List.getElem?_eq_some_iff.1 hj).1; rwa [flatT_length] at this
  obtain ⟨x, hx⟩ : ∃ x, xs[j / 4]? = some x := ⟨_, List.getElem?_eq_getElem (by omega)⟩
  obtain ⟨b, o, e, _, c0, c1, c2, c3⟩ := h (j / 4) x hx
  have e' := Option.some.inj e
  subst e'
  rw [add_plain]
  have h2 := flatT_at xs (j / 4) x (j % 4) hx (by omega)
  rw [show j / 4 * 4 + j % 4 = j by omega, hj] at h2
  rcases (show j % 4 = 0 ∨ j % 4 = 1 ∨ j % 4 = 2 ∨ j % 4 = 3 by omega) with e | e | e | e
  · rw [e] at h2
    rw [show o + j = o + j / 4 * 4 by omega, c0]
    exact h2.symm
  · rw [e] at h2
    rw [show o + j = o + j / 4 * 4 + 1 by omega, c1]
    exact h2.symm
  · rw [e] at h2
    rw [show o + j = o + j / 4 * 4 + 2 by omega, c2]
    exact h2.symm
  · rw [e] at h2
    rw [show o + j = o + j / 4 * 4 + 3 by omega, c3]
    exact h2.symm
theorem RdT.none' {w : World} {B : Nat} {xs : List G.Tk} (h : RdT w B none xs) : xs = [] := by
  match xs, h with
  | [], _ => rfl
  | x :: r, hr => obtain ⟨_, _, e, _⟩ := hr 0 x rfl; cases e
end Go.Proofs.Ytlpjkolocgkcpaa

namespace Go.Proofs.Ytlpjkolocgkcpaa
open Go

section
variable {P : Program} {ops : Array Oper} {md : Region.Mode} {w : World}

def upTo (N : Nat) : Nat → Array Bool
  | 0 => Array.replicate N false
  | k + 1 => (upTo N k).setIfInBounds k true
structure GateAt (md : Region.Mode) (ops : Array Oper) (k n : Nat) (listed : Array Bool) : Prop where
  size : listed.size = ops.size
  closed : ∀ j oj, ops[j]? = some oj → listed.getD j false = true → ∀ e ∈ oj.after, Region.binds md e = true → listed.getD e.on false = true
  low : ∀ i, i < k → listed.getD i false = true
  high : ∀ t, n ≤ t → t < ops.size → listed.getD t true = false

theorem GateAt.put {k n i : Nat} {listed : Array Bool} (h : GateAt md ops k n listed) (hi : i ∈ Region.ready md ops listed) (hn : i < n) : GateAt md ops k n (listed.setIfInBounds i true) := by
  obtain ⟨_, oi, ho, hd⟩ := mem_ready.1 hi
  refine ⟨by rw [Array.size_setIfInBounds]; exact h.size, ?_, fun j hj => getD_set_true (h.low j hj), ?_⟩
  · intro j oj hj hl e he hb
    refine getD_set_true ?_
    rcases Nat.decEq i j with hne | heq
    · rw [getD_set_ne false hne] at hl
      exact h.closed j oj hj hl e he hb
    · subst heq
      rw [ho] at hj
      rw [← Option.some.inj hj] at he
      exact hd e he hb
  · intro t ht hs
    rw [getD_set_ne true (by omega)]
    exact h.high t ht hs

end
end Go.Proofs.Ytlpjkolocgkcpaa

namespace Go.Proofs.Ytlpjkolocgkcpaa
open Go.RowKit

theorem set_grown (w : World) (p : Addr) (v : Value) : w.grownBy (w.setCell p v) (some p.block) :=
  ⟨rfl, rfl, rfl, by simp, fun k _ hk => Below.heap_setCell _ _ _ k (fun e => hk (by rw [e]))⟩
theorem row_ne' {w : World} {base b : Nat} {e : TypeId} {n size : Nat} {xs : List Value} {v : Value} (h : w.ownsRow base e size v n xs) (hb : b < base) : v.ownBlock ≠ some b := by
  rcases h.2 with ⟨rfl, _⟩ | ⟨g, cap, cur, rfl, hg, _⟩
  · simp [Value.ownBlock]
  · intro he
    have : g = b := by simpa [Value.ownBlock] using he
    omega
end Go.Proofs.Ytlpjkolocgkcpaa

namespace Go.Proofs.Ytlpjkolocgkcpaa
open Go.RowKit
attribute [local go_sem ↓] Go.wp_at_zero Go.wp_at_succ

theorem queueRow : (Try.prog.info? 27).map (·.size) = some 6 := by kernel_rfl
theorem own_nilR {w : World} {base : Nat} {e : TypeId} {n m c size : Nat} {xs : List Value} {A : Option Addr} (h : w.ownsRow base e size (.slice A m c) n xs) : A = none → c = 0 := by
  intro hA
  rcases h.2 with ⟨h1, h2⟩ | ⟨g, cap, cur, h1, _⟩
  · simp only [Value.slice.injEq] at h1; exact h1.2.2
  · simp only [Value.slice.injEq] at h1; rw [hA] at h1; cases h1.1
def CopyPost (q : G.Qu) (n m : Nat) (w : World) (e : Ending) (w' : World) : Prop :=
  ∃ (A' : Option Addr) (c' : Nat) (F' : Option Addr) (d' : Nat), e = .returned (.agg #[.int .i64 q.opn, .int .i64 q.lo, .int .i64 q.hi, .int .i64 q.seats, .slice A' n c', .slice F' m d']) ∧ QIn w' q A' n c' F' m d' ∧ Below w.heap.size w w' ∧
    w'.ownsRow w.heap.size 42 4 (.slice A' n c') n (flatG q.gs) ∧ w'.ownsRow w.heap.size 54 2 (.slice F' m d') m (flatF q.fs)
set_option maxHeartbeats 6400000 in
set_option maxRecDepth 100000 in
theorem Copy_ref (q : G.Qu) (A : Option Addr) (n c : Nat) (F : Option Addr) (m d : Nat) (w : World) (h : QIn w q A n c F m d) (hA : A = none → c = 0) (hn : n ≤ 100) (hm : m ≤ 100) :
    Calls Try.prog 14 #[.agg #[.int .i64 q.opn, .int .i64 q.lo, .int .i64 q.hi, .int .i64 q.seats, .slice A n c, .slice F m d]] w (CopyPost q n m w) := by
  have HI := hide h
  have HA := hide hA
  have HGL := hide h.gl
  have HFL := hide h.fl
  have HID := hide h.id
  clear h hA
  go_enter Try.func14, Try.ntmps14
  go_upto_region 2 with fail
  refine cap_w _ (fun w1 hw1 => ?_)
  have HB1 := hide (show Below w.heap.size w w1 by rw [hw1]; (repeat' first | exact zbR _ _ | assumption | refine zbD ?_ | refine zbA ?_ ?_ _ | refine zbS ?_ ?_ _ | refine zbT ?_ (by assumption) ?_ | (simp; done) | (simp; omega) | omega))
  have HQ1 := hide (show w1.heap[w.heap.size]? = some (.cells #[.int .i64 q.opn, .int .i64 q.lo, .int .i64 q.hi, .int .i64 q.seats, .slice A n c, .slice F m d] 27 (0, 0)) by rw [hw1]; exact (Below.heap_alloc _ _ _ (by simp; omega)).trans ((Below.heap_alloc _ _ _ (by simp)).trans (World.alloc_heap_new _ _)))
  have HZ1 := hide (show w1.heap[w.heap.size + 1]? = some (.cells #[.int .i64 0, .int .i64 0, .int .i64 0, .int .i64 0, .slice none 0 0, .slice none 0 0] 27 (0, 0)) by rw [hw1]; exact (Below.heap_alloc _ _ _ (by simp)).trans (alloc_new_at (by simp)))
  have HO1 := hide (show w1.heap[w.heap.size + 1 + 1]? = some (.cells #[.int .i64 q.opn, .int .i64 q.lo, .int .i64 q.hi, .int .i64 q.seats, .slice A n c, .slice F m d] 27 (0, 0)) by rw [hw1]; exact alloc_new_at (by simp))
  clear hw1
  have HI1 := hide (HI.out.below HB1.out)
  obtain ⟨b3, hb3⟩ : ∃ x, w.heap.size + 1 + 1 = x := ⟨_, rfl⟩
  rw [hb3] at HO1 ⊢
  obtain ⟨b2, hb2⟩ : ∃ x, w.heap.size + 1 = x := ⟨_, rfl⟩
  rw [hb2] at HZ1 hb3 ⊢
  obtain ⟨b1, hb1⟩ : ∃ x, w.heap.size = x := ⟨_, rfl⟩
  rw [hb1] at HQ1 hb2 ⊢
  have HE := hide (show b1 < b2 ∧ b2 < b3 by omega)
  have HE0 := hide hb1
  have HLB := hide (blk_lt HO1.out)
  clear hb1 hb2 hb3
  have q0 : w1.cell? ⟨b1, 0, none⟩ = some (.int .i64 q.opn) := (blk_cell HQ1.out 0).trans rfl
  have q1 : w1.cell? ⟨b1, 1, none⟩ = some (.int .i64 q.lo) := (blk_cell HQ1.out 1).trans rfl
  have q2 : w1.cell? ⟨b1, 2, none⟩ = some (.int .i64 q.hi) := (blk_cell HQ1.out 2).trans rfl
  have q3 : w1.cell? ⟨b1, 3, none⟩ = some (.int .i64 q.seats) := (blk_cell HQ1.out 3).trans rfl
  have q4 : w1.cell? ⟨b1, 4, none⟩ = some (.slice A n c) := (blk_cell HQ1.out 4).trans rfl
  have q5 : w1.cell? ⟨b1, 5, none⟩ = some (.slice F m d) := (blk_cell HQ1.out 5).trans rfl
  have lq := blk_lt HQ1.out
  have r0 : w1.cell? ⟨b3, 0, none⟩ = some (.int .i64 q.opn) := (blk_cell HO1.out 0).trans rfl
  have r1 : w1.cell? ⟨b3, 1, none⟩ = some (.int .i64 q.lo) := (blk_cell HO1.out 1).trans rfl
  have r2 : w1.cell? ⟨b3, 2, none⟩ = some (.int .i64 q.hi) := (blk_cell HO1.out 2).trans rfl
  have r3 : w1.cell? ⟨b3, 3, none⟩ = some (.int .i64 q.seats) := (blk_cell HO1.out 3).trans rfl
  have r4 : w1.cell? ⟨b3, 4, none⟩ = some (.slice A n c) := (blk_cell HO1.out 4).trans rfl
  have r5 : w1.cell? ⟨b3, 5, none⟩ = some (.slice F m d) := (blk_cell HO1.out 5).trans rfl
  have lr := blk_lt HO1.out
  have f4 : w1.frozen? ⟨b3, 4, none⟩ = false := blk_frozen HO1.out 4
  go_upto_region 3 with (at_builtin; refine wpList_app_G rfl (.tmp 5) (.tmp 7) rfl w1.heap.size (.slice (some ⟨w1.heap.size, 0, none⟩) 0 0) [] 0 rfl (ownsG_empty (World.alloc_heap_new w1 _) (Nat.le_refl _)) rfl A n c q.gs rfl HGL.out ((HI1.out.rg.below (zbA (zbR _ _) (Nat.le_refl _) _)).mono (by simp)) HA.out (by omega) (by omega) (by simp) n (by omega) ?_; intro A1 c1 w2 hown hgrow; rw [List.nil_append] at hown; have HO2 := hide hown; have HB2 := hide ((zbA (zbR w1.heap.size w1) (Nat.le_refl _) _).trans (grown_below (B := w1.heap.size) hgrow (by simp) (fun g hg => by have h1 : w1.heap.size = g := Option.some.inj hg; omega))); clear hown hgrow; have p4 := (HB2.out.cell (p := ⟨b3, 4, none⟩) lr).trans r4; have g4 := (HB2.out.frozen (p := ⟨b3, 4, none⟩) lr).trans f4; have lo2 := Nat.lt_of_lt_of_le lr HB2.out.size; clear r0 r1 r2 r3 r4 r5 lr f4; clear q0 q1 q2 q3 q4 q5 lq)
  refine cap_w _ (fun w3 hw3 => ?_)
  have HO3 := hide (show w3.heap[b3]? = some (.cells #[.int .i64 q.opn, .int .i64 q.lo, .int .i64 q.hi, .int .i64 q.seats, .slice A1 n c1, .slice F m d] 27 (0, 0)) by rw [hw3]; exact (blk_set (bkT HB2.out HO1).out 4 _).trans (by rfl))
  have HQ3 := hide (show w3.heap[b1]? = some (.cells #[.int .i64 q.opn, .int .i64 q.lo, .int .i64 q.hi, .int .i64 q.seats, .slice A n c, .slice F m d] 27 (0, 0)) by rw [hw3]; exact blk_other (bkT HB2.out HQ1).out (by have := HE.out; omega) _ _)
  have HZ3 := hide (show w3.heap[b2]? = some (.cells #[.int .i64 0, .int .i64 0, .int .i64 0, .int .i64 0, .slice none 0 0, .slice none 0 0] 27 (0, 0)) by rw [hw3]; exact blk_other (bkT HB2.out HZ1).out (by have := HE.out; omega) _ _)
  have HB3 := hide (show Below w.heap.size w w3 by rw [hw3]; exact zbS (zbT HB1.out HB2.out HB1.out.size) (by have := HE.out; have := HE0.out; show w.heap.size ≤ b3; omega) _)
  have HG3 := hide (show w3.ownsRow w1.heap.size 42 4 (.slice A1 n c1) n (flatG q.gs) by rw [hw3]; exact HO2.out.kept (set_grown w2 ⟨b3, 4, none⟩ _) (.inr (row_ne' HO2.out HLB.out)))
  have HLB3 := hide (blk_lt HO3.out)
  clear hw3 p4 g4 lo2 HO1 HQ1 HZ1 HO2
  have HI3 := hide (HI.out.below HB3.out)
  have q0 : w3.cell? ⟨b1, 0, none⟩ = some (.int .i64 q.opn) := (blk_cell HQ3.out 0).trans rfl
  have q1 : w3.cell? ⟨b1, 1, none⟩ = some (.int .i64 q.lo) := (blk_cell HQ3.out 1).trans rfl
  have q2 : w3.cell? ⟨b1, 2, none⟩ = some (.int .i64 q.hi) := (blk_cell HQ3.out 2).trans rfl
  have q3 : w3.cell? ⟨b1, 3, none⟩ = some (.int .i64 q.seats) := (blk_cell HQ3.out 3).trans rfl
  have q4 : w3.cell? ⟨b1, 4, none⟩ = some (.slice A n c) := (blk_cell HQ3.out 4).trans rfl
  have q5 : w3.cell? ⟨b1, 5, none⟩ = some (.slice F m d) := (blk_cell HQ3.out 5).trans rfl
  have lq := blk_lt HQ3.out
  have r0 : w3.cell? ⟨b3, 0, none⟩ = some (.int .i64 q.opn) := (blk_cell HO3.out 0).trans rfl
  have r1 : w3.cell? ⟨b3, 1, none⟩ = some (.int .i64 q.lo) := (blk_cell HO3.out 1).trans rfl
  have r2 : w3.cell? ⟨b3, 2, none⟩ = some (.int .i64 q.hi) := (blk_cell HO3.out 2).trans rfl
  have r3 : w3.cell? ⟨b3, 3, none⟩ = some (.int .i64 q.seats) := (blk_cell HO3.out 3).trans rfl
  have r4 : w3.cell? ⟨b3, 4, none⟩ = some (.slice A1 n c1) := (blk_cell HO3.out 4).trans rfl
  have r5 : w3.cell? ⟨b3, 5, none⟩ = some (.slice F m d) := (blk_cell HO3.out 5).trans rfl
  have lr := blk_lt HO3.out
  have f5 : w3.frozen? ⟨b3, 5, none⟩ = false := blk_frozen HO3.out 5
  go_upto_region 4 with (at_builtin; refine wpList_app_Fs rfl (.tmp 10) (.tmp 12) rfl w3.heap.size (.slice (some ⟨w3.heap.size, 0, none⟩) 0 0) [] 0 rfl (ownsF_empty (World.alloc_heap_new w3 _) (Nat.le_refl _)) rfl F m d q.fs rfl HFL.out ((HI3.out.rf.below (zbA (zbR _ _) (Nat.le_refl _) _)).mono (by simp)) HI.out.f (by omega) (by omega) (by simp) m (by omega) ?_; intro F2 d2 w4 hown hgrow; rw [List.nil_append] at hown; have HO4 := hide hown; have HB4 := hide ((zbA (zbR w3.heap.size w3) (Nat.le_refl _) _).trans (grown_below (B := w3.heap.size) hgrow (by simp) (fun g hg => by have h1 : w3.heap.size = g := Option.some.inj hg; omega))); clear hown hgrow; have p5 := (HB4.out.cell (p := ⟨b3, 5, none⟩) lr).trans r5; have g5 := (HB4.out.frozen (p := ⟨b3, 5, none⟩) lr).trans f5; have lo4 := Nat.lt_of_lt_of_le lr HB4.out.size; clear r0 r1 r2 r3 r4 r5 lr f5; clear q0 q1 q2 q3 q4 q5 lq)
  refine cap_w _ (fun w5 hw5 => ?_)
  have HO5 := hide (show w5.heap[b3]? = some (.cells #[.int .i64 q.opn, .int .i64 q.lo, .int .i64 q.hi, .int .i64 q.seats, .slice A1 n c1, .slice F2 m d2] 27 (0, 0)) by rw [hw5]; exact (blk_set (bkT HB4.out HO3).out 5 _).trans (by rfl))
  have HZ5 := hide (show w5.heap[b2]? = some (.cells #[.int .i64 0, .int .i64 0, .int .i64 0, .int .i64 0, .slice none 0 0, .slice none 0 0] 27 (0, 0)) by rw [hw5]; exact blk_other (bkT HB4.out HZ3).out (by have := HE.out; omega) _ _)
  have HB5 := hide (show Below w.heap.size w w5 by rw [hw5]; exact zbS (zbT HB3.out HB4.out HB3.out.size) (by have := HE.out; have := HE0.out; show w.heap.size ≤ b3; omega) _)
  have HG5 := hide (show w5.ownsRow w1.heap.size 42 4 (.slice A1 n c1) n (flatG q.gs) by rw [hw5]; exact (owns_below HG3.out HB4.out).kept (set_grown w4 ⟨b3, 5, none⟩ _) (.inr (row_ne' (owns_below HG3.out HB4.out) HLB.out)))
  have HF5 := hide (show w5.ownsRow w3.heap.size 54 2 (.slice F2 m d2) m (flatF q.fs) by rw [hw5]; exact HO4.out.kept (set_grown w4 ⟨b3, 5, none⟩ _) (.inr (row_ne' HO4.out HLB3.out)))
  clear hw5 p5 g5 lo4 HO3 HQ3 HZ3 HO4
  have r0 : w5.cell? ⟨b3, 0, none⟩ = some (.int .i64 q.opn) := (blk_cell HO5.out 0).trans rfl
  have r1 : w5.cell? ⟨b3, 1, none⟩ = some (.int .i64 q.lo) := (blk_cell HO5.out 1).trans rfl
  have r2 : w5.cell? ⟨b3, 2, none⟩ = some (.int .i64 q.hi) := (blk_cell HO5.out 2).trans rfl
  have r3 : w5.cell? ⟨b3, 3, none⟩ = some (.int .i64 q.seats) := (blk_cell HO5.out 3).trans rfl
  have r4 : w5.cell? ⟨b3, 4, none⟩ = some (.slice A1 n c1) := (blk_cell HO5.out 4).trans rfl
  have r5 : w5.cell? ⟨b3, 5, none⟩ = some (.slice F2 m d2) := (blk_cell HO5.out 5).trans rfl
  have lr := blk_lt HO5.out
  go_wp2_with (refine wpList_store_row rfl 27 _ _ rfl b2 _ rfl rfl 27 _ HZ5.out queueRow rfl (by simp [Value.oneCell']) ?_)
  refine cap_w _ (fun w6 hw6 => ?_)
  have HR6 := hide (show w6.heap[b2]? = some (.cells #[.int .i64 q.opn, .int .i64 q.lo, .int .i64 q.hi, .int .i64 q.seats, .slice A1 n c1, .slice F2 m d2] 27 (0, 0)) by rw [hw6]; exact setRow_heap _ _ _ _ _ _ HZ5.out)
  have HB6 := hide (show Below w.heap.size w w6 by rw [hw6]; exact below_row HB5.out (by have := HE.out; have := HE0.out; omega) _)
  have HN1 := hide (show b2 < w1.heap.size ∧ b2 < w3.heap.size by have := HLB.out; have := HLB3.out; have := HE.out; omega)
  have HG6 := hide (show w6.ownsRow w1.heap.size 42 4 (.slice A1 n c1) n (flatG q.gs) by rw [hw6]; exact HG5.out.kept (setRow_grown w5 b2 _) (.inr (row_ne' HG5.out HN1.out.1)))
  have HF6 := hide (show w6.ownsRow w3.heap.size 54 2 (.slice F2 m d2) m (flatF q.fs) by rw [hw6]; exact HF5.out.kept (setRow_grown w5 b2 _) (.inr (row_ne' HF5.out HN1.out.2)))
  clear hw6
  have r0 : w6.cell? ⟨b2, 0, none⟩ = some (.int .i64 q.opn) := (blk_cell HR6.out 0).trans rfl
  have r1 : w6.cell? ⟨b2, 1, none⟩ = some (.int .i64 q.lo) := (blk_cell HR6.out 1).trans rfl
  have r2 : w6.cell? ⟨b2, 2, none⟩ = some (.int .i64 q.hi) := (blk_cell HR6.out 2).trans rfl
  have r3 : w6.cell? ⟨b2, 3, none⟩ = some (.int .i64 q.seats) := (blk_cell HR6.out 3).trans rfl
  have r4 : w6.cell? ⟨b2, 4, none⟩ = some (.slice A1 n c1) := (blk_cell HR6.out 4).trans rfl
  have r5 : w6.cell? ⟨b2, 5, none⟩ = some (.slice F2 m d2) := (blk_cell HR6.out 5).trans rfl
  have lr := blk_lt HR6.out
  refine bodyPost_ret (v := .agg #[.int .i64 q.opn, .int .i64 q.lo, .int .i64 q.hi, .int .i64 q.seats, .slice A1 n c1, .slice F2 m d2]) (by simp [results, Try.results14, go_sem, r0, r1, r2, r3, r4, r5]) rfl ⟨A1, c1, F2, d2, rfl, ⟨HGL.out, HFL.out, by omega, by omega, owns_RdG HG6.out HGL.out, owns_RdF HF6.out HFL.out, fun b o e => ?_, own_nilR HF6.out, HID.out⟩, HB6.out, owns_mono HG6.out HB1.out.size, owns_mono HF6.out HB3.out.size⟩
  rcases HG6.out.2 with ⟨h1, _⟩ | ⟨g, cap, cur, h1, _, h2, _⟩
  · simp only [Value.slice.injEq] at h1; rw [e] at h1; cases h1.1
  · simp only [Value.slice.injEq] at h1
    rw [e] at h1
    cases h1.1
    exact blk_lt h2
end Go.Proofs.Ytlpjkolocgkcpaa

namespace Go.Proofs.Ytlpjkolocgkcpaa
open Go.RowKit
attribute [local go_sem ↓] Go.wp_at_zero Go.wp_at_succ

set_option maxHeartbeats 6400000 in
set_option maxRecDepth 100000 in
theorem Sure_any (q : G.Qu) (id : Int) (A : Option Addr) (n c : Nat) (F : Option Addr) (m d : Nat) (w : World) (h : QIn w q A n c F m d) (hid : (Lit.int .i64 id).wf = true) :
    Calls Try.prog 22 #[.agg #[.int .i64 q.opn, .int .i64 q.lo, .int .i64 q.hi, .int .i64 q.seats, .slice A n c, .slice F m d], .int .i64 id] w fun e w' => e = .returned (.tuple #[.agg #[.int .i64 (G.sureV q id).1, .int .i64 (G.sureV q id).2], .int .i64 (G.sureE q id)]) ∧ Below w.heap.size w w' := by
  have HI := hide h
  have HID := hide hid
  clear h hid
  obtain ⟨er, her⟩ : ∃ x, G.sureE q id = x := ⟨_, rfl⟩
  obtain ⟨va, hva⟩ : ∃ x, (G.sureV q id).1 = x := ⟨_, rfl⟩
  obtain ⟨vb, hvb⟩ : ∃ x, (G.sureV q id).2 = x := ⟨_, rfl⟩
  rw [her, hva, hvb]
  have HER := hide her
  have HVA := hide hva
  have HVB := hide hvb
  clear her hva hvb
  go_enter Try.func22, Try.ntmps22
  go_upto_region 1 with fail
  refine cap_w (M := Code.wp _ _ _ _) _ (fun w1 hw1 => ?_)
  have HB1 := hide (show Below w.heap.size w w1 by rw [hw1]; (repeat' first | exact zbR _ _ | assumption | refine zbD ?_ | refine zbA ?_ ?_ _ | refine zbS ?_ ?_ _ | refine zbT ?_ (by assumption) ?_ | (simp; done) | (simp; omega) | omega))
  have HQ := hide (show w1.heap[w.heap.size]? = some (.cells #[.int .i64 q.opn, .int .i64 q.lo, .int .i64 q.hi, .int .i64 q.seats, .slice A n c, .slice F m d] 27 (0, 0)) by
    rw [hw1]; exact (Below.heap_alloc _ _ _ (by simp)).trans (World.alloc_heap_new _ _))
  have HZ := hide (show w1.heap[w.heap.size + 1]? = some (.cells #[.int .i64 0, .int .i64 0] 23 (0, 0)) by
    rw [hw1]; exact alloc_new_at (by simp))
  clear hw1
  obtain ⟨b1, hb1⟩ : ∃ x, w.heap.size + 1 = x := ⟨_, rfl⟩
  rw [hb1] at HZ ⊢
  obtain ⟨b0, hb0⟩ : ∃ x, w.heap.size = x := ⟨_, rfl⟩
  have HBB := hide (show w.heap.size ≤ b1 by omega)
  rw [hb0] at HQ ⊢
  clear hb1 hb0
  have HI1 := hide (HI.out.below HB1.out)
  have q0 : w1.cell? ⟨b0, 0, none⟩ = some (.int .i64 q.opn) := (blk_cell HQ.out 0).trans rfl
  have q1 : w1.cell? ⟨b0, 1, none⟩ = some (.int .i64 q.lo) := (blk_cell HQ.out 1).trans rfl
  have q2 : w1.cell? ⟨b0, 2, none⟩ = some (.int .i64 q.hi) := (blk_cell HQ.out 2).trans rfl
  have q3 : w1.cell? ⟨b0, 3, none⟩ = some (.int .i64 q.seats) := (blk_cell HQ.out 3).trans rfl
  have q4 : w1.cell? ⟨b0, 4, none⟩ = some (.slice A n c) := (blk_cell HQ.out 4).trans rfl
  have q5 : w1.cell? ⟨b0, 5, none⟩ = some (.slice F m d) := (blk_cell HQ.out 5).trans rfl
  have lq := blk_lt HQ.out
  cases hv : G.valid q
  · have HV := hide hv
    have hE : G.sureE q id = 110 := by unfold G.sureE; rw [hv]; rfl
    have hVV : G.sureV q id = (0, 0) := by unfold G.sureV; rw [if_neg (by rw [hE]; decide)]
    have e0 := HER.out
    rw [hE] at e0
    have e1 := HVA.out
    rw [hVV] at e1
    have e2 := HVB.out
    rw [hVV] at e2
    dsimp only at e1 e2
    subst e0 e1 e2
    clear HER HVA HVB
    clear hv hE hVV
    go_upto_region 2 with (go_at_call 43; (with_reducible refine (openFor_any q id A n c F m d _ HI1.out HID.out).mono ?_); rintro e w2 ⟨hb2, hno, _⟩; obtain rfl := hno HV.out; clear hno; have HB2 := hide (zbT HB1.out hb2 HB1.out.size); have HZ2 := bkT hb2 HZ; clear hb2 q0 q1 q2 q3 q4 q5 lq)
    refine cap_w (M := Code.wp _ _ _ _) _ (fun w3 hw3 => ?_)
    have HB3 := hide (show Below w.heap.size w w3 by rw [hw3]; exact zbA HB2.out HB2.out.size _)
    have HZ3 := hide (show w3.heap[b1]? = some (.cells #[.int .i64 0, .int .i64 0] 23 (0, 0)) by rw [hw3]; exact (Below.heap_alloc _ _ _ (blk_lt HZ2.out)).trans HZ2.out)
    clear hw3
    go_wp2_with (refine wpList_store_row rfl 23 _ _ rfl b1 _ rfl rfl 23 _ HZ3.out spRow rfl (by simp [Value.oneCell']) ?_)
    refine cap_w (M := bodyPost _ _ _ _ _) _ (fun W9 hW9 => ?_)
    have HR9 := hide (show W9.heap[b1]? = some (.cells #[.int .i64 0, .int .i64 0] 23 (0, 0)) by rw [hW9]; exact setRow_heap _ _ _ _ _ _ HZ3.out)
    have HB9 := hide (show Below w.heap.size w W9 by rw [hW9]; exact below_row HB3.out HBB.out _)
    clear hW9
    have s0 : W9.cell? ⟨b1, 0, none⟩ = some (.int .i64 0) := (blk_cell HR9.out 0).trans rfl
    have s1 : W9.cell? ⟨b1, 1, none⟩ = some (.int .i64 0) := (blk_cell HR9.out 1).trans rfl
    exact bodyPost_ret (v := .tuple #[.agg #[.int .i64 0, .int .i64 0], .int .i64 110]) (by simp [results, Try.results22, go_sem, s0, s1]) rfl ⟨rfl, HB9.out⟩
  · have HV := hide hv
    cases hx : G.idxOf q id with
    | none =>
      have HX := hide hx
      have hE : G.sureE q id = 1 := by unfold G.sureE; rw [hv, if_pos rfl, hx]
      have hVV : G.sureV q id = (0, 0) := by unfold G.sureV; rw [if_neg (by rw [hE]; decide)]
      have e0 := HER.out
      rw [hE] at e0
      have e1 := HVA.out
      rw [hVV] at e1
      have e2 := HVB.out
      rw [hVV] at e2
      dsimp only at e1 e2
      subst e0 e1 e2
      clear HER HVA HVB
      clear hv hE hVV hx
      go_upto_region 2 with (go_at_call 43; (with_reducible refine (openFor_any q id A n c F m d _ HI1.out HID.out).mono ?_); rintro e w2 ⟨hb2, _, hyes⟩; obtain rfl := (hyes HV.out).1 HX.out; clear hyes; have HB2 := hide (zbT HB1.out hb2 HB1.out.size); have HZ2 := bkT hb2 HZ; clear hb2 q0 q1 q2 q3 q4 q5 lq)
      refine cap_w (M := Code.wp _ _ _ _) _ (fun w3 hw3 => ?_)
      have HB3 := hide (show Below w.heap.size w w3 by rw [hw3]; exact zbA HB2.out HB2.out.size _)
      have HZ3 := hide (show w3.heap[b1]? = some (.cells #[.int .i64 0, .int .i64 0] 23 (0, 0)) by rw [hw3]; exact (Below.heap_alloc _ _ _ (blk_lt HZ2.out)).trans HZ2.out)
      clear hw3
      go_wp2_with (refine wpList_store_row rfl 23 _ _ rfl b1 _ rfl rfl 23 _ HZ3.out spRow rfl (by simp [Value.oneCell']) ?_)
      refine cap_w (M := bodyPost _ _ _ _ _) _ (fun W9 hW9 => ?_)
      have HR9 := hide (show W9.heap[b1]? = some (.cells #[.int .i64 0, .int .i64 0] 23 (0, 0)) by rw [hW9]; exact setRow_heap _ _ _ _ _ _ HZ3.out)
      have HB9 := hide (show Below w.heap.size w W9 by rw [hW9]; exact below_row HB3.out HBB.out _)
      clear hW9
      have s0 : W9.cell? ⟨b1, 0, none⟩ = some (.int .i64 0) := (blk_cell HR9.out 0).trans rfl
      have s1 : W9.cell? ⟨b1, 1, none⟩ = some (.int .i64 0) := (blk_cell HR9.out 1).trans rfl
      exact bodyPost_ret (v := .tuple #[.agg #[.int .i64 0, .int .i64 0], .int .i64 1]) (by simp [results, Try.results22, go_sem, s0, s1]) rfl ⟨rfl, HB9.out⟩
    | some gi =>
      have HX := hide hx
      have HGI := hide (show gi < n by rw [← HI.out.gl]; exact G.idxOf_lt hx)
      have hval := G.valid_iff.1 hv
      have hrl := G.rates_len hval.lh
      have hul : (G.minutesOf q gi).length = (G.rates q).length := by unfold G.minutesOf; rw [List.length_map]
      have HU0 := hide (show 1 ≤ (G.minutesOf q gi).length by rw [hul]; have := hval.lh; omega)
      have HU1 := hide (show (G.minutesOf q gi).length ≤ 1000000 by rw [hul]; have := hval.h1; have := hval.l0; omega)
      clear hval hrl hul
      cases hc : (G.minutesOf q gi).contains (-1)
      · have HCN := hide hc
        have hE : G.sureE q id = 0 := by unfold G.sureE; rw [hv, if_pos rfl, hx]; dsimp only; rw [hc]; rfl
        have hVV : G.sureV q id = (G.minL (G.minutesOf q gi), G.maxL (G.minutesOf q gi)) := by unfold G.sureV; rw [if_pos hE, hx]
        have e0 := HER.out
        rw [hE] at e0
        have e1 := HVA.out
        rw [hVV] at e1
        have e2 := HVB.out
        rw [hVV] at e2
        dsimp only at e1 e2
        subst e0 e1 e2
        clear HER HVA HVB
        clear hv hE hVV hx hc
        go_upto_region 2 with (go_at_call 43; (with_reducible refine (openFor_any q id A n c F m d _ HI1.out HID.out).mono ?_); rintro e w2 ⟨hb2, _, hyes⟩; obtain ⟨F2, d2, fs2, g, O, co, ord, rfl, hpf, hL⟩ := (hyes HV.out).2 _ HX.out; have HPF := hide hpf; have HL := hide hL; clear hyes hpf hL; have HB2 := hide (zbT HB1.out hb2 HB1.out.size); have HZ2 := bkT hb2 HZ; clear hb2 q0 q1 q2 q3 q4 q5 lq)
        refine cap_w (M := Code.wp _ _ _ _) _ (fun w3 hw3 => ?_)
        have HB3 := hide (show Below w.heap.size w w3 by rw [hw3]; exact zbA HB2.out HB2.out.size _)
        have HZ3 := hide (show w3.heap[b1]? = some (.cells #[.int .i64 0, .int .i64 0] 23 (0, 0)) by rw [hw3]; exact (Below.heap_alloc _ _ _ (blk_lt HZ2.out)).trans HZ2.out)
        have HX3 := hide (show w3.heap[w2.heap.size]? = some (.cells #[.int .i64 q.opn, .int .i64 q.lo, .int .i64 q.hi, .int .i64 q.seats, .slice A n c, .slice F2 m d2, .map (some g), .slice O n co] 67 (0, 0)) by rw [hw3]; exact World.alloc_heap_new _ _)
        have HL3 := hide (HL.out.below (show Below w2.heap.size w2 w3 by rw [hw3]; exact zbA (zbR _ _) (Nat.le_refl _) _))
        have hx3 := HX3.out
        have x0 : w3.cell? ⟨w2.heap.size, 0, none⟩ = some (.int .i64 q.opn) := (blk_cell hx3 0).trans rfl
        have x1 : w3.cell? ⟨w2.heap.size, 1, none⟩ = some (.int .i64 q.lo) := (blk_cell hx3 1).trans rfl
        have x2 : w3.cell? ⟨w2.heap.size, 2, none⟩ = some (.int .i64 q.hi) := (blk_cell hx3 2).trans rfl
        have x3 : w3.cell? ⟨w2.heap.size, 3, none⟩ = some (.int .i64 q.seats) := (blk_cell hx3 3).trans rfl
        have x4 : w3.cell? ⟨w2.heap.size, 4, none⟩ = some (.slice A n c) := (blk_cell hx3 4).trans rfl
        have x5 : w3.cell? ⟨w2.heap.size, 5, none⟩ = some (.slice F2 m d2) := (blk_cell hx3 5).trans rfl
        have x6 : w3.cell? ⟨w2.heap.size, 6, none⟩ = some (.map (some g)) := (blk_cell hx3 6).trans rfl
        have x7 : w3.cell? ⟨w2.heap.size, 7, none⟩ = some (.slice O n co) := (blk_cell hx3 7).trans rfl
        have lx := blk_lt HX3.out
        clear hw3 hx3
        go_wp2_with (first | (go_at_call 44; (with_reducible refine (minutesOf_any { q with fs := fs2 } A n c F2 m d2 g O co ord gi _ HL3.out HGI.out).mono ?_); rintro e w5 ⟨A5, c5, rfl, ho5, hb5⟩; rw [G.minutesOf_fs HPF.out] at ho5 ⊢; have HO5 := hide ho5; have HZ5 := bkT hb5 HZ3; have HB5 := hide (zbT HB3.out hb5 HB3.out.size); clear ho5 hb5) | (go_at_call 45; (with_reducible refine (contains_any A5 _ c5 (G.minutesOf q gi) (-1) _ rfl (owns_RdI HO5.out rfl) HU1.out).mono ?_); rintro e w6 ⟨rfl, rfl⟩; rw [HCN.out]) | (go_at_call 41; (with_reducible refine (spanOf_any A5 _ c5 (G.minutesOf q gi) _ rfl (owns_RdI HO5.out rfl) HU1.out HU0.out).mono ?_); rintro e w6 ⟨rfl, hb6⟩; have HZ6 := bkT hb6 HZ5; have HB6 := hide (zbT HB5.out hb6 HB5.out.size); clear hb6) | (refine wpList_store_row rfl 23 _ _ rfl b1 _ rfl rfl 23 _ HZ6.out spRow rfl (by simp [Value.oneCell']) ?_))
        refine cap_w (M := bodyPost _ _ _ _ _) _ (fun W9 hW9 => ?_)
        have HR9 := hide (show W9.heap[b1]? = some (.cells #[.int .i64 (G.minL (G.minutesOf q gi)), .int .i64 (G.maxL (G.minutesOf q gi))] 23 (0, 0)) by rw [hW9]; exact setRow_heap _ _ _ _ _ _ HZ6.out)
        have HB9 := hide (show Below w.heap.size w W9 by rw [hW9]; exact below_row HB6.out HBB.out _)
        clear hW9
        have s0 : W9.cell? ⟨b1, 0, none⟩ = some (.int .i64 (G.minL (G.minutesOf q gi))) := (blk_cell HR9.out 0).trans rfl
        have s1 : W9.cell? ⟨b1, 1, none⟩ = some (.int .i64 (G.maxL (G.minutesOf q gi))) := (blk_cell HR9.out 1).trans rfl
        exact bodyPost_ret (v := .tuple #[.agg #[.int .i64 (G.minL (G.minutesOf q gi)), .int .i64 (G.maxL (G.minutesOf q gi))], .int .i64 0]) (by simp [results, Try.results22, go_sem, s0, s1]) rfl ⟨rfl, HB9.out⟩
      · have HCN := hide hc
        have hE : G.sureE q id = 3 := by unfold G.sureE; rw [hv, if_pos rfl, hx]; dsimp only; rw [hc]; rfl
        have hVV : G.sureV q id = (0, 0) := by unfold G.sureV; rw [if_neg (by rw [hE]; decide)]
        have e0 := HER.out
        rw [hE] at e0
        have e1 := HVA.out
        rw [hVV] at e1
        have e2 := HVB.out
        rw [hVV] at e2
        dsimp only at e1 e2
        subst e0 e1 e2
        clear HER HVA HVB
        clear hv hE hVV hx hc
        go_upto_region 2 with (go_at_call 43; (with_reducible refine (openFor_any q id A n c F m d _ HI1.out HID.out).mono ?_); rintro e w2 ⟨hb2, _, hyes⟩; obtain ⟨F2, d2, fs2, g, O, co, ord, rfl, hpf, hL⟩ := (hyes HV.out).2 _ HX.out; have HPF := hide hpf; have HL := hide hL; clear hyes hpf hL; have HB2 := hide (zbT HB1.out hb2 HB1.out.size); have HZ2 := bkT hb2 HZ; clear hb2 q0 q1 q2 q3 q4 q5 lq)
        refine cap_w (M := Code.wp _ _ _ _) _ (fun w3 hw3 => ?_)
        have HB3 := hide (show Below w.heap.size w w3 by rw [hw3]; exact zbA HB2.out HB2.out.size _)
        have HZ3 := hide (show w3.heap[b1]? = some (.cells #[.int .i64 0, .int .i64 0] 23 (0, 0)) by rw [hw3]; exact (Below.heap_alloc _ _ _ (blk_lt HZ2.out)).trans HZ2.out)
        have HX3 := hide (show w3.heap[w2.heap.size]? = some (.cells #[.int .i64 q.opn, .int .i64 q.lo, .int .i64 q.hi, .int .i64 q.seats, .slice A n c, .slice F2 m d2, .map (some g), .slice O n co] 67 (0, 0)) by rw [hw3]; exact World.alloc_heap_new _ _)
        have HL3 := hide (HL.out.below (show Below w2.heap.size w2 w3 by rw [hw3]; exact zbA (zbR _ _) (Nat.le_refl _) _))
        have hx3 := HX3.out
        have x0 : w3.cell? ⟨w2.heap.size, 0, none⟩ = some (.int .i64 q.opn) := (blk_cell hx3 0).trans rfl
        have x1 : w3.cell? ⟨w2.heap.size, 1, none⟩ = some (.int .i64 q.lo) := (blk_cell hx3 1).trans rfl
        have x2 : w3.cell? ⟨w2.heap.size, 2, none⟩ = some (.int .i64 q.hi) := (blk_cell hx3 2).trans rfl
        have x3 : w3.cell? ⟨w2.heap.size, 3, none⟩ = some (.int .i64 q.seats) := (blk_cell hx3 3).trans rfl
        have x4 : w3.cell? ⟨w2.heap.size, 4, none⟩ = some (.slice A n c) := (blk_cell hx3 4).trans rfl
        have x5 : w3.cell? ⟨w2.heap.size, 5, none⟩ = some (.slice F2 m d2) := (blk_cell hx3 5).trans rfl
        have x6 : w3.cell? ⟨w2.heap.size, 6, none⟩ = some (.map (some g)) := (blk_cell hx3 6).trans rfl
        have x7 : w3.cell? ⟨w2.heap.size, 7, none⟩ = some (.slice O n co) := (blk_cell hx3 7).trans rfl
        have lx := blk_lt HX3.out
        clear hw3 hx3
        go_wp2_with (first | (go_at_call 44; (with_reducible refine (minutesOf_any { q with fs := fs2 } A n c F2 m d2 g O co ord gi _ HL3.out HGI.out).mono ?_); rintro e w5 ⟨A5, c5, rfl, ho5, hb5⟩; rw [G.minutesOf_fs HPF.out] at ho5 ⊢; have HO5 := hide ho5; have HZ5 := bkT hb5 HZ3; have HB5 := hide (zbT HB3.out hb5 HB3.out.size); clear ho5 hb5) | (go_at_call 45; (with_reducible refine (contains_any A5 _ c5 (G.minutesOf q gi) (-1) _ rfl (owns_RdI HO5.out rfl) HU1.out).mono ?_); rintro e w6 ⟨rfl, rfl⟩; rw [HCN.out]) | (refine wpList_store_row rfl 23 _ _ rfl b1 _ rfl rfl 23 _ HZ5.out spRow rfl (by simp [Value.oneCell']) ?_))
        refine cap_w (M := bodyPost _ _ _ _ _) _ (fun W9 hW9 => ?_)
        have HR9 := hide (show W9.heap[b1]? = some (.cells #[.int .i64 0, .int .i64 0] 23 (0, 0)) by rw [hW9]; exact setRow_heap _ _ _ _ _ _ HZ5.out)
        have HB9 := hide (show Below w.heap.size w W9 by rw [hW9]; exact below_row HB5.out HBB.out _)
        clear hW9
        have s0 : W9.cell? ⟨b1, 0, none⟩ = some (.int .i64 0) := (blk_cell HR9.out 0).trans rfl
        have s1 : W9.cell? ⟨b1, 1, none⟩ = some (.int .i64 0) := (blk_cell HR9.out 1).trans rfl
        exact bodyPost_ret (v := .tuple #[.agg #[.int .i64 0, .int .i64 0], .int .i64 3]) (by simp [results, Try.results22, go_sem, s0, s1]) rfl ⟨rfl, HB9.out⟩
end Go.Proofs.Ytlpjkolocgkcpaa

namespace Go.Proofs.Ytlpjkolocgkcpaa
open Go.RowKit
attribute [local go_sem ↓] Go.wp_at_zero Go.wp_at_succ

theorem quRow : (Try.prog.info? 27).map (·.size) = some 6 := by kernel_rfl
theorem tmRow : (Try.prog.info? 48).map (·.size) = some 3 := by kernel_rfl
structure ExAt (w : World) (g f p t : Nat) : Prop where
  g : w.heap[g]? = some (.cells #[.int .i64 1, .int .i64 0, .int .i64 2, .int .i64 (-1), .int .i64 2, .int .i64 3, .int .i64 4, .int .i64 12, .int .i64 3, .int .i64 3, .int .i64 2, .int .i64 (-1), .int .i64 4, .int .i64 11, .int .i64 1, .int .i64 (-1)] 42 (0, 0))
  f : w.heap[f]? = some (.cells #[.int .i64 13, .int .i64 3] 54 (0, 0))
  p : w.heap[p]? = some (.cells #[.int .i64 30, .int .i64 90, .int .i64 200] 3 (0, 0))
  t : w.heap[t]? = some (.cells #[.int .i64 1, .int .i64 1001, .int .i64 0, .int .i64 0, .int .i64 2, .int .i64 1001, .int .i64 1, .int .i64 0, .int .i64 3, .int .i64 1001, .int .i64 1, .int .i64 600, .int .i64 4, .int .i64 1001, .int .i64 2, .int .i64 0] 61 (0, 0))
def ExPost (w : World) (e : Ending) (w' : World) : Prop := ∃ g f p t : Nat, e = .returned (.tuple #[.agg #[.int .i64 10, .int .i64 2, .int .i64 3, .int .i64 5, .slice (some ⟨g, 0, none⟩) 4 4, .slice (some ⟨f, 0, none⟩) 1 1], .agg #[.int .i64 60, .int .i64 120, .slice (some ⟨p, 0, none⟩) 3 3], .slice (some ⟨t, 0, none⟩) 4 4]) ∧ ExAt w' g f p t ∧ Below w.heap.size w w'

set_option maxHeartbeats 6400000 in
set_option maxRecDepth 100000 in
theorem Example_any (w : World) : Calls Try.prog 35 #[] w (ExPost w) := by
  go_enter Try.func35, Try.ntmps35
  go_upto_region 2 with fail
  refine cap_w (M := Code.wp _ _ _ _) _ (fun w1 hw1 => ?_)
  have HB1 := hide (show Below w.heap.size w w1 by rw [hw1]; (repeat' first | exact zbR _ _ | assumption | refine zbD ?_ | refine zbA ?_ ?_ _ | refine zbS ?_ ?_ _ | refine zbT ?_ (by assumption) ?_ | (simp; done) | (simp; omega) | omega))
  have H0 := hide (show w1.heap[w.heap.size]? = some (.cells #[.int .i64 0, .int .i64 0, .int .i64 0, .int .i64 0, .slice none 0 0, .slice none 0 0] 27 (0, 0)) by
    rw [hw1]; exact (Below.heap_alloc _ _ _ (by simp <;> omega)).trans ((Below.heap_alloc _ _ _ (by simp <;> omega)).trans ((Below.heap_alloc _ _ _ (by simp <;> omega)).trans ((Below.heap_alloc _ _ _ (by simp)).trans (World.alloc_heap_new _ _)))))
  have H1 := hide (show w1.heap[w.heap.size + 1]? = some (.cells #[.int .i64 0, .int .i64 0, .slice none 0 0] 48 (0, 0)) by
    rw [hw1]; exact (Below.heap_alloc _ _ _ (by simp <;> omega)).trans ((Below.heap_alloc _ _ _ (by simp <;> omega)).trans ((Below.heap_alloc _ _ _ (by simp)).trans (alloc_new_at (by simp)))))
  have H2 := hide (show w1.heap[w.heap.size + 1 + 1]? = some (.cells #[.int .i64 1, .int .i64 0, .int .i64 2, .int .i64 (-1), .int .i64 2, .int .i64 3, .int .i64 4, .int .i64 12, .int .i64 3, .int .i64 3, .int .i64 2, .int .i64 (-1), .int .i64 4, .int .i64 11, .int .i64 1, .int .i64 (-1)] 42 (0, 0)) by
    rw [hw1]; exact (Below.heap_alloc _ _ _ (by simp <;> omega)).trans ((Below.heap_alloc _ _ _ (by simp)).trans (alloc_new_at (by simp))))
  have H3 := hide (show w1.heap[w.heap.size + 1 + 1 + 1]? = some (.cells #[.int .i64 13, .int .i64 3] 54 (0, 0)) by
    rw [hw1]; exact (Below.heap_alloc _ _ _ (by simp)).trans (alloc_new_at (by simp)))
  have H4 := hide (show w1.heap[w.heap.size + 1 + 1 + 1 + 1]? = some (.cells #[.int .i64 10, .int .i64 2, .int .i64 3, .int .i64 5, .slice (some ⟨w.heap.size + 1 + 1, 0, none⟩) 4 4, .slice (some ⟨w.heap.size + 1 + 1 + 1, 0, none⟩) 1 1] 27 (0, 0)) by
    rw [hw1]; exact alloc_new_at (by simp))
  clear hw1
  obtain ⟨b0, hb0⟩ : ∃ x, w.heap.size = x := ⟨_, rfl⟩
  have HE0 := hide hb0
  rw [hb0] at H0 H1 H2 H3 H4 ⊢
  clear hb0
  obtain ⟨b1, hb1⟩ : ∃ x, b0 + 1 = x := ⟨_, rfl⟩
  rw [hb1] at H1 H2 H3 H4 ⊢
  obtain ⟨g, hg⟩ : ∃ x, b1 + 1 = x := ⟨_, rfl⟩
  rw [hg] at H2 H3 H4 ⊢
  obtain ⟨f, hf⟩ : ∃ x, g + 1 = x := ⟨_, rfl⟩
  rw [hf] at H3 H4 ⊢
  obtain ⟨b4, hb4⟩ : ∃ x, f + 1 = x := ⟨_, rfl⟩
  rw [hb4] at H4 ⊢
  have HE := hide (show b0 < b1 ∧ b1 < g ∧ g < f ∧ f < b4 by omega)
  clear hb1 hg hf hb4
  have q0 : w1.cell? ⟨b4, 0, none⟩ = some (.int .i64 10) := (blk_cell H4.out 0).trans rfl
  have q1 : w1.cell? ⟨b4, 1, none⟩ = some (.int .i64 2) := (blk_cell H4.out 1).trans rfl
  have q2 : w1.cell? ⟨b4, 2, none⟩ = some (.int .i64 3) := (blk_cell H4.out 2).trans rfl
  have q3 : w1.cell? ⟨b4, 3, none⟩ = some (.int .i64 5) := (blk_cell H4.out 3).trans rfl
  have q4 : w1.cell? ⟨b4, 4, none⟩ = some (.slice (some ⟨g, 0, none⟩) 4 4) := (blk_cell H4.out 4).trans rfl
  have q5 : w1.cell? ⟨b4, 5, none⟩ = some (.slice (some ⟨f, 0, none⟩) 1 1) := (blk_cell H4.out 5).trans rfl
  have lq := blk_lt H4.out
  go_wp2_with (first | (have HX0 := H0; refine cap_w (M := wpList _ _ _ _ _) _ (fun w2 hw2 => ?_); have HP := hide (show w2.heap[w1.heap.size]? = some (.cells #[.int .i64 30, .int .i64 90, .int .i64 200] 3 (0, 0)) by rw [hw2]; exact (Below.heap_alloc _ _ _ (by simp)).trans (World.alloc_heap_new _ _)); have HT := hide (show w2.heap[w1.heap.size + 1]? = some (.cells #[.int .i64 1, .int .i64 1001, .int .i64 0, .int .i64 0, .int .i64 2, .int .i64 1001, .int .i64 1, .int .i64 0, .int .i64 3, .int .i64 1001, .int .i64 1, .int .i64 600, .int .i64 4, .int .i64 1001, .int .i64 2, .int .i64 0] 61 (0, 0)) by rw [hw2]; exact alloc_new_at (by simp)); have HB2 := hide (show Below w1.heap.size w1 w2 by rw [hw2]; (repeat' first | exact zbR _ _ | assumption | refine zbD ?_ | refine zbA ?_ ?_ _ | refine zbS ?_ ?_ _ | refine zbT ?_ (by assumption) ?_ | (simp; done) | (simp; omega) | omega)); clear hw2 q0 q1 q2 q3 q4 q5 lq; obtain ⟨z1, hz1⟩ : ∃ x, w1.heap.size = x := ⟨_, rfl⟩; have HZ1 := hide hz1; rw [hz1] at HP HT ⊢; clear hz1; obtain ⟨z2, hz2⟩ : ∃ x, z1 + 1 = x := ⟨_, rfl⟩; have HZ2 := hide hz2; rw [hz2] at HT ⊢; clear hz2; refine wpList_store_row rfl 27 _ _ rfl b0 _ rfl rfl 27 _ (bkT HB2.out H0).out quRow rfl (by simp [Value.oneCell']) ?_; refine cap_w (M := wpList _ _ _ _ _) _ (fun w3 hw3 => ?_); have HR0 := hide (show w3.heap[b0]? = some (.cells #[.int .i64 10, .int .i64 2, .int .i64 3, .int .i64 5, .slice (some ⟨g, 0, none⟩) 4 4, .slice (some ⟨f, 0, none⟩) 1 1] 27 (0, 0)) by rw [hw3]; exact setRow_heap _ _ _ _ _ _ (bkT HB2.out H0).out); have HG3 := hide (show w2.grownBy w3 (some b0) by rw [hw3]; exact setRow_grown _ _ _); have H13 := bkG HG3.out (by have := HE.out; simp; omega) (bkT HB2.out H1); clear hw3 H0) | (refine wpList_store_row rfl 48 _ _ rfl b1 _ rfl rfl 48 _ H13.out tmRow rfl (by simp [Value.oneCell']) ?_))
  refine cap_w (M := bodyPost _ _ _ _ _) _ (fun W9 hW9 => ?_)
  have HR1 := hide (show W9.heap[b1]? = some (.cells #[.int .i64 60, .int .i64 120, .slice (some ⟨z1, 0, none⟩) 3 3] 48 (0, 0)) by rw [hW9]; exact setRow_heap _ _ _ _ _ _ H13.out)
  have HG9 := hide (show w3.grownBy W9 (some b1) by rw [hW9]; exact setRow_grown _ _ _)
  clear hW9
  have HR09 := bkG HG9.out (by have := HE.out; simp; omega) HR0
  have hz := blk_lt H4.out
  have HZZ := hide (show b4 < z1 ∧ z1 < z2 by have := HZ1.out; have := HZ2.out; omega)
  have to9 : ∀ (k : Nat) (ob : Obj), k ≠ b0 → k ≠ b1 → w2.heap[k]? = some ob → W9.heap[k]? = some ob := fun k ob h1 h2 h =>
    (bkG HG9.out (by simpa using h2) (bkG HG3.out (by simpa using h1) (hide h))).out
  have s0 : W9.cell? ⟨b0, 0, none⟩ = some (.int .i64 10) := (blk_cell HR09.out 0).trans rfl
  have s1 : W9.cell? ⟨b0, 1, none⟩ = some (.int .i64 2) := (blk_cell HR09.out 1).trans rfl
  have s2 : W9.cell? ⟨b0, 2, none⟩ = some (.int .i64 3) := (blk_cell HR09.out 2).trans rfl
  have s3 : W9.cell? ⟨b0, 3, none⟩ = some (.int .i64 5) := (blk_cell HR09.out 3).trans rfl
  have s4 : W9.cell? ⟨b0, 4, none⟩ = some (.slice (some ⟨g, 0, none⟩) 4 4) := (blk_cell HR09.out 4).trans rfl
  have s5 : W9.cell? ⟨b0, 5, none⟩ = some (.slice (some ⟨f, 0, none⟩) 1 1) := (blk_cell HR09.out 5).trans rfl
  have x0 : W9.cell? ⟨b1, 0, none⟩ = some (.int .i64 60) := (blk_cell HR1.out 0).trans rfl
  have x1 : W9.cell? ⟨b1, 1, none⟩ = some (.int .i64 120) := (blk_cell HR1.out 1).trans rfl
  have x2 : W9.cell? ⟨b1, 2, none⟩ = some (.slice (some ⟨z1, 0, none⟩) 3 3) := (blk_cell HR1.out 2).trans rfl
  have HB := hide (show Below w.heap.size w W9 from ((zbT HB1.out HB2.out HB1.out.size).trans (grown_below HG3.out (Nat.le_trans HB1.out.size HB2.out.size) (fun y hy => by have h5 := Option.some.inj hy; have := HE0.out; omega))).trans (grown_below HG9.out (Nat.le_trans (Nat.le_trans HB1.out.size HB2.out.size) HG3.out.size) (fun y hy => by have h5 := Option.some.inj hy; have := HE0.out; have := HE.out; omega)))
  have he := HE.out
  have hzz := HZZ.out
  refine bodyPost_ret (v := .tuple #[.agg #[.int .i64 10, .int .i64 2, .int .i64 3, .int .i64 5, .slice (some ⟨g, 0, none⟩) 4 4, .slice (some ⟨f, 0, none⟩) 1 1], .agg #[.int .i64 60, .int .i64 120, .slice (some ⟨z1, 0, none⟩) 3 3], .slice (some ⟨z2, 0, none⟩) 4 4]) (by simp [results, Try.results35, go_sem, s0, s1, s2, s3, s4, s5, x0, x1, x2]) rfl ⟨g, f, z1, z2, rfl, ⟨?_, ?_, ?_, ?_⟩, HB.out⟩
  · exact to9 _ _ (by omega) (by omega) (bkT HB2.out H2).out
  · exact to9 _ _ (by omega) (by omega) (bkT HB2.out H3).out
  · exact to9 _ _ (by omega) (by omega) HP.out
  · exact to9 _ _ (by omega) (by omega) HT.out
end Go.Proofs.Ytlpjkolocgkcpaa

namespace Go.Proofs.Ytlpjkolocgkcpaa
open Go.RowKit
attribute [local go_sem ↓] Go.wp_at_zero Go.wp_at_succ

set_option maxHeartbeats 3200000 in
set_option maxRecDepth 100000 in
theorem sameInts_eq (A1 A2 : Option Addr) (n c1 c2 : Nat) (xs : List Int) (w : World) (hn : xs.length = n) (hr1 : RdI w w.heap.size A1 xs) (hr2 : RdI w w.heap.size A2 xs) (hm : n ≤ 1000000) :
    Calls Try.prog 21 #[.slice A1 n c1, .slice A2 n c2] w fun e w' => e = .returned (.bool true) ∧ Below w.heap.size w w' := by
  have HN := hide hn
  have HR1 := hide hr1
  have HR2 := hide hr2
  clear hn hr1 hr2
  go_enter Try.func21, Try.ntmps21
  go_wp2_with fail
  go_loopw [5] (fun i wr => ∃ k : Nat, k ≤ n ∧ i = .int .i64 k ∧ Below w.heap.size w wr) (fun i _ => n - (intOf i).toNat)
  case atStart => exact ⟨0, by omega, rfl, by (repeat' first | exact zbR _ _ | assumption | refine zbD ?_ | refine zbA ?_ ?_ _ | refine zbS ?_ ?_ _ | refine zbT ?_ (by assumption) ?_ | (simp; done) | (simp; omega) | omega)⟩
  case round =>
    obtain ⟨k, hk, rfl, hB⟩ := hrel
    by_cases hlt : k < n
    · obtain ⟨p, hp'⟩ : ∃ q, xs[k]? = some q := ⟨_, List.getElem?_eq_getElem (by have := HN.out; omega)⟩
      obtain ⟨b, o, hA, hbB, c0⟩ := (HR1.out.below hB) k p hp'
      obtain ⟨b2, o2, hA2, hbB2, d0⟩ := (HR2.out.below hB) k p hp'
      subst hA hA2
      clear hp'
      have hlt' : (k : Int) < (n : Int) := by omega
      have hk0 : (0 : Int) ≤ (k : Int) := by omega
      go_wp2_with fail
      go_quiet (fail)
      go_wp2_with fail
      go_roundw
      case rel => exact ⟨k + 1, by omega, by go_num, below_drewN hB _⟩
      case measure => simp [intOf]; omega
    · have hkn : k = n := by omega
      subst hkn
      go_wp2_with fail
      go_ret
      exact ⟨rfl, hB⟩


theorem ExAt.qin {w : World} {g f p t : Nat} (h : ExAt w g f p t) : QIn w G.exQ (some ⟨g, 0, none⟩) 4 4 (some ⟨f, 0, none⟩) 1 1 := by
  have c : ∀ i, w.cell? ⟨g, i, none⟩ = _ := fun i => blk_cell h.g i
  have d : ∀ i, w.cell? ⟨f, i, none⟩ = _ := fun i => blk_cell h.f i
  refine ⟨rfl, rfl, by omega, by omega, fun k q hk => ?_, fun k q hk => ?_, fun b o e => ?_, fun e => (by cases e), fun q hq => ?_⟩
  · refine ⟨g, 0, rfl, blk_lt h.g, ?_⟩
    match k, hk with
    | 0, hk => cases hk; exact ⟨c 0, c 1, c 2, c 3⟩
    | 1, hk => cases hk; exact ⟨c 4, c 5, c 6, c 7⟩
    | 2, hk => cases hk; exact ⟨c 8, c 9, c 10, c 11⟩
    | 3, hk => cases hk; exact ⟨c 12, c 13, c 14, c 15⟩
    | k + 4, hk => cases hk
  · refine ⟨f, 0, rfl, blk_lt h.f, ?_⟩
    match k, hk with
    | 0, hk => cases hk; exact ⟨d 0, d 1⟩
    | k + 1, hk => cases hk
  · have : g = b := by simpa using congrArg (fun x => x.map (·.block)) e
    rw [← this]
    exact blk_lt h.g
  · simp only [G.exQ, List.mem_cons, List.not_mem_nil, or_false] at hq
    rcases hq with rfl | rfl | rfl | rfl <;> rfl
theorem ExAt.played {w : World} {g f p t : Nat} (h : ExAt w g f p t) : RdI w w.heap.size (some ⟨p, 0, none⟩) G.exX.played := by
  have c : ∀ i, w.cell? ⟨p, i, none⟩ = _ := fun i => blk_cell h.p i
  intro k x hk
  refine ⟨p, 0, rfl, blk_lt h.p, ?_⟩
  match k, hk with
  | 0, hk => cases hk; exact c 0
  | 1, hk => cases hk; exact c 1
  | 2, hk => cases hk; exact c 2
  | k + 3, hk => cases hk
theorem ExAt.tickets {w : World} {g f p t : Nat} (h : ExAt w g f p t) : RdT w w.heap.size (some ⟨t, 0, none⟩) G.exL := by
  have c : ∀ i, w.cell? ⟨t, i, none⟩ = _ := fun i => blk_cell h.t i
  intro k x hk
  refine ⟨t, 0, rfl, blk_lt h.t, ?_⟩
  match k, hk with
  | 0, hk => cases hk; exact ⟨c 0, c 1, c 2, c 3⟩
  | 1, hk => cases hk; exact ⟨c 4, c 5, c 6, c 7⟩
  | 2, hk => cases hk; exact ⟨c 8, c 9, c 10, c 11⟩
  | 3, hk => cases hk; exact ⟨c 12, c 13, c 14, c 15⟩
  | k + 4, hk => cases hk
theorem ExAt.below {w w' : World} {g f p t : Nat} (h : ExAt w g f p t) (hb : Below w.heap.size w w') : ExAt w' g f p t :=
  ⟨(bkT hb h.g).out, (bkT hb h.f).out, (bkT hb h.p).out, (bkT hb h.t).out⟩
end Go.Proofs.Ytlpjkolocgkcpaa
