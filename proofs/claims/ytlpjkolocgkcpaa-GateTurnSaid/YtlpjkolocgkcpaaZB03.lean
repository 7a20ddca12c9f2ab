/-
  Part of a claim's texts: contracts of the program's functions and the plain functions that they compute, in build order.
-/
import Derived.Deep.OwnRows
import Derived.OrdersIn
import Derived.OwnWalkIn
import Derived.StillTail
import Derived.Test.YtlpjkolocgkcpaaZB02
namespace Go.Proofs.Ytlpjkolocgkcpaa
open Go.RowKit Go.Maps
attribute [local go_sem ↓] Go.wp_at_zero Go.wp_at_succ

set_option maxHeartbeats 1600000 in
theorem validTerms_any (x : G.Tm) (A : Option Addr) (n c : Nat) (w : World) (hn : x.played.length = n) (hr : RdI w w.heap.size A x.played) (hm : n ≤ 1000000) :
    Calls Try.prog 49 #[.agg #[.int .i64 x.short, .int .i64 x.long, .slice A n c]] w fun e w' => e = .returned (.bool (G.vTerms x)) ∧ Below w.heap.size w w' := by
  have HN := hide hn
  have HR := hide hr
  obtain ⟨b, hb⟩ : ∃ b, Hid (G.vTerms x = b) := ⟨_, rfl⟩
  have hb' := hb.out
  unfold G.vTerms at hb'
  rw [hn] at hb'
  clear hn hr
  obtain ⟨al, hal⟩ : ∃ q, x.played.all G.vMin = q := ⟨_, rfl⟩
  have HAL := hide hal
  rw [hal] at hb'
  clear hal
  cases h1 : G.within x.short 0 x.long <;> cases h2 : G.vMin x.long <;> cases h3 : decide (n ≤ 30) <;> cases al <;>
    (rw [h1, h2, h3] at hb'
     have hb2 : _ = b := hb'
     simp only [Bool.and_true, Bool.and_false, Bool.true_and, Bool.false_and] at hb2
     subst hb2
     have H1 := hide h1
     have H2 := hide h2
     (try simp only [decide_eq_true_eq, decide_eq_false_iff_not, Nat.not_le] at h3)
     (first | have h4 : (n : Int) ≤ 30 := by omega | have h4 : (30 : Int) < (n : Int) := by omega)
     clear h1 h2 h3 hb'
     go_enter Try.func49, Try.ntmps49
     go_wp2_with (first | (go_at_call 38; (with_reducible refine (within_any (x.short) (0) (x.long) _).mono ?_); rintro e w' ⟨rfl, rfl⟩; rw [H1.out]) | (go_at_call 63; (with_reducible refine (validMinute_any _ _).mono ?_); rintro e w' ⟨rfl, rfl⟩; rw [H2.out]) | (go_at_call 64; (with_reducible refine (containsBad_any A n c x.played _ HN.out ((HR.out.below (zbA (zbR _ _) (Nat.le_refl _) _)).mono (by simp)) hm).mono ?_); rintro e w2 ⟨rfl, hb2⟩; rw [HAL.out]; have HB2 := hide (zbT (zbA (zbR w.heap.size w) (Nat.le_refl _) _) hb2 (by simp)); clear hb2))
     go_ret
     exact ⟨by rw [hb.out]; rfl, by first | exact HB2.out | (repeat' first | exact zbR _ _ | assumption | refine zbD ?_ | refine zbA ?_ ?_ _ | refine zbS ?_ ?_ _ | refine zbT ?_ (by assumption) ?_ | (simp; done) | (simp; omega) | omega)⟩)

namespace G
theorem vTicks_step {x : Tm} {seen : List Int} {l : List Tk} {k : Nat} {t : Tk} (h : l[k]? = some t) : vTicks x seen (l.drop k) = (!seen.contains t.id && vTicket x t && vTicks x (seen ++ [t.id]) (l.drop (k + 1))) := by
  obtain ⟨hl, he⟩ := List.getElem?_eq_some_iff.1 h
  rw [List.drop_eq_getElem_cons hl, he]
  rfl
theorem vTicket_id {x : Tm} {t : Tk} (h : vTicket x t = true) : 0 ≤ t.id ∧ t.id ≤ 999 := by
  unfold vTicket within at h
  simp only [Bool.and_eq_true, decide_eq_true_eq] at h
  omega
end G
def Seen (F : Int → Bool) (seen : List Int) : Prop := (∀ j, 0 ≤ j → j ≤ 999 → F j = seen.contains j) ∧ ∀ j ∈ seen, 0 ≤ j ∧ j ≤ 999
theorem Seen.add {F : Int → Bool} {seen : List Int} (h : Seen F seen) {i : Int} (h0 : 0 ≤ i) (h1 : i ≤ 999) : Seen (fun j => if j = i then true else F j) (seen ++ [i]) := by
  refine ⟨fun j a b => ?_, fun j hj => ?_⟩
  · by_cases e : j = i
    · simp [e]
    · simp only [if_neg e, h.1 j a b]
      simp [e]
  · rcases List.mem_append.1 hj with hj | hj
    · exact h.2 j hj
    · simp at hj
      omega
set_option maxHeartbeats 6400000 in
set_option maxRecDepth 100000 in
theorem validTickets_any (x : G.Tm) (A : Option Addr) (n c : Nat) (B : Option Addr) (m d : Nat) (l : List G.Tk) (w : World) (hn : x.played.length = n) (hm : n ≤ 1000000) (hl : l.length = m) (hr : RdT w w.heap.size B l) (hid : ∀ t ∈ l, (Lit.int .i64 t.id).wf = true) (hlm : m ≤ 1000000) :
    Calls Try.prog 50 #[.agg #[.int .i64 x.short, .int .i64 x.long, .slice A n c], .slice B m d] w fun e w' => e = .returned (.bool (G.vTickets x l)) ∧ Below w.heap.size w w' := by
  have HN := hide hn
  have HL := hide hl
  have HR := hide hr
  have HID := hide hid
  have hmm := @Go.RowKit.run_makeMap Try.prog
  obtain ⟨r, hres⟩ : ∃ r, G.vTickets x l = r := ⟨_, rfl⟩
  rw [hres]
  unfold G.vTickets at hres
  rw [hl] at hres
  clear hn hl hr hid
  go_enter Try.func50, Try.ntmps50
  by_cases h40 : 40 < m
  · have h1 : (40 : Int) < (m : Int) := by omega
    rw [decide_eq_false (by omega), Bool.false_and] at hres
    subst hres
    go_wp2_with fail
    go_ret
    exact ⟨rfl, by (repeat' first | exact zbR _ _ | assumption | refine zbD ?_ | refine zbA ?_ ?_ _ | refine zbS ?_ ?_ _ | refine zbT ?_ (by assumption) ?_ | (simp; done) | (simp; omega) | omega)⟩
  · have h1 : (m : Int) ≤ 40 := by omega
    have hm40 : m ≤ 40 := by omega
    rw [decide_eq_true hm40, Bool.true_and] at hres
    have HRES := hide hres
    clear h40 hres
    go_upto_region 4 with fail
    refine cap_w (M := Code.wp _ _ _ _) _ (fun w1 hw1 => ?_)
    have HX := hide (show w1.heap[w.heap.size]? = some (.cells #[.int .i64 x.short, .int .i64 x.long, .slice A n c] 48 (0, 0)) by rw [hw1]; exact (Below.heap_alloc _ _ _ (by simp)).trans (World.alloc_heap_new _ _))
    have HM := hide (show MapK elB w1 (w.heap.size + 1) (fun _ => false) (fun _ => false) 0 by
      rw [hw1]
      have h := MapK.made (E := elB) (w.alloc (.cells #[.int .i64 x.short, .int .i64 x.long, .slice A n c] 48))
      rw [World.size_alloc] at h
      exact h)
    have HB1 := hide (show Below w.heap.size w w1 by rw [hw1]; (repeat' first | exact zbR _ _ | assumption | refine zbD ?_ | refine zbA ?_ ?_ _ | refine zbS ?_ ?_ _ | refine zbT ?_ (by assumption) ?_ | (simp; done) | (simp; omega) | omega))
    clear hw1 hmm h1
    obtain ⟨g, hg⟩ : ∃ q, w.heap.size + 1 = q := ⟨_, rfl⟩
    have HGG := hide hg
    rw [hg] at HM ⊢
    clear hg
    go_wp2_with fail
    go_loopw [7, 14] (fun v i wr => ∃ (k : Nat) (F kn : Int → Bool) (e : Nat), k ≤ m ∧ i = .int .i64 k ∧ Hid (G.vTicks x ((l.take k).map (·.id)) (l.drop k) = r) ∧ Hid (e ≤ k ∧ MapK elB wr g F kn e) ∧ Hid (Seen F ((l.take k).map (·.id))) ∧ Hid (wr.heap[w.heap.size]? = some (.cells #[.int .i64 x.short, .int .i64 x.long, .slice A n c] 48 (0, 0))) ∧ Hid (Below w.heap.size w wr)) (fun _ i _ => m - (intOf i).toNat)
    case atStart => exact ⟨0, _, _, 0, by omega, rfl, HRES, hide ⟨Nat.le_refl _, HM.out⟩, hide ⟨fun j _ _ => rfl, fun j hj => by simp at hj⟩, HX, HB1⟩
    case round =>
      clear HM HX HB1 HRES
      obtain ⟨k, F, kn, e0, hk, rfl, HRES, HMM, HSE, HX, HB1⟩ := hrel
      have HE := hide HMM.out.1
      have HM := hide HMM.out.2
      clear HMM
      by_cases hlt : k < m
      · obtain ⟨t, ht⟩ : ∃ q, l[k]? = some q := ⟨_, List.getElem?_eq_getElem (by have := HL.out; omega)⟩
        obtain ⟨b, o, hB, hbB, d0, d1, d2, d3⟩ := (HR.out.below HB1.out) k t ht
        subst hB
        have hlt' : (k : Int) < (m : Int) := by omega
        have hk0 : (0 : Int) ≤ (k : Int) := by omega
        have hbr : b < wr.heap.size := Nat.lt_of_lt_of_le hbB HB1.out.size
        have HS := hide ((G.vTicks_step (x := x) (seen := (l.take k).map (·.id)) ht).symm.trans HRES.out)
        have HWF := hide (HID.out t (List.mem_of_getElem? ht))
        have HTK := hide (show (l.take (k + 1)).map (·.id) = (l.take k).map (·.id) ++ [t.id] by rw [List.take_add_one, ht]; simp)
        clear ht HRES
        go_upto_region 7 with fail
        refine cap_w (M := Code.wp _ _ _ _) _ (fun w2 hw2 => ?_)
        have HB2 := hide (show Below wr.heap.size wr w2 by rw [hw2]; exact zbA (zbR _ _) (Nat.le_refl _) _)
        have HT2 := hide (show w2.heap[wr.heap.size]? = some (.cells #[.int .i64 t.id, .int .i64 t.price, .int .i64 t.day, .int .i64 t.paid] 61 (0, 0)) by rw [hw2]; exact World.alloc_heap_new _ _)
        clear hw2 d0 d1 d2 d3
        have HX2 := bkT HB2.out HX
        have HM2 := hide (HM.out.below HB2.out)
        obtain ⟨q, hq⟩ : ∃ q, wr.heap.size = q := ⟨_, rfl⟩
        have HQ := hide hq
        rw [hq] at HT2 ⊢
        clear hq
        obtain ⟨bo, hlk0, hb1, hb2⟩ := MapK.look_wf Try.underlying94 zeroB HM2.out HWF.out
        have hlk : (Instr.lookup 94 (.map (some g)) (.int .i64 t.id) false).run Try.prog w2 = .ok (.bool bo) w2 := hlk0
        have HBI := hide hb1
        have HBO := hide hb2
        have c0 : w2.cell? ⟨q, 0, none⟩ = some (.int .i64 t.id) := (blk_cell HT2.out 0).trans rfl
        have c1 : w2.cell? ⟨q, 1, none⟩ = some (.int .i64 t.price) := (blk_cell HT2.out 1).trans rfl
        have c2 : w2.cell? ⟨q, 2, none⟩ = some (.int .i64 t.day) := (blk_cell HT2.out 2).trans rfl
        have c3 : w2.cell? ⟨q, 3, none⟩ = some (.int .i64 t.paid) := (blk_cell HT2.out 3).trans rfl
        have x0 : w2.cell? ⟨w.heap.size, 0, none⟩ = some (.int .i64 x.short) := (blk_cell HX2.out 0).trans rfl
        have x1 : w2.cell? ⟨w.heap.size, 1, none⟩ = some (.int .i64 x.long) := (blk_cell HX2.out 1).trans rfl
        have x2 : w2.cell? ⟨w.heap.size, 2, none⟩ = some (.slice A n c) := (blk_cell HX2.out 2).trans rfl
        have z0 := blk_lt HT2.out
        have z1 := blk_lt HX2.out
        have hbo : bo = ((l.take k).map (·.id)).contains t.id := by
          by_cases hin : 0 ≤ t.id ∧ t.id ≤ 999
          · rw [HBI.out hin.1 hin.2, HSE.out.1 _ hin.1 hin.2]
          · rw [HBO.out hin]
            cases hc : ((l.take k).map (·.id)).contains t.id with
            | false => rfl
            | true => exact absurd (HSE.out.2 _ (by simpa using hc)) hin
        have HBB := hide hbo
        clear hlk0 hb1 hb2 hbo HBI HBO
        obtain ⟨vt, hvt⟩ : ∃ q, G.vTicket x t = q := ⟨_, rfl⟩
        have HVT := hide hvt
        clear hvt
        cases bo
        · cases vt
          · have hr0 : r = false := by rw [← HS.out, ← HBB.out, HVT.out]; rfl
            subst hr0
            go_wp2_with (go_at_call 65; (with_reducible refine (validTicket_any x A n c t _ HN.out hm).mono ?_); rintro e w7 ⟨rfl, hb7⟩; rw [HVT.out]; have HB7 := hide (zbT HB2.out hb7 HB2.out.size); clear hb7)
            go_ret
            exact ⟨rfl, zbT HB1.out HB7.out HB1.out.size⟩
          · have hin := G.vTicket_id HVT.out
            have HS2 := hide (show G.vTicks x ((l.take (k + 1)).map (·.id)) (l.drop (k + 1)) = r by rw [HTK.out, ← HS.out, ← HBB.out, HVT.out]; rfl)
            have HSE2 := hide (show Seen (fun j => if j = t.id then true else F j) ((l.take (k + 1)).map (·.id)) by rw [HTK.out]; exact HSE.out.add hin.1 hin.2)
            have HIN := hide hin
            clear hin
            go_wp2_with (go_at_call 65; (with_reducible refine (validTicket_any x A n c t _ HN.out hm).mono ?_); rintro e w7 ⟨rfl, hb7⟩; rw [HVT.out]; have HM7 := hide (HM2.out.below hb7); have HX7 := bkT hb7 HX2; have HT7 := bkT hb7 HT2; have HB7 := hide (zbT HB2.out hb7 HB2.out.size); clear hb7; (try clear c0 c1 c2 c3 x0 x1 x2 hlk); obtain ⟨w8, hrun8, hm8, hg8⟩ := HM7.out.store Try.underlying94 (by have := HE.out; omega) HIN.out.1 HIN.out.2 true; have hrun9 : (Instr.mapUpdate 94 (.map (some g)) (.int .i64 t.id) (.bool true)).run Try.prog w7 = .ok () w8 := hrun8; have HM8 := hide hm8; have HG8 := hide hg8; have HX8 := bkG hg8 (by have := HGG.out; simp; omega) HX7; clear hrun8 hm8 hg8; have c0 : w7.cell? ⟨q, 0, none⟩ = some (.int .i64 t.id) := (blk_cell HT7.out 0).trans rfl)
            go_roundw
            case rel => exact ⟨k + 1, _, _, e0 + 1, by omega, by go_num, HS2, hide ⟨by have := HE.out; omega, HM8.out⟩, HSE2, HX8, hide ((zbT HB1.out HB7.out HB1.out.size).trans (grown_below HG8.out (Nat.le_trans HB1.out.size HB7.out.size) (fun y hy => by have h1 := Option.some.inj hy; have h2 := HGG.out; omega)))⟩
            case measure => simp [intOf]; omega
        · have hr0 : r = false := by rw [← HS.out, ← HBB.out]; rfl
          subst hr0
          go_wp2_with fail
          go_ret
          exact ⟨rfl, zbT HB1.out HB2.out HB1.out.size⟩
      · have hkm : k = m := by omega
        have hr1 : r = true := by
          have h := HRES.out
          rw [List.drop_of_length_le (by have := HL.out; omega)] at h
          exact h.symm
        subst hr1
        subst hkm
        go_wp2_with fail
        go_ret
        exact ⟨rfl, HB1.out⟩
end Go.Proofs.Ytlpjkolocgkcpaa

namespace Go.Proofs.Ytlpjkolocgkcpaa
open Go.RowKit Go.Maps
attribute [local go_sem ↓] Go.wp_at_zero Go.wp_at_succ

def rowI (xs : List Int) : Array Value := (flatI xs).toArray
theorem rowI_get {xs : List Int} {k : Nat} {x : Int} (h : xs[k]? = some x) : (rowI xs)[k]? = some (.int .i64 x) := by
  unfold rowI
  rw [List.getElem?_toArray]
  exact flatI_at h
theorem rowI_size (xs : List Int) : (rowI xs).size = xs.length := by unfold rowI flatI; simp
theorem rowI_set (xs : List Int) (k : Nat) (v : Int) : (rowI xs).setIfInBounds k (.int .i64 v) = rowI (xs.set k v) := by
  unfold rowI flatI
  rw [List.setIfInBounds_toArray, List.map_set]
theorem rowI_zero (n : Nat) : madeCells #[.int .i64 0] n = rowI (List.replicate n 0) := by
  unfold rowI flatI
  rw [List.map_replicate]
  refine Array.ext_getElem? fun i => ?_
  rcases Nat.lt_or_ge i n with h | h
  · simp [madeCells, h, Nat.mod_one]
  · rw [Array.getElem?_eq_none (by simp [madeCells]; omega), Array.getElem?_eq_none (by simp; omega)]
theorem own_rowI {w : World} {g base : Nat} {xs : List Int} {n : Nat} (hn : xs.length = n) (hm : n ≤ 1000000) (hb : base ≤ g) (h : w.heap[g]? = some (.cells (rowI xs) 3 (0, 0))) : w.ownsRow base 3 1 (.slice (some ⟨g, 0, none⟩) n n) n (flatI xs) :=
  ⟨by rw [flatI_length]; omega, .inr ⟨g, n, _, rfl, hb, h, Nat.le_refl _, by unfold maxLen; omega, by rw [rowI_size]; omega, by unfold rowI; rw [List.take_of_length_le (by simp [flatI_length]; omega)]⟩⟩
theorem run_make_ints (n : Nat) (hn : n ≤ 1000) (W : World) : (Instr.makeSlice 35 (.int .i64 (n : Int)) (.int .i64 (n : Int))).run Try.prog W = .ok (.slice (some ⟨W.heap.size, 0, none⟩) n n) (W.alloc (.cells (rowI (List.replicate n 0)) 3)) := by
  rw [← rowI_zero]
  exact run_make_row' (P := Try.prog) 35 3 (.int .i64 0) 8 Try.underlying35 int_info rfl .i64 .i64 n (by omega) (by omega) W
def IntsPost (xs : List Int) (er : Int) (w : World) (e : Ending) (w' : World) : Prop :=
  ∃ (A : Option Addr) (c : Nat), e = .returned (.tuple #[.slice A xs.length c, .int .i64 er]) ∧ w'.ownsRow w.heap.size 3 1 (.slice A xs.length c) xs.length (flatI xs) ∧ Below w.heap.size w w'
namespace G
theorem vTicks_all {x : Tm} : ∀ {l : List Tk} {seen : List Int}, vTicks x seen l = true → ∀ t ∈ l, vTicket x t = true
  | [], _, _, t, h => by cases h
  | a :: r, seen, hv, t, h => by
    unfold vTicks at hv
    rw [Bool.and_eq_true, Bool.and_eq_true] at hv
    rcases List.mem_cons.1 h with rfl | h
    · exact hv.1.2
    · exact vTicks_all hv.2 t h
structure Tk.V (x : Tm) (t : Tk) : Prop where
  i0 : 0 ≤ t.id
  i1 : t.id ≤ 999
  p0 : 0 ≤ t.price
  p1 : t.price ≤ 1000000
  d0 : 0 ≤ t.day
  d1 : t.day < x.played.length
  q0 : 0 ≤ t.paid
  q1 : t.paid ≤ t.price
theorem vTicket_iff {x : Tm} {t : Tk} : vTicket x t = true ↔ t.V x := by
  unfold vTicket within
  simp only [Bool.and_eq_true, decide_eq_true_eq]
  constructor
  · rintro ⟨⟨⟨⟨a, b⟩, c, d⟩, e, f⟩, g, h⟩
    exact ⟨a, b, c, d, e, by omega, g, h⟩
  · intro h
    exact ⟨⟨⟨⟨h.i0, h.i1⟩, h.p0, h.p1⟩, h.d0, by have := h.d1; omega⟩, h.q0, h.q1⟩
theorem refund_bd {x : Tm} {t : Tk} (h : t.V x) : 0 ≤ refund1 x t ∧ refund1 x t ≤ t.price - t.paid := by
  have h1 := h.p0
  have h2 := h.q0
  have h3 := h.q1
  unfold refund1 due
  split
  · omega
  · split <;> omega
end G
theorem refV_ok {x : G.Tm} {l : List G.Tk} (h1 : G.vTerms x = true) (h2 : G.vTickets x l = true) : G.refundE x l = 0 ∧ G.refundV x l = l.map (G.refund1 x) := by
  have h : G.refundE x l = 0 := by unfold G.refundE; rw [h1, h2]; rfl
  exact ⟨h, by unfold G.refundV; rw [if_pos h]⟩
theorem refV_no {x : G.Tm} {l : List G.Tk} (h : G.vTerms x = false ∨ G.vTickets x l = false) : G.refundE x l = 111 ∧ G.refundV x l = [] := by
  have h : G.refundE x l = 111 := by unfold G.refundE; rcases h with h | h <;> rw [h] <;> simp
  exact ⟨h, by unfold G.refundV; rw [h]; rfl⟩

set_option maxHeartbeats 6400000 in
set_option maxRecDepth 100000 in
theorem Refund_any (x : G.Tm) (A : Option Addr) (n c : Nat) (B : Option Addr) (m d : Nat) (l : List G.Tk) (w : World) (hn : x.played.length = n) (hrp : RdI w w.heap.size A x.played) (hm : n ≤ 1000000) (hl : l.length = m) (hr : RdT w w.heap.size B l) (hid : ∀ t ∈ l, (Lit.int .i64 t.id).wf = true) (hlm : m ≤ 1000000) :
    Calls Try.prog 26 #[.agg #[.int .i64 x.short, .int .i64 x.long, .slice A n c], .slice B m d] w (IntsPost (G.refundV x l) (G.refundE x l) w) := by
  have HN := hide hn
  have HL := hide hl
  have HR := hide hr
  have HRP := hide hrp
  have HID := hide hid
  clear hn hl hr hrp hid
  obtain ⟨b1, hb1⟩ : ∃ q, G.vTerms x = q := ⟨_, rfl⟩
  obtain ⟨b2, hb2⟩ : ∃ q, G.vTickets x l = q := ⟨_, rfl⟩
  have HV1 := hide hb1
  have HV2 := hide hb2
  clear hb1 hb2
  have HA0 := hide (show Below w.heap.size w (w.alloc (.cells #[.int .i64 x.short, .int .i64 x.long, .slice A n c] 48)) from zbA (zbR _ _) (Nat.le_refl _) _)
  have HX0 := hide (show (w.alloc (.cells #[.int .i64 x.short, .int .i64 x.long, .slice A n c] 48)).heap[w.heap.size]? = some (.cells #[.int .i64 x.short, .int .i64 x.long, .slice A n c] 48 (0, 0)) from World.alloc_heap_new _ _)
  obtain ⟨w0, hw0⟩ : ∃ q, w.alloc (.cells #[.int .i64 x.short, .int .i64 x.long, .slice A n c] 48) = q := ⟨_, rfl⟩
  rw [hw0] at HA0 HX0
  have HS0 := hide (show w.heap.size < w0.heap.size from blk_lt HX0.out)
  cases b1
  · obtain ⟨he, hv⟩ := refV_no (l := l) (.inl HV1.out)
    rw [he, hv]
    clear he hv
    go_enter Try.func26, Try.ntmps26
    go_upto_region 1 with fail
    (try rw [hw0])
    clear hw0
    have x0 : w0.cell? ⟨w.heap.size, 0, none⟩ = some (.int .i64 x.short) := (blk_cell HX0.out 0).trans rfl
    have x1 : w0.cell? ⟨w.heap.size, 1, none⟩ = some (.int .i64 x.long) := (blk_cell HX0.out 1).trans rfl
    have x2 : w0.cell? ⟨w.heap.size, 2, none⟩ = some (.slice A n c) := (blk_cell HX0.out 2).trans rfl
    go_wp2_with (go_at_call 49; (with_reducible refine (validTerms_any x A n c _ HN.out ((HRP.out.below HA0.out).mono HA0.out.size) hm).mono ?_); rintro e w1 ⟨rfl, hb1⟩; rw [HV1.out]; have HB1 := hide (zbT HA0.out hb1 HA0.out.size); clear hb1)
    go_ret2
    exact ⟨none, 0, rfl, World.ownsRow_nil _ _ _ _, HB1.out⟩
  · cases b2
    · obtain ⟨he, hv⟩ := refV_no (x := x) (.inr HV2.out)
      rw [he, hv]
      clear he hv
      go_enter Try.func26, Try.ntmps26
      go_upto_region 1 with fail
      (try rw [hw0])
      clear hw0
      have x0 : w0.cell? ⟨w.heap.size, 0, none⟩ = some (.int .i64 x.short) := (blk_cell HX0.out 0).trans rfl
      have x1 : w0.cell? ⟨w.heap.size, 1, none⟩ = some (.int .i64 x.long) := (blk_cell HX0.out 1).trans rfl
      have x2 : w0.cell? ⟨w.heap.size, 2, none⟩ = some (.slice A n c) := (blk_cell HX0.out 2).trans rfl
      go_wp2_with (first | (go_at_call 49; (with_reducible refine (validTerms_any x A n c _ HN.out ((HRP.out.below HA0.out).mono HA0.out.size) hm).mono ?_); rintro e w1 ⟨rfl, hb1⟩; rw [HV1.out]; have HX1 := bkT hb1 HX0; have HB1 := hide (zbT HA0.out hb1 HA0.out.size); clear hb1 x0 x1 x2; have y0 : w1.cell? ⟨w.heap.size, 0, none⟩ = some (.int .i64 x.short) := (blk_cell HX1.out 0).trans rfl; have y1 : w1.cell? ⟨w.heap.size, 1, none⟩ = some (.int .i64 x.long) := (blk_cell HX1.out 1).trans rfl; have y2 : w1.cell? ⟨w.heap.size, 2, none⟩ = some (.slice A n c) := (blk_cell HX1.out 2).trans rfl) | (go_at_call 50; (with_reducible refine (validTickets_any x A n c B m d l _ HN.out hm HL.out ((HR.out.below HB1.out).mono HB1.out.size) HID.out hlm).mono ?_); rintro e w2 ⟨rfl, hb2⟩; rw [HV2.out]; have HB2 := hide (zbT HB1.out hb2 HB1.out.size); clear hb2))
      go_ret2
      exact ⟨none, 0, rfl, World.ownsRow_nil _ _ _ _, HB2.out⟩
    · obtain ⟨he, hv⟩ := refV_ok HV1.out HV2.out
      rw [he, hv]
      clear he hv
      have HTV := hide (fun t (ht : t ∈ l) => G.vTicket_iff.1 (G.vTicks_all (by have h := HV2.out; unfold G.vTickets at h; rw [Bool.and_eq_true] at h; exact h.2) t ht))
      have hm40 : m ≤ 40 := by
        have h := HV2.out
        unfold G.vTickets at h
        rw [Bool.and_eq_true, HL.out, decide_eq_true_eq] at h
        exact h.1
      go_enter Try.func26, Try.ntmps26
      go_upto_region 1 with fail
      (try rw [hw0])
      clear hw0
      have x0 : w0.cell? ⟨w.heap.size, 0, none⟩ = some (.int .i64 x.short) := (blk_cell HX0.out 0).trans rfl
      have x1 : w0.cell? ⟨w.heap.size, 1, none⟩ = some (.int .i64 x.long) := (blk_cell HX0.out 1).trans rfl
      have x2 : w0.cell? ⟨w.heap.size, 2, none⟩ = some (.slice A n c) := (blk_cell HX0.out 2).trans rfl
      have hmk := run_make_ints m (by omega)
      go_upto_region 4 with (first | (go_at_call 49; (with_reducible refine (validTerms_any x A n c _ HN.out ((HRP.out.below HA0.out).mono HA0.out.size) hm).mono ?_); rintro e w1 ⟨rfl, hb1⟩; rw [HV1.out]; have HX1 := bkT hb1 HX0; have HB1 := hide (zbT HA0.out hb1 HA0.out.size); clear hb1 x0 x1 x2; have y0 : w1.cell? ⟨w.heap.size, 0, none⟩ = some (.int .i64 x.short) := (blk_cell HX1.out 0).trans rfl; have y1 : w1.cell? ⟨w.heap.size, 1, none⟩ = some (.int .i64 x.long) := (blk_cell HX1.out 1).trans rfl; have y2 : w1.cell? ⟨w.heap.size, 2, none⟩ = some (.slice A n c) := (blk_cell HX1.out 2).trans rfl) | (go_at_call 50; (with_reducible refine (validTickets_any x A n c B m d l _ HN.out hm HL.out ((HR.out.below HB1.out).mono HB1.out.size) HID.out hlm).mono ?_); rintro e w2 ⟨rfl, hb2⟩; rw [HV2.out]; have HX2 := bkT hb2 HX1; have HB2 := hide (zbT HB1.out hb2 HB1.out.size); clear hb2))
      clear hmk
      (try clear y0 y1 y2)
      refine cap_w (M := Code.wp _ _ _ _) _ (fun w3 hw3 => ?_)
      have HB3 := hide (show Below w.heap.size w w3 by rw [hw3]; exact zbA HB2.out HB2.out.size _)
      have HX3 := hide (show w3.heap[w.heap.size]? = some (.cells #[.int .i64 x.short, .int .i64 x.long, .slice A n c] 48 (0, 0)) by rw [hw3]; exact (Below.heap_alloc _ _ _ (blk_lt HX2.out)).trans HX2.out)
      have HG3 := hide (show w3.heap[w2.heap.size]? = some (.cells (rowI (List.replicate m 0)) 3 (0, 0)) by rw [hw3]; exact World.alloc_heap_new _ _)
      clear hw3
      obtain ⟨g, hg⟩ : ∃ q, w2.heap.size = q := ⟨_, rfl⟩
      have HGL := hide (show w.heap.size < g by rw [← hg]; exact blk_lt HX2.out)
      rw [hg] at HG3 ⊢
      clear hg
      go_wp2_with fail
      go_loopw [7, 8, 23] (fun v7 v8 i wr => ∃ k : Nat, k ≤ m ∧ i = .int .i64 k ∧ Hid (wr.heap[g]? = some (.cells (rowI ((l.take k).map (G.refund1 x) ++ List.replicate (m - k) 0)) 3 (0, 0))) ∧ Hid (wr.heap[w.heap.size]? = some (.cells #[.int .i64 x.short, .int .i64 x.long, .slice A n c] 48 (0, 0))) ∧ Hid (Below w.heap.size w wr)) (fun _ _ i _ => m - (intOf i).toNat)
      case atStart => exact ⟨0, by omega, rfl, HG3, HX3, HB3⟩
      case round =>
        clear HG3 HX3 HB3
        obtain ⟨k, hk, rfl, HG, HX, HB⟩ := hrel
        by_cases hlt : k < m
        · obtain ⟨t, ht⟩ : ∃ q, l[k]? = some q := ⟨_, List.getElem?_eq_getElem (by have := HL.out; omega)⟩
          obtain ⟨b, o, hB, hbB, d0, d1, d2, d3⟩ := (HR.out.below HB.out) k t ht
          subst hB
          have hlt' : (k : Int) < (m : Int) := by omega
          have hk0 : (0 : Int) ≤ (k : Int) := by omega
          have hbr : b < wr.heap.size := Nat.lt_of_lt_of_le hbB HB.out.size
          have HT := hide (HTV.out t (List.mem_of_getElem? ht))
          have HTK := hide (show ((l.take k).map (G.refund1 x) ++ List.replicate (m - k) 0).set k (G.refund1 x t) = (l.take (k + 1)).map (G.refund1 x) ++ List.replicate (m - (k + 1)) 0 by
            have hlen : ((l.take k).map (G.refund1 x)).length = k := by rw [List.length_map, List.length_take]; have := HL.out; omega
            rw [List.set_append_right _ _ (by omega), hlen, Nat.sub_self, List.take_add_one, ht, show m - k = (m - (k + 1)) + 1 by omega, List.replicate_succ]
            simp)
          have hlen : ((l.take k).map (G.refund1 x) ++ List.replicate (m - k) 0).length = m := by rw [List.length_append, List.length_map, List.length_take, List.length_replicate]; have := HL.out; omega
          clear ht
          go_upto_region 7 with fail
          refine cap_w (M := Code.wp _ _ _ _) _ (fun w4 hw4 => ?_)
          have HB4 := hide (show Below wr.heap.size wr w4 by rw [hw4]; exact zbA (zbR _ _) (Nat.le_refl _) _)
          have HT4 := hide (show w4.heap[wr.heap.size]? = some (.cells #[.int .i64 t.id, .int .i64 t.price, .int .i64 t.day, .int .i64 t.paid] 61 (0, 0)) by rw [hw4]; exact World.alloc_heap_new _ _)
          clear hw4 d0 d1 d2 d3
          have HX4 := bkT HB4.out HX
          have HG4 := bkT HB4.out HG
          have HBW4 := hide (zbT HB.out HB4.out HB.out.size)
          obtain ⟨q, hq⟩ : ∃ q, wr.heap.size = q := ⟨_, rfl⟩
          rw [hq] at HT4 ⊢
          clear hq
          have c0 : w4.cell? ⟨q, 0, none⟩ = some (.int .i64 t.id) := (blk_cell HT4.out 0).trans rfl
          have c1 : w4.cell? ⟨q, 1, none⟩ = some (.int .i64 t.price) := (blk_cell HT4.out 1).trans rfl
          have c2 : w4.cell? ⟨q, 2, none⟩ = some (.int .i64 t.day) := (blk_cell HT4.out 2).trans rfl
          have c3 : w4.cell? ⟨q, 3, none⟩ = some (.int .i64 t.paid) := (blk_cell HT4.out 3).trans rfl
          have x0 : w4.cell? ⟨w.heap.size, 0, none⟩ = some (.int .i64 x.short) := (blk_cell HX4.out 0).trans rfl
          have x1 : w4.cell? ⟨w.heap.size, 1, none⟩ = some (.int .i64 x.long) := (blk_cell HX4.out 1).trans rfl
          have x2 : w4.cell? ⟨w.heap.size, 2, none⟩ = some (.slice A n c) := (blk_cell HX4.out 2).trans rfl
          obtain ⟨old, hold⟩ : ∃ old, ((l.take k).map (G.refund1 x) ++ List.replicate (m - k) 0)[k]? = some old := ⟨_, List.getElem?_eq_getElem (by omega)⟩
          have HOLD := hide hold
          clear hold hlen
          go_wp2_with (go_at_call 51; (with_reducible refine (refund_any x A n c t _ HN.out ((HRP.out.below HBW4.out).mono HBW4.out.size) hm HT.out.d0 (by have h1 := HT.out.d1; have h2 := HN.out; omega) HT.out.p0 HT.out.p1 HT.out.q0 (by have h1 := HT.out.q1; have h2 := HT.out.p1; omega)).mono ?_); rintro e w5 ⟨rfl, hb5⟩; have HX5 := bkT hb5 HX4; have HG5 := bkT hb5 HG4; have HB5 := hide (zbT HBW4.out hb5 HBW4.out.size); clear hb5 c0 c1 c2 c3 x0 x1 x2; have g0 : w5.cell? ⟨g, k, none⟩ = some (.int .i64 old) := (blk_cell HG5.out k).trans (rowI_get HOLD.out); have g1 := blk_frozen HG5.out k; have g2 := blk_lt HG5.out)
          go_roundw
          case rel => exact ⟨k + 1, by omega, by go_num, hide (by rw [← HTK.out, ← rowI_set]; exact blk_set HG5.out k _), hide (blk_other HX5.out (by have := HGL.out; omega) k _), hide (zbS HB5.out (Nat.le_of_lt HGL.out) _)⟩
          case measure => simp [intOf]; omega
        · have hkm : k = m := by omega
          have HG' := hide (show wr.heap[g]? = some (.cells (rowI (l.map (G.refund1 x))) 3 (0, 0)) by
            have h := HG.out
            rw [hkm, List.take_of_length_le (by have := HL.out; omega), Nat.sub_self, List.replicate_zero, List.append_nil] at h
            exact h)
          clear HG
          subst hkm
          have HLM := hide (show (l.map (G.refund1 x)).length = k by rw [List.length_map]; exact HL.out)
          go_wp2_with fail
          go_ret2
          unfold IntsPost
          rw [HLM.out]
          exact ⟨some ⟨g, 0, none⟩, k, rfl, own_rowI HLM.out (by omega) (Nat.le_of_lt HGL.out) HG'.out, HB.out⟩

theorem sum_bd {l : List Int} (h : ∀ x ∈ l, 0 ≤ x ∧ x ≤ 1000000) : 0 ≤ l.sum ∧ l.sum ≤ 1000000 * l.length := by
  induction l with
  | nil => simp
  | cons a r ih =>
    have h1 := h a (List.mem_cons_self ..)
    have h2 := ih (fun x hx => h x (List.mem_cons_of_mem _ hx))
    rw [List.sum_cons, List.length_cons]
    omega
theorem sum_take {l : List Int} {k : Nat} {x : Int} (h : l[k]? = some x) : (l.take (k + 1)).sum = (l.take k).sum + x := by
  rw [List.take_add_one, h]
  simp
set_option maxHeartbeats 6400000 in
set_option maxRecDepth 100000 in
theorem Total_any (x : G.Tm) (A : Option Addr) (n c : Nat) (B : Option Addr) (m d : Nat) (l : List G.Tk) (w : World) (hn : x.played.length = n) (hrp : RdI w w.heap.size A x.played) (hm : n ≤ 1000000) (hl : l.length = m) (hr : RdT w w.heap.size B l) (hid : ∀ t ∈ l, (Lit.int .i64 t.id).wf = true) (hlm : m ≤ 1000000) :
    Calls Try.prog 28 #[.agg #[.int .i64 x.short, .int .i64 x.long, .slice A n c], .slice B m d] w fun e w' => e = .returned (.tuple #[.int .i64 (G.totalV x l), .int .i64 (G.refundE x l)]) ∧ Below w.heap.size w w' := by
  have HRF := fun (W : World) (h : Below w.heap.size w W) => hide (Refund_any x A n c B m d l W hn ((hrp.below h).mono h.size) hm hl ((hr.below h).mono h.size) hid hlm)
  have hvb : ∀ v ∈ G.refundV x l, 0 ≤ v ∧ v ≤ 1000000 := by
    intro v hv
    unfold G.refundV at hv
    split at hv
    · rename_i he
      unfold G.refundE at he
      split at he
      · rename_i hq
        rw [Bool.and_eq_true] at hq
        obtain ⟨t, ht, rfl⟩ := List.mem_map.1 hv
        have h1 := G.vTicket_iff.1 (G.vTicks_all (by have h := hq.2; unfold G.vTickets at h; rw [Bool.and_eq_true] at h; exact h.2) t ht)
        have h2 := G.refund_bd h1
        have h3 := h1.p1
        have h4 := h1.q0
        omega
      · omega
    · cases hv
  have hvl : (G.refundV x l).length ≤ 1000000 := by
    unfold G.refundV
    split
    · rw [List.length_map]; omega
    · simp
  unfold G.totalV
  obtain ⟨vs, hvs⟩ : ∃ q, G.refundV x l = q := ⟨_, rfl⟩
  obtain ⟨er, her⟩ : ∃ q, G.refundE x l = q := ⟨_, rfl⟩
  have HER := hide (show er ≠ 0 → vs = [] by intro h; rw [← hvs]; unfold G.refundV; rw [her, if_neg h])
  rw [hvs, her] at HRF
  rw [hvs] at hvb hvl
  rw [hvs, her]
  have HVB := hide hvb
  clear hvs her hvb hn hrp hl hr hid
  go_enter Try.func28, Try.ntmps28
  by_cases h0 : er = 0
  · subst h0
    go_upto_region 4 with (go_at_call 26; (with_reducible refine (HRF _ (by (repeat' first | exact zbR _ _ | assumption | refine zbD ?_ | refine zbA ?_ ?_ _ | refine zbS ?_ ?_ _ | refine zbT ?_ (by assumption) ?_ | (simp; done) | (simp; omega) | omega))).out.mono ?_); rintro e w1 ⟨A1, c1, rfl, ho, hb⟩; have HO := hide ho; have HB := hide (zbT (zbA (zbR w.heap.size w) (Nat.le_refl _) _) hb (by simp)); clear ho hb)
    have HRD := hide (owns_RdI HO.out rfl)
    obtain ⟨m1, hm1⟩ : ∃ q, vs.length = q := ⟨_, rfl⟩
    have HM1 := hide hm1
    rw [hm1] at hvl ⊢
    clear hm1 HRF HER
    go_wp2_with fail
    go_loopw [8, 10, 22] (fun v8 _ i wr => ∃ k : Nat, k ≤ m1 ∧ i = .int .i64 k ∧ v8 = .int .i64 (vs.take k).sum ∧ wr = w1) (fun _ _ i _ => m1 - (intOf i).toNat)
    case atStart => exact ⟨0, by omega, rfl, rfl, rfl⟩
    case round =>
      obtain ⟨k, hk, rfl, rfl, hwr⟩ := hrel
      subst hwr
      have hsb := sum_bd (l := vs.take k) (fun v hv => HVB.out v (List.mem_of_mem_take hv))
      have hsl : (vs.take k).length ≤ 1000000 := by rw [List.length_take]; omega
      have hs0 : 0 ≤ (vs.take k).sum := hsb.1
      have hs1 : (vs.take k).sum ≤ 1000000000000 := by omega
      clear hsb hsl
      by_cases hlt : k < m1
      · obtain ⟨v, hv⟩ : ∃ q, vs[k]? = some q := ⟨_, List.getElem?_eq_getElem (by have := HM1.out; omega)⟩
        obtain ⟨b, o, hA, hbB, d0⟩ := HRD.out k v hv
        subst hA
        have hlt' : (k : Int) < (m1 : Int) := by omega
        have hk0 : (0 : Int) ≤ (k : Int) := by omega
        have hv0 : 0 ≤ v := (HVB.out v (List.mem_of_getElem? hv)).1
        have hv1 : v ≤ 1000000 := (HVB.out v (List.mem_of_getElem? hv)).2
        have HST := hide (sum_take hv)
        clear hv
        go_wp2_with fail
        go_roundw
        case rel => exact ⟨k + 1, by omega, by go_num, by rw [HST.out], by first | rfl | trivial⟩
        case measure => simp [intOf]; omega
      · have hkm : k = m1 := by omega
        have HSS := hide (show (vs.take k).sum = vs.sum by rw [List.take_of_length_le (by have := HM1.out; omega)])
        subst hkm
        go_wp2_with fail
        go_ret2
        exact ⟨by rw [← HSS.out]; rfl, HB.out⟩
  · have h1 : (er != 0) = true := by simpa using h0
    have h2 : (er == 0) = false := by simpa using h0
    have hv0 := HER.out h0
    subst hv0
    clear HER h0
    go_wp2_with (go_at_call 26; (with_reducible refine (HRF _ (by (repeat' first | exact zbR _ _ | assumption | refine zbD ?_ | refine zbA ?_ ?_ _ | refine zbS ?_ ?_ _ | refine zbT ?_ (by assumption) ?_ | (simp; done) | (simp; omega) | omega))).out.mono ?_); rintro e w1 ⟨A1, c1, rfl, ho, hb⟩; have HB := hide (zbT (zbA (zbR w.heap.size w) (Nat.le_refl _) _) hb (by simp)); clear ho hb)
    go_ret2
    exact ⟨rfl, HB.out⟩
end Go.Proofs.Ytlpjkolocgkcpaa

namespace Go.Proofs.Ytlpjkolocgkcpaa
open Go.RowKit
attribute [local go_sem ↓] Go.wp_at_zero Go.wp_at_succ

namespace G
def st (S : Int → Int) (rate opn : Int) (l : List Pt) : Nat → Mo
  | 0 => ⟨0, 0, 0⟩
  | k + 1 => match l[k]? with
    | some p => next S rate opn p (st S rate opn l k)
    | none => st S rate opn l k
def stF (S : Int → Int) (rate opn : Int) (l : List Pt) (s : Mo) : Mo := l.foldl (fun s p => next S rate opn p s) s
theorem run_app (S : Int → Int) (rate opn : Int) : ∀ (a b : List Pt) (s : Mo), run S rate opn (a ++ b) s = run S rate opn a s ++ run S rate opn b (stF S rate opn a s)
  | [], b, s => rfl
  | p :: a, b, s => by
    have h := run_app S rate opn a b (next S rate opn p s)
    show (p.id, minuteOf S rate opn p s) :: run S rate opn (a ++ b) (next S rate opn p s) = ((p.id, minuteOf S rate opn p s) :: run S rate opn a (next S rate opn p s)) ++ run S rate opn b (stF S rate opn a (next S rate opn p s))
    rw [h]
    rfl
theorem st_fold (S : Int → Int) (rate opn : Int) (l : List Pt) : ∀ k, k ≤ l.length → st S rate opn l k = stF S rate opn (l.take k) ⟨0, 0, 0⟩
  | 0, _ => by rw [List.take_zero]; rfl
  | k + 1, h => by
    have hk : l[k]? = some l[k] := List.getElem?_eq_getElem (by omega)
    unfold st
    rw [hk, st_fold S rate opn l k (by omega), List.take_add_one, hk]
    unfold stF
    rw [List.foldl_append]
    rfl
theorem run_st {S : Int → Int} {rate opn : Int} {l : List Pt} {k : Nat} {p : Pt} (h : l[k]? = some p) : (run S rate opn l ⟨0, 0, 0⟩)[k]? = some (p.id, minuteOf S rate opn p (st S rate opn l k)) := by
  obtain ⟨hl, he⟩ := List.getElem?_eq_some_iff.1 h
  have e : run S rate opn l ⟨0, 0, 0⟩ = run S rate opn (l.take k ++ l.drop k) ⟨0, 0, 0⟩ := by rw [List.take_append_drop]
  rw [e, run_app, List.getElem?_append_right (by rw [run_len, List.length_take]; omega), run_len, List.length_take, show k - min k l.length = 0 by omega, List.drop_eq_getElem_cons hl, he, ← st_fold S rate opn l k (by omega)]
  rfl
theorem ready_hi {S : Int → Int} {opn : Int} {p : Pt} {s : Mo} (hp : p.V) (ho : opn ≤ 1440) : ready S opn p s ≤ max s.min 1441 := by
  have hg : p.gone ≤ 1441 := by unfold Pt.gone; have := hp.qt; split <;> omega
  have ha := hp.a1
  have hf : from_ opn p s ≤ max s.min 1441 := by unfold from_; omega
  obtain ⟨_, _, _, h4⟩ := wait_spec (fun m => S m - s.used) p.size p.gone (p.gone - from_ opn p s).toNat (from_ opn p s) (Nat.le_refl _)
  by_cases c : from_ opn p s ≤ p.gone
  · have := h4 c
    unfold ready
    omega
  · unfold ready
    rw [show (p.gone - from_ opn p s).toNat = 0 by omega]
    exact hf
theorem next_hi {S : Int → Int} {rate opn : Int} {p : Pt} {s : Mo} (hr : 1 ≤ rate) (hs : s.Ok rate) (hp : p.V) (ho : opn ≤ 1440) : (next S rate opn p s).min ≤ max s.min 1441 + 20 ∧ s.used ≤ (next S rate opn p s).used ∧ (next S rate opn p s).used ≤ s.used + 20 := by
  have h1 := ready_hi (S := S) (s := s) hp ho
  obtain ⟨n0, n1, _⟩ := now_bd (S := S) (opn := opn) (p := p) hs
  have hz0 := hp.z0
  have hz := hp.z1
  unfold next
  split
  · exact ⟨by dsimp only; omega, by dsimp only; omega, by dsimp only; omega⟩
  · have hd : (now S opn p s + p.size) / rate < 21 := by
      refine Int.ediv_lt_of_lt_mul (by omega) ?_
      have : 20 * 1 ≤ 20 * rate := Int.mul_le_mul_of_nonneg_left hr (by omega)
      rw [show (21 : Int) * rate = rate + 20 * rate by omega]
      omega
    exact ⟨by dsimp only; omega, by dsimp only; omega, by dsimp only; omega⟩
theorem st_bd {S : Int → Int} {rate opn : Int} {l : List Pt} (hr : 1 ≤ rate) (hl : ∀ p ∈ l, p.V) (ho : opn ≤ 1440) : ∀ k : Nat, (st S rate opn l k).Ok rate ∧ (st S rate opn l k).min ≤ 1441 + 20 * k ∧ 0 ≤ (st S rate opn l k).used ∧ (st S rate opn l k).used ≤ 20 * k
  | 0 => ⟨zero_ok hr, by unfold st; dsimp only; omega, by unfold st; dsimp only; omega, by unfold st; dsimp only; omega⟩
  | k + 1 => by
    obtain ⟨h1, h2, h3, h4⟩ := st_bd hr hl ho k
    unfold st
    cases h : l[k]? with
    | none => exact ⟨h1, by dsimp only; omega, h3, by dsimp only; omega⟩
    | some p =>
      have hp := hl p (List.mem_of_getElem? h)
      have g1 := (next_ok (S := S) (opn := opn) hr h1 hp.z0).1
      obtain ⟨g2, g3, g4⟩ := next_hi (S := S) hr h1 hp ho
      exact ⟨g1, by dsimp only; omega, by dsimp only; omega, by dsimp only; omega⟩
end G
structure LineAt (w : World) (q : G.Qu) (A : Option Addr) (n c : Nat) (F : Option Addr) (m d : Nat) (O : Option Addr) (co : Nat) (ord : List Nat) : Prop where
  v : G.Valid q
  gl : q.gs.length = n
  fl : q.fs.length = m
  ol : ord.length = n
  rg : RdG w w.heap.size A q.gs
  rf : RdF w w.heap.size F q.fs
  ro : RdI w w.heap.size O (ord.map (fun k : Nat => (k : Int)))
  fs : G.FSorted q.fs
  os : ord.map (fun j => q.gs[j]?) = (G.srt q.gs).map some
  op : ord.Perm (List.range n)
theorem LineAt.below {w w' : World} {q : G.Qu} {A : Option Addr} {n c : Nat} {F : Option Addr} {m d : Nat} {O : Option Addr} {co : Nat} {ord : List Nat} (h : LineAt w q A n c F m d O co ord) (hb : Below w.heap.size w w') : LineAt w' q A n c F m d O co ord :=
  ⟨h.v, h.gl, h.fl, h.ol, (h.rg.below hb).mono hb.size, (h.rf.below hb).mono hb.size, (h.ro.below hb).mono hb.size, h.fs, h.os, h.op⟩
def RowPost (xs : List Int) (w : World) (e : Ending) (w' : World) : Prop :=
  ∃ (A : Option Addr) (c : Nat), e = .returned (.slice A xs.length c) ∧ w'.ownsRow w.heap.size 3 1 (.slice A xs.length c) xs.length (flatI xs) ∧ Below w.heap.size w w'
set_option maxHeartbeats 6400000 in
set_option maxRecDepth 100000 in
theorem enter_any (q : G.Qu) (A : Option Addr) (n c : Nat) (F : Option Addr) (m d : Nat) (B : Nat) (O : Option Addr) (co : Nat) (ord : List Nat) (rate : Int) (w : World) (hL : LineAt w q A n c F m d O co ord) (hr0 : q.lo ≤ rate) (hr1 : rate ≤ q.hi) :
    Calls Try.prog 39 #[.agg #[.int .i64 q.opn, .int .i64 q.lo, .int .i64 q.hi, .int .i64 q.seats, .slice A n c, .slice F m d, .map (some B), .slice O n co], .int .i64 rate] w (RowPost (G.enter q rate) w) := by
  have HL := hide hL
  have hv := hL.v
  have hn40 : n ≤ 40 := by have h1 := hv.gl; have h2 := hL.gl; omega
  have hm40 : m ≤ 40 := by have h1 := hv.fl; have h2 := hL.fl; omega
  have hr2 : 1 ≤ rate := by have := hv.l0; omega
  have hr3 : rate ≤ 100 := by have := hv.h1; omega
  have HVV := hide (fun p (hp : p ∈ G.srt q.gs) => G.vParty_iff.1 (hv.gv p ((G.srt_perm q.gs).mem_iff.1 hp)))
  have HEL := hide (show (G.enter q rate).length = n by rw [G.enter_len, hL.gl])
  obtain ⟨en, hen⟩ : ∃ z, G.enter q rate = z := ⟨_, rfl⟩
  have HEN := hide hen
  rw [hen] at HEL
  rw [hen]
  clear hL hr0 hr1 hen hv
  have hmk := run_make_ints n (by omega)
  go_enter Try.func39, Try.ntmps39
  go_upto_region 3 with fail
  clear hmk
  refine cap_w (M := Code.wp _ _ _ _) _ (fun w1 hw1 => ?_)
  have HLN := hide (show w1.heap[w.heap.size]? = some (.cells #[.int .i64 q.opn, .int .i64 q.lo, .int .i64 q.hi, .int .i64 q.seats, .slice A n c, .slice F m d, .map (some B), .slice O n co] 67 (0, 0)) by rw [hw1]; exact ((Below.heap_alloc _ _ _ (by first | (simp; done) | (simp; omega) | omega)).trans (Below.heap_alloc _ _ _ (by first | (simp; done) | (simp; omega) | omega))).trans (World.alloc_heap_new _ _))
  have HMO := hide (show MomAt w1 (w.heap.size + 1) q (.slice A n c) (.slice F m d) (.map (some B)) (.slice O n co) rate 0 0 q.seats 0 by rw [hw1]; exact (Below.heap_alloc _ _ _ (by first | (simp; done) | (simp; omega) | omega)).trans (alloc_new_at (by simp)))
  have HOU := hide (show w1.heap[w.heap.size + 1 + 1]? = some (.cells (rowI (List.replicate n 0)) 3 (0, 0)) by rw [hw1]; exact alloc_new_at (by simp))
  have HB := hide (show Below w.heap.size w w1 by rw [hw1]; (repeat' first | exact zbR _ _ | assumption | refine zbD ?_ | refine zbA ?_ ?_ _ | refine zbS ?_ ?_ _ | refine zbT ?_ (by assumption) ?_ | (simp; done) | (simp; omega) | omega))
  clear hw1
  obtain ⟨bl, hbl⟩ : ∃ z, w.heap.size = z := ⟨_, rfl⟩
  have HBL := hide hbl
  rw [hbl] at HLN HMO HOU ⊢
  clear hbl
  have l7 : w1.cell? ⟨bl, 7, none⟩ = some (.slice O n co) := (blk_cell HLN.out 7).trans rfl
  have lz := blk_lt HLN.out
  go_wp2_with fail
  clear l7 lz
  go_loopw [8, 23] (fun _ i wr => ∃ (k : Nat) (ys : List Int) (fd : Nat), k ≤ n ∧ i = .int .i64 k ∧ Hid (ys.length = n) ∧ Hid (∀ (i j : Nat), i < k → ord[i]? = some j → ys[j]? = en[j]?) ∧ Hid (MomAt wr (bl + 1) q (.slice A n c) (.slice F m d) (.map (some B)) (.slice O n co) rate (G.st (Sf q q.fs) rate q.opn (G.srt q.gs) k).min (G.st (Sf q q.fs) rate q.opn (G.srt q.gs) k).passed (q.seats - (G.st (Sf q q.fs) rate q.opn (G.srt q.gs) k).used + G.cnts (q.fs.take fd)) fd) ∧ Hid (fd ≤ m ∧ ∀ f ∈ q.fs.take fd, f.at_ ≤ (G.st (Sf q q.fs) rate q.opn (G.srt q.gs) k).min) ∧ Hid (wr.heap[bl]? = some (.cells #[.int .i64 q.opn, .int .i64 q.lo, .int .i64 q.hi, .int .i64 q.seats, .slice A n c, .slice F m d, .map (some B), .slice O n co] 67 (0, 0))) ∧ Hid (wr.heap[bl + 1 + 1]? = some (.cells (rowI ys) 3 (0, 0))) ∧ Hid (Below w.heap.size w wr)) (fun _ i _ => n - (intOf i).toNat)
  case atStart => exact ⟨0, _, 0, by omega, rfl, hide (by simp), hide (fun i j h => by omega), hide (by show MomAt _ _ _ _ _ _ _ _ 0 0 (q.seats - 0 + 0) 0; rw [Int.sub_zero, Int.add_zero]; exact HMO.out), hide ⟨by omega, fun f hf => by simp at hf⟩, HLN, HOU, HB⟩
  case round =>
    clear HMO HLN HOU HB
    obtain ⟨k, ys, fd, hk, rfl, HYL, HYS, HMO, HFD, HLN, HOU, HB⟩ := hrel
    by_cases hlt : k < n
    · obtain ⟨j, hj⟩ : ∃ j, ord[k]? = some j := ⟨_, List.getElem?_eq_getElem (by have := HL.out.ol; omega)⟩
      have HJ := hide hj
      obtain ⟨bo, oo, hO, hoB, o0⟩ := (HL.out.ro.below HB.out) k (j : Int) (by rw [List.getElem?_map, hj]; rfl)
      subst hO
      obtain ⟨p, x, hp1, hp2, hx, hxi, hxe⟩ := G.enter_ord HL.out.v (rate := rate) HL.out.os hj
      have HPV := hide (HVV.out p (List.mem_of_getElem? hp2))
      have hS : q.S = Sf q q.fs := rfl
      rw [hS, G.run_st hp2] at hx
      rw [HEN.out, ← Option.some.inj hx] at hxe
      have HXE := hide (show en[j]? = some (G.minuteOf (Sf q q.fs) rate q.opn p (G.st (Sf q q.fs) rate q.opn (G.srt q.gs) k)) from hxe)
      have HNX := hide (show G.st (Sf q q.fs) rate q.opn (G.srt q.gs) (k + 1) = G.next (Sf q q.fs) rate q.opn p (G.st (Sf q q.fs) rate q.opn (G.srt q.gs) k) by
        show (match (G.srt q.gs)[k]? with | some p => _ | none => _) = _
        rw [hp2])
      have HSB := hide (G.st_bd (S := Sf q q.fs) (l := G.srt q.gs) (opn := q.opn) hr2 HVV.out HL.out.v.o1 k)
      obtain ⟨s, hs⟩ : ∃ z, G.st (Sf q q.fs) rate q.opn (G.srt q.gs) k = z := ⟨_, rfl⟩
      rw [hs] at HXE HNX HSB HMO HFD
      obtain ⟨b, o, hA, hbB, d0, d1, d2, d3⟩ := (HL.out.rg.below HB.out) j p hp1
      subst hA
      have hjn : j < n := by have h1 := (List.getElem?_eq_some_iff.1 hp1).1; have h2 := HL.out.gl; omega
      clear hj hp1 hp2 hx hxi hxe hS hs
      have hlt' : (k : Int) < (n : Int) := by omega
      have hk0 : (0 : Int) ≤ (k : Int) := by omega
      have hj0 : (0 : Int) ≤ (j : Int) := by omega
      have hj1 : (j : Int) < (n : Int) := by omega
      have hbr : b < wr.heap.size := Nat.lt_of_lt_of_le hbB HB.out.size
      have hor : bo < wr.heap.size := Nat.lt_of_lt_of_le hoB HB.out.size
      have l4 : wr.cell? ⟨bl, 4, none⟩ = some (.slice (some ⟨b, o, none⟩) n c) := (blk_cell HLN.out 4).trans rfl
      have lz := blk_lt HLN.out
      have HAD := hide (admit_any (bl + 1) q (.slice (some ⟨b, o, none⟩) n c) (.map (some B)) (.slice (some ⟨bo, oo, none⟩) n co) F m d q.fs rate s.min s.passed fd p s wr HMO.out HL.out.fl ((HL.out.rf.below HB.out).mono (by have := HBL.out; omega)) (by omega) HFD.out.1 HL.out.fs HL.out.v.fv rfl rfl HFD.out.2 HPV.out hr2 hr3 HSB.out.1.m0 (by have := HSB.out.2.1; omega) HSB.out.1.p0 HSB.out.1.p1 HSB.out.2.2.1 (by have := HSB.out.2.2.2; omega) HL.out.v.s0 HL.out.v.s1 HL.out.v.o0 HL.out.v.o1)
      obtain ⟨old, hold⟩ : ∃ old, ys[j]? = some old := ⟨_, List.getElem?_eq_getElem (by have := HYL.out; omega)⟩
      have HOLD := hide hold
      clear hold
      obtain ⟨mv, hmv⟩ : ∃ z, G.minuteOf (Sf q q.fs) rate q.opn p s = z := ⟨_, rfl⟩
      have HMV := hide hmv
      clear hmv
      go_wp2_with (go_at_call 55; (with_reducible refine HAD.out.mono ?_); rintro e w5 ⟨fd5, rfl, hm5, hf5, ho5, hg5⟩; rw [HMV.out]; have HM5 := hide hm5; have HF5 := hide (And.intro hf5 ho5); have HG5 := hide hg5; clear hm5 hf5 ho5 hg5 l4 lz d0 d1 d2 d3 o0; have HLN5 := bkG HG5.out (by simp) HLN; have HOU5 := bkG HG5.out (by simp) HOU; have HB5 := hide (HB.out.trans (grown_below HG5.out (B := w.heap.size) HB.out.size (fun z hz => by have h1 := Option.some.inj hz; have h2 := HBL.out; omega))); have g0 : w5.cell? ⟨bl + 1 + 1, j, none⟩ = some (.int .i64 old) := (blk_cell HOU5.out j).trans (rowI_get HOLD.out); have g1 := blk_frozen HOU5.out j; have g2 := blk_lt HOU5.out)
      go_roundw
      case rel => exact ⟨k + 1, ys.set j mv, fd5, by omega, by go_num, hide (by rw [List.length_set]; exact HYL.out), hide (fun i i2 h1 h2 => by
        by_cases e : i2 = j
        · subst e
          rw [List.getElem?_set_self (by have := HYL.out; omega), HXE.out, HMV.out]
        · rw [List.getElem?_set_ne (fun h => e h.symm)]
          rcases Nat.lt_or_ge i k with h3 | h3
          · exact HYS.out i i2 h3 h2
          · have h4 : i = k := by omega
            rw [h4, HJ.out] at h2
            exact absurd (Option.some.inj h2).symm e), hide (by
          rw [HNX.out]
          have h := HM5.out
          unfold MomAt at h ⊢
          rw [blk_other h (by omega) j _]), hide ⟨by have h1 := HF5.out.1; have h2 := HL.out.fl; omega, by rw [HNX.out]; exact HF5.out.2⟩, hide (blk_other HLN5.out (by omega) j _), hide (by rw [← rowI_set]; exact blk_set HOU5.out j _), hide (zbS HB5.out (by have h2 := HBL.out; simp; omega) _)⟩
      case measure => simp [intOf]; omega
    · have hkn : k = n := by omega
      have hyse : ys = en := by
        refine List.ext_getElem? fun j => ?_
        rcases Nat.lt_or_ge j n with h | h
        · obtain ⟨i, hi⟩ := List.mem_iff_getElem?.1 ((HL.out.op.mem_iff).2 (List.mem_range.2 h))
          exact HYS.out i j (by have h1 := (List.getElem?_eq_some_iff.1 hi).1; have h2 := HL.out.ol; omega) hi
        · rw [List.getElem?_eq_none (by have := HYL.out; omega), List.getElem?_eq_none (by have := HEL.out; omega)]
      have HOE := hide (show wr.heap[bl + 1 + 1]? = some (.cells (rowI en) 3 (0, 0)) by rw [← hyse]; exact HOU.out)
      clear hyse HOU HYS
      subst hkn
      go_wp2_with fail
      go_ret
      unfold RowPost
      rw [HEL.out]
      exact ⟨some ⟨bl + 1 + 1, 0, none⟩, k, rfl, own_rowI HEL.out (by omega) (by have := HBL.out; omega) HOE.out, HB.out⟩
end Go.Proofs.Ytlpjkolocgkcpaa

namespace Go.Proofs.Ytlpjkolocgkcpaa
open Go.RowKit Go.Shelf
attribute [local go_sem ↓] Go.wp_at_zero Go.wp_at_succ

namespace G
theorem rates_get {q : Qu} {k : Nat} (h : (k : Int) ≤ q.hi - q.lo) : (rates q)[k]? = some (q.lo + (k : Int)) := by
  unfold rates
  rw [List.getElem?_map, List.getElem?_range (by omega)]
  rfl
theorem rates_len {q : Qu} (h : q.lo ≤ q.hi) : ((rates q).length : Int) = q.hi - q.lo + 1 := by
  unfold rates
  rw [List.length_map, List.length_range]
  omega
theorem take_pre {α : Type} {l : List α} {k : Nat} {x : α} (h : l[k]? = some x) : l.take k ++ [x] <+: l := by
  obtain ⟨hl, rfl⟩ := List.getElem?_eq_some_iff.1 h
  rw [List.take_append_getElem]
  exact List.take_prefix _ _
theorem take_snoc {α : Type} {l : List α} {k : Nat} {x : α} (h : l[k]? = some x) : l.take (k + 1) = l.take k ++ [x] := by
  rw [List.take_add_one, h]
  rfl
end G
def EnI (q : G.Qu) (x : Int) (y : Option Addr × Nat) (B : Nat) (W : World) : Prop := RdI W W.heap.size y.1 (G.enter q x) ∧ ∀ b o, y.1 = some ⟨b, o, none⟩ → B ≤ b
theorem enI_own (q : G.Qu) (B : Nat) (y : Option Addr × Nat) (B' : Nat) : OwnFrom B (fun x W => EnI q x y B' W) := fun x X Y row h hg hr => ⟨fun k v hk => by
  obtain ⟨b, o, e, hb, hc⟩ := h.1 k v hk
  refine ⟨b, o, e, Nat.lt_of_lt_of_le hb hg.size, ?_⟩
  rw [← hc]
  refine World.cell?_of_block (hg.block b hb (fun e => ?_))
  obtain ⟨_, ob, h1, h2⟩ := hr b e.symm
  unfold World.cell? at hc
  rw [h1] at hc
  cases ob <;> simp [Obj.isCells] at h2 <;> simp at hc, h.2⟩
theorem own_base {w : World} {base : Nat} {e : TypeId} {size : Nat} {A : Option Addr} {n m c : Nat} {xs : List Value} (h : w.ownsRow base e size (.slice A n c) m xs) : ∀ b o, A = some ⟨b, o, none⟩ → base ≤ b := by
  intro b o e
  rcases h.2 with ⟨h1, _⟩ | ⟨g, cap, cur, h1, h2, _⟩
  · rw [e] at h1; simp at h1
  · rw [e] at h1
    simp only [Value.slice.injEq, Option.some.injEq, Addr.mk.injEq] at h1
    omega
set_option maxHeartbeats 6400000 in
set_option maxRecDepth 100000 in
theorem atRates_seq (q : G.Qu) (A : Option Addr) (n c : Nat) (F : Option Addr) (m d : Nat) (B : Nat) (O : Option Addr) (co : Nat) (ord : List Nat) (S : Nat → Prop) (w0 w : World) (hL : LineAt w0 q A n c F m d O co ord) (hw : Below w0.heap.size w0 w) (hS : ∀ k, k < w0.heap.size → S k) :
    SeqU Try.prog 59 #[.agg #[.int .i64 q.opn, .int .i64 q.lo, .int .i64 q.hi, .int .i64 q.seats, .slice A n c, .slice F m d, .map (some B), .slice O n co]] #[] (fun y : Option Addr × Nat => #[.slice y.1 n y.2]) (EnI q) (G.rates q) S w := by
  intro l J Jx W hW hJ hJx hY h00
  have HL0 := hide hL
  have hv := hL.v
  have hlh := hv.lh
  have hl0 := hv.l0
  have hh1 := hv.h1
  obtain ⟨N, hN⟩ : ∃ N : Nat, (G.rates q).length = N := ⟨_, rfl⟩
  have hNI : (N : Int) = q.hi - q.lo + 1 := by rw [← hN]; exact G.rates_len hlh
  have HN := hide hN
  have HGN := hide hL.gl
  have HBW := hide (show Below w0.heap.size w0 W from hw.trans (hW.mono hw.size))
  have HS := hide hS
  have HY := hide hY
  have HJ := hide hJ
  clear hL hv hW hw hS hN hY hJ hJx
  have hn0 : N ≤ 100 := by omega
  refine (callsIn_wide (n := 3)).1 ?_
  refine callsIn_of_wp Try.func59 rfl trivial ?_ rfl
  simp only [Try.ntmps59, List.size_toArray, List.length_cons, List.length_nil, Nat.reduceAdd, Nat.reduceSub, Array.replicate_succ, Array.replicate_zero, List.push_toArray, List.append_toArray, List.nil_append, List.cons_append, Array.append_assoc, Array.append_empty]
  obtain ⟨W1, hW1⟩ : ∃ W1, W.alloc (.cells #[.int .i64 q.opn, .int .i64 q.lo, .int .i64 q.hi, .int .i64 q.seats, .slice A n c, .slice F m d, .map (some B), .slice O n co] 67) = W1 := ⟨_, rfl⟩
  have HLB := hide (show W1.heap[W.heap.size]? = some (.cells #[.int .i64 q.opn, .int .i64 q.lo, .int .i64 q.hi, .int .i64 q.seats, .slice A n c, .slice F m d, .map (some B), .slice O n co] 67 (0, 0)) by rw [← hW1]; exact World.alloc_heap_new _ _)
  have HB1 := hide (show Below W.heap.size W W1 by rw [← hW1]; (repeat' first | exact zbR _ _ | assumption | refine zbD ?_ | refine zbA ?_ ?_ _ | refine zbS ?_ ?_ _ | refine zbT ?_ (by assumption) ?_ | (simp; done) | (simp; omega) | omega))
  have HJ1 := hide (show J [] W1 by rw [← hW1]; exact HJ.out.alloc _ h00)
  have y1 : W1.cell? ⟨W.heap.size, 1, none⟩ = some (.int .i64 q.lo) := (blk_cell HLB.out 1).trans rfl
  have y2 := blk_lt HLB.out
  clear h00
  gi_wp2
  (try rw [hW1])
  clear hW1
  gi_loopw [4] (fun t wr => ∃ k : Nat, k ≤ N ∧ t = .int .i64 (q.lo + (k : Int)) ∧ Hid (J ((G.rates q).take k) wr) ∧ Hid (wr.heap[W.heap.size]? = some (.cells #[.int .i64 q.opn, .int .i64 q.lo, .int .i64 q.hi, .int .i64 q.seats, .slice A n c, .slice F m d, .map (some B), .slice O n co] 67 (0, 0))) ∧ Hid (Below w0.heap.size w0 wr) ∧ Hid (W.heap.size < wr.heap.size)) (fun t _ => (q.hi + 1 - intOf t).toNat)
  case atStart => exact ⟨0, by omega, by rw [show q.lo + ((0 : Nat) : Int) = q.lo by omega], HJ1, HLB, hide (HBW.out.trans (HB1.out.mono HBW.out.size)), hide y2⟩
  case round =>
    clear y1 y2 HJ1 HLB HB1
    obtain ⟨k, hk, rfl, HJk, HLB, HBk, HZk⟩ := hrel
    have y2 : wr.cell? ⟨W.heap.size, 2, none⟩ = some (.int .i64 q.hi) := (blk_cell HLB.out 2).trans rfl
    have yz := HZk.out
    by_cases hlt : k < N
    · have hle : q.lo + (k : Int) ≤ q.hi := by omega
      obtain ⟨r, hr⟩ : ∃ r, q.lo + (k : Int) = r := ⟨_, rfl⟩
      have HR := hide hr
      have hx : (G.rates q)[k]? = some r := by rw [← hr]; exact G.rates_get (by omega)
      have HX := hide hx
      have hr0 : q.lo ≤ r := by omega
      have hwr1 : IntKind.i64.wrap (r + 1) = r + 1 := IntWalk.i64_in _ (by omega)
      rw [hr] at hle ⊢
      clear hr hx
      have y0 : wr.cell? ⟨W.heap.size, 0, none⟩ = some (.int .i64 q.opn) := (blk_cell HLB.out 0).trans rfl
      have y1 : wr.cell? ⟨W.heap.size, 1, none⟩ = some (.int .i64 q.lo) := (blk_cell HLB.out 1).trans rfl
      have y3 : wr.cell? ⟨W.heap.size, 3, none⟩ = some (.int .i64 q.seats) := (blk_cell HLB.out 3).trans rfl
      have y4 : wr.cell? ⟨W.heap.size, 4, none⟩ = some (.slice A n c) := (blk_cell HLB.out 4).trans rfl
      have y5 : wr.cell? ⟨W.heap.size, 5, none⟩ = some (.slice F m d) := (blk_cell HLB.out 5).trans rfl
      have y6 : wr.cell? ⟨W.heap.size, 6, none⟩ = some (.map (some B)) := (blk_cell HLB.out 6).trans rfl
      have y7 : wr.cell? ⟨W.heap.size, 7, none⟩ = some (.slice O n co) := (blk_cell HLB.out 7).trans rfl
      have hlen : (G.enter q r).length = n := by rw [G.enter_len]; exact HGN.out
      have HEN := hide (show Calls Try.prog 39 #[.agg #[.int .i64 q.opn, .int .i64 q.lo, .int .i64 q.hi, .int .i64 q.seats, .slice A n c, .slice F m d, .map (some B), .slice O n co], .int .i64 r] wr (fun e w' => ∃ (A' : Option Addr) (c' : Nat), e = .returned (.slice A' n c') ∧ w'.ownsRow wr.heap.size 3 1 (.slice A' n c') n (flatI (G.enter q r)) ∧ Below wr.heap.size wr w') from by
        have h := enter_any q A n c F m d B O co ord r wr (HL0.out.below HBk.out) hr0 hle
        unfold RowPost at h
        rw [hlen] at h
        exact h)
      have HLEN := hide hlen
      clear hlen
      gi_wp2_with (refine ⟨trivial, ?_⟩; gi_at_call 39; (refine (callsIn_wide.2 HEN.out).mono ?_); rintro e w2 ⟨A2, c2, rfl, ho2, hb2⟩; have HO2 := hide ho2; have HB2 := hide hb2; clear ho2 hb2; have HE2 := hide (show EnI q r (A2, c2) wr.heap.size w2 from ⟨owns_RdI HO2.out HLEN.out, own_base HO2.out⟩); have HLB2 := bkT HB2.out HLB; obtain ⟨fn, tmps, assign, body, hy, hR⟩ := HY.out ((G.rates q).take k) r (A2, c2) wr w2 HJk.out HB2.out HE2.out (blk_lt HLB2.out) (G.take_pre HX.out) (3 - 1); dsimp only at hy)
      clear y0 y1 y2 y3 y4 y5 y6 y7 HEN
      refine hR.mono ?_
      rintro e W3 ⟨hk3, (⟨rfl, hJ3⟩ | ⟨rfl, hJx3⟩)⟩
      · have HK3 := hide hk3
        have HJ3 := hide hJ3
        clear hk3 hJ3 hy hR
        gi_wp2
        go_roundw
        case rel => exact ⟨k + 1, by omega, by rw [show q.lo + ((k + 1 : Nat) : Int) = r + 1 by have := HR.out; omega], hide (by rw [G.take_snoc HX.out]; exact HJ3.out), hide ((HK3.out.same _ (.inr ⟨Nat.le_refl _, by omega⟩) (blk_lt HLB2.out)).trans HLB2.out), hide ((HBk.out.trans (HB2.out.mono HBk.out.size)).trans (HK3.out.below (fun z hz => .inl (HS.out z hz)) (Nat.le_trans HBk.out.size HB2.out.size))), hide (Nat.lt_of_lt_of_le (blk_lt HLB2.out) HK3.out.rest.size)⟩
        case measure => simp [intOf]; omega
      · clear hy hR
        gi_wp2
        refine bodyPost_ret (results_none rfl _ _ _) rfl ?_
        exact ⟨⟨_, rfl⟩, .inr ⟨_, G.take_pre HX.out, hJx3⟩⟩
    · have hkN : k = N := by omega
      have hgt : q.hi < q.lo + (k : Int) := by omega
      have HJN := hide (show J (G.rates q) wr by
        have h := HJk.out
        rw [List.take_of_length_le (by have := HN.out; omega)] at h
        exact h)
      clear HJk
      gi_wp2
      go_end0
      exact ⟨⟨_, rfl⟩, .inl HJN.out⟩
end Go.Proofs.Ytlpjkolocgkcpaa

namespace Go.Proofs.Ytlpjkolocgkcpaa
open Go Go.RowKit

def noDefer (ops : Array Oper) : Bool := ops.all fun o => match o.op with | .defer _ => false | _ => true
theorem noDefer_get {ops : Array Oper} (h : noDefer ops = true) {i : Nat} {o : Oper} (hi : ops[i]? = some o) : ∀ c, o.op ≠ .defer c := by
  intro c hc
  unfold noDefer at h
  rw [Array.all_eq_true] at h
  obtain ⟨hl, he⟩ := Array.getElem?_eq_some_iff.1 hi
  have := h i hl
  rw [he, hc] at this
  cases this
theorem rowsIn_round {n l : Nat} {P : Program} {row : String} {args : Array Value} {w : World} {R : Value → World → Prop} (h : Rows P row args w R) : RowsIn (Fence.wide.inRound l) n P row args w R :=
  fun c cs _ => let ⟨v, w', r, s⟩ := h c cs; ⟨v, w', r, stepsIn_wide.2 s⟩
theorem wpIn_round {n l : Nat} {P : Program} {o : Oper} {a : Act} {w : World} {K K' : Act → World → Prop} {Q : Exit → Act → World → Prop} (hd : ∀ c, o.op ≠ .defer c) (hk : ∀ a w, K a w → K' a w) (h : o.wp P a w K Q) : o.wpIn (Fence.wide.inRound l) n P a w K' Q := by
  refine ⟨fun _ _ => trivial, ?_⟩
  rw [Oper.semAt_plain _ _ _ hd]
  unfold Oper.wp at h
  generalize (execOp a.eval o).run P w = r at h ⊢
  unfold Oper.upon at h
  unfold Oper.uponIn
  split at h
  · exact hk _ _ h
  · exact hk _ _ h
  · exact hk _ _ h
  · refine ⟨fun hh => by simp [Fence.wide] at hh, CallsIn.inRound l (callsIn_wide.2 (h.mono ?_))⟩
    rintro e w2 he
    cases e with
    | returned v => exact hk _ _ he
    | panicked ch => exact he
    | outgrown => exact he
  · refine ⟨fun hh => by simp [Fence.wide] at hh, rowsIn_round (h.mono fun v w2 he => hk _ _ he)⟩
  · exact h
  · exact h.elim
theorem wpAnyIn_round {n l : Nat} {P : Program} {md : Region.Mode} {ops : Array Oper} {Q : Exit → Act → World → Prop} (hd : noDefer ops = true) (hL : ¬ LetsOut Q) : ∀ (fuel : Nat) (listed : Array Bool) (a : Act) (w : World), wpAny P md ops Q fuel listed a w → wpAnyIn (Fence.wide.inRound l) n P md ops Q fuel listed a w
  | 0, _, _, _, h => h
  | fuel + 1, listed, a, w, h => ⟨h.1, fun i hi => by
    have h2 := h.2 i hi
    unfold wpOp at h2
    unfold wpOpIn
    cases ho : ops[i]? with
    | none => rw [ho] at h2; exact wpAnyIn_round hd hL fuel _ _ _ h2
    | some o =>
      rw [ho] at h2
      dsimp only at h2 ⊢
      split at h2
      · rename_i hw
        rw [if_pos hw]
        exact wpIn_round (noDefer_get hd ho) (fun a w hk => wpAnyIn_round hd hL fuel _ _ _ hk) (h2.resolve_right fun h => hL h.2)
      · rename_i hw
        rw [if_neg hw]
        exact ⟨fun _ _ => trivial, wpAnyIn_round hd hL fuel _ _ _ h2⟩⟩
theorem wpIn_region_T_drew {n l : Nat} {P : Program} {ops : Array Oper} {Q : Exit → Act → World → Prop} {S : World → Prop} {id : Nat} {a : Act} {w : World} (T : Nat) (hd : noDefer ops = true) (hL : ¬ LetsOut Q) (hm : P.follows .mixedOrders = true) (hS : S w.drew)
    (h : S w.drew → wpAnyT P .any ops Q S T ops.size (Array.replicate ops.size false) a w.drew) : (Code.region id ops true).wpIn (Fence.wide.inRound l) n P Q a w :=
  wpIn_region_any hm (wpAnyIn_round hd hL _ _ _ _ (wpAny_of_T _ _ _ _ (h hS)))
end Go.Proofs.Ytlpjkolocgkcpaa

namespace Go.Proofs.Ytlpjkolocgkcpaa
open Go.RowKit Go.Shelf
attribute [local go_sem ↓] Go.wp_at_zero Go.wp_at_succ
attribute [local go_sem] Oper.semAt_some

theorem own_block {β : Type} {B b : Nat} (hb : b < B) (o : β → Obj) : OwnFrom B (fun s W => W.heap[b]? = some (o s)) := fun _ _ _ _ h hg hr =>
  (hg.block b (Array.getElem?_eq_some_iff.1 h).1 (fun e => by have := (hr b e.symm).1; omega)).trans h
theorem own_pure {β : Type} (B : Nat) (p : β → Prop) : OwnFrom B (fun s (_ : World) => p s) := fun _ _ _ _ h _ _ => h
theorem alw_results {Y : World} {D g : Nat} {o : Obj} {fl : Bool} {cs : Array Value} {tmps : Array Value} (h1 : g ≠ D) (h3 : Y.heap[g]? = some (.cells cs 4 (0, 0)))
    (e3 : cs = #[.bool fl]) (t8 : tmps[4]? = some (.pointer (some ⟨g, 0, none⟩))) :
    (results Try.f61 tmps).run Try.prog (Y.putObj D o) = .ok (.bool fl) (Y.putObj D o) := by
  subst e3
  have z3 : (Y.putObj D o).heap[g]? = some (.cells #[.bool fl] 4 (0, 0)) := (World.putObj_heap_other h1).trans h3
  have k0 : (Y.putObj D o).cell? ⟨g, 0, none⟩ = some (.bool fl) := blk_cell z3 0
  simp [results, Try.results61, go_sem, t8, k0]
namespace G
theorem always_eq (q : Qu) (g : Nat) : always q g = (rates q).all (fun r => (enter q r).getD g 0 != -1) := by
  unfold always minutesOf
  rw [List.all_map]
  rfl
end G
theorem EnI.get {q : G.Qu} {x : Int} {y : Option Addr × Nat} {B : Nat} {W : World} (h : EnI q x y B W) {g : Nat} (hg : g < q.gs.length) : ∃ b o, y.1 = some ⟨b, o, none⟩ ∧ B ≤ b ∧ b < W.heap.size ∧ W.cell? ⟨b, o + g, none⟩ = some (.int .i64 ((G.enter q x).getD g 0)) := by
  have hl : g < (G.enter q x).length := by rw [G.enter_len]; exact hg
  obtain ⟨b, o, e, hb, hc⟩ := h.1 g _ (List.getElem?_eq_getElem hl)
  refine ⟨b, o, e, h.2 b o e, hb, hc.trans ?_⟩
  rw [List.getD_eq_getElem?_getD, List.getElem?_eq_getElem hl]
  rfl

set_option maxHeartbeats 6400000 in
set_option maxRecDepth 100000 in
theorem always_any (q : G.Qu) (A : Option Addr) (n c : Nat) (F : Option Addr) (m d : Nat) (B : Nat) (O : Option Addr) (co : Nat) (ord : List Nat) (g : Nat) (w : World) (hL : LineAt w q A n c F m d O co ord) (hg : g < n) :
    Calls Try.prog 61 #[.agg #[.int .i64 q.opn, .int .i64 q.lo, .int .i64 q.hi, .int .i64 q.seats, .slice A n c, .slice F m d, .map (some B), .slice O n co], .int .i64 (g : Int)] w fun e w' => e = .returned (.bool (G.always q g)) ∧ Below w.heap.size w w' := by
  have HL := hide hL
  have HGN := hide hL.gl
  have hn100 : n ≤ 40 := by have := hL.v.gl; have := hL.gl; omega
  clear hL
  refine calls_marks Try.func61 rfl ?_
  simp only [Try.ntmps61, List.size_toArray, List.length_cons, List.length_nil, Nat.reduceAdd, Nat.reduceSub, Array.replicate_succ, Array.replicate_zero, List.push_toArray, List.append_toArray, List.nil_append, List.cons_append]
  obtain ⟨p, hp⟩ : ∃ p, w.heap.size = p := ⟨_, rfl⟩
  obtain ⟨V, hV⟩ : ∃ V, ((w.alloc (.cells #[.int .i64 q.opn, .int .i64 q.lo, .int .i64 q.hi, .int .i64 q.seats, .slice A n c, .slice F m d, .map (some B), .slice O n co] 67)).alloc (.cells #[.int .i64 (g : Int)] 3)).alloc (.cells #[.bool false] 4) = V := ⟨_, rfl⟩
  have vs : V.heap.size = p + 1 + 1 + 1 := by rw [← hV, ← hp]; simp
  have vB : Below p w V := by rw [← hV, ← hp]; (repeat' first | exact zbR _ _ | assumption | refine zbD ?_ | refine zbA ?_ ?_ _ | refine zbS ?_ ?_ _ | refine zbT ?_ (by assumption) ?_ | (simp; done) | (simp; omega) | omega)
  have v0 : V.heap[p]? = some (.cells #[.int .i64 q.opn, .int .i64 q.lo, .int .i64 q.hi, .int .i64 q.seats, .slice A n c, .slice F m d, .map (some B), .slice O n co] 67 (0, 0)) := by
    rw [← hV, ← hp]; exact (Below.heap_alloc _ _ _ (by simp; omega)).trans ((Below.heap_alloc _ _ _ (by simp)).trans (World.alloc_heap_new _ _))
  have v1 : V.heap[p + 1]? = some (.cells #[.int .i64 (g : Int)] 3 (0, 0)) := by
    rw [← hV, ← hp]; exact (Below.heap_alloc _ _ _ (by simp)).trans ((congrArg (fun z => (World.alloc (w.alloc (.cells #[.int .i64 q.opn, .int .i64 q.lo, .int .i64 q.hi, .int .i64 q.seats, .slice A n c, .slice F m d, .map (some B), .slice O n co] 67)) (.cells #[.int .i64 (g : Int)] 3)).heap[z]?) (World.size_alloc _ _).symm).trans (World.alloc_heap_new _ _))
  have v2 : V.heap[p + 1 + 1]? = some (.cells #[.bool false] 4 (0, 0)) := by
    rw [← hV, ← hp]; exact (congrArg (fun z => (World.alloc ((w.alloc (.cells #[.int .i64 q.opn, .int .i64 q.lo, .int .i64 q.hi, .int .i64 q.seats, .slice A n c, .slice F m d, .map (some B), .slice O n co] 67)).alloc (.cells #[.int .i64 (g : Int)] 3)) (.cells #[.bool false] 4)).heap[z]?) (by simp)).trans (World.alloc_heap_new _ _)
  have VB := hide vB
  have V0 := hide v0
  have V1 := hide v1
  have V2 := hide v2
  have VL := hide (HL.out.below (by rw [hp]; exact vB))
  go_upto_region 1 with fail
  (try rw [hV])
  clear hV vB v1 v2
  have cp0 := (blk_cell v0 0).trans rfl; have cp1 := (blk_cell v0 1).trans rfl; have cp2 := (blk_cell v0 2).trans rfl; have cp3 := (blk_cell v0 3).trans rfl; have cp4 := (blk_cell v0 4).trans rfl; have cp5 := (blk_cell v0 5).trans rfl; have cp6 := (blk_cell v0 6).trans rfl; have cp7 := (blk_cell v0 7).trans rfl
  go_wp2_with fail
  clear cp0 cp1 cp2 cp3 cp4 cp5 cp6 cp7 v0
  refine wp_rangeQ (gf := 59) (lb := #[]) rfl (enters_of Try.func59 (by kernel_rfl) rfl)
    (atRates_seq q A n c F m d B O co ord (fun x => x < V.heap.size ∧ x ≠ p + 1 + 1) w V HL.out (by rw [hp]; exact VB.out) (fun k hk => ⟨by omega, by omega⟩)) (Below.refl _ _) (fun x hx => hx.1) (fun _ => rfl) (fun y B => enI_own q _ y B)
    (fun pre X => (∀ r ∈ pre, (G.enter q r).getD g 0 ≠ -1) ∧ Keeps (fun _ => True) V X)
    (fun cd pre X => cd = .ret ∧ (∃ r ∈ pre, (G.enter q r).getD g 0 = -1) ∧ Keeps (fun x => x ≠ p + 1 + 1) V X ∧ X.heap[p + 1 + 1]? = some (.cells #[.bool false] 4 (0, 0)))
    (OwnFrom.and (own_pure _ _) (keeps_own (Nat.le_refl _)))
    (fun cd s X Y row ⟨h1, h2, h3, h4⟩ hg hr => ⟨h1, h2, keeps_own (β := Unit) (Nat.le_refl _) () X Y row h3 hg hr, own_block (β := Unit) (show p + 1 + 1 < V.heap.size by omega) (fun _ => _) () X Y row h4 hg hr⟩)
    ⟨fun _ h => (by cases h), Keeps.refl _ _⟩ ?a1 ?assign ?body ?done ?stop
  case assign =>
    intro l2 x X K hK
    gi_wp2
    exact hK
  case body =>
    rintro l2 pre x y X0 X _ ⟨hno, hK⟩ _ he _ hpre
    obtain ⟨A2, c2⟩ := y
    obtain ⟨b, o, rfl, _, hb, hc⟩ := he.get (show g < q.gs.length by rw [HGN.out]; exact hg)
    obtain ⟨mm, hmm⟩ : ∃ mm, (G.enter q x).getD g 0 = mm := ⟨_, rfl⟩
    rw [hmm] at hc
    have z2 := hK.rest.size
    have x2 := (hK.same (p + 1 + 1) trivial (by omega)).trans V2.out
    have cg : X.cell? ⟨p + 1, 0, none⟩ = some (.int .i64 (g : Int)) := (hK.cell trivial (by omega)).trans ((blk_cell V1.out 0).trans rfl)
    have x4 := (blk_cell x2 0).trans rfl
    have y4 := blk_frozen x2 0
    have X2 := hide x2
    have HNO := hide hno
    have HK := hide hK
    have HMM := hide hmm
    clear hno hK hpre hmm he x2
    by_cases hm : mm = -1
    · subst hm
      gi_wp2
      have k2 := blk_set X2.out 0 (.bool false)
      exact ⟨Keeps.setAt _ _ _ (fun h => h.elim (fun h => h.2 rfl) (fun h => by have : V.heap.size ≤ p + 1 + 1 := h.1; omega)), rfl, ⟨x, by simp, HMM.out⟩, (HK.out.less (fun _ _ => trivial)).trans (Keeps.setAt _ _ _ (fun h => h rfl)), k2⟩
    · gi_wp2
      exact ⟨Keeps.refl _ _, fun r hr => (by
        rcases List.mem_append.1 hr with h | h
        · exact HNO.out r h
        · obtain rfl : r = x := by simpa using h
          rw [HMM.out]; exact hm), HK.out⟩
  case done =>
    rintro D X hD ⟨hno, hK⟩ hdef
    have z2 := hK.rest.size
    have x2 := (hK.same (p + 1 + 1) trivial (by omega)).trans V2.out
    have x4 := (blk_cell x2 0).trans rfl
    have y4 := blk_frozen x2 0
    have X2 := hide x2
    clear x2
    go_wp2
    have k2 := blk_set X2.out 0 (.bool true)
    have nd : D ≠ p + 1 + 1 := by omega
    have qd := blk_other hdef nd 0 (.bool true)
    have hB5 : Below p w ((X.setCell ⟨p + 1 + 1, 0, none⟩ (.bool true)).putObj D (Obj.deferred none)) :=
      (((VB.out.trans (hK.below (n := p) (fun _ _ => trivial) (by omega))).setCell (p := ⟨p + 1 + 1, 0, none⟩) (show p ≤ p + 1 + 1 by omega) _).grown (grownBy_putObj' _ D _) (by simp; omega) (fun k e => by cases e; omega))
    have hall : G.always q g = true := by
      rw [G.always_eq, List.all_eq_true]
      intro r hr
      simpa using hno r hr
    refine ⟨by simp, .inl ⟨_, _, rfl, run_takeDeferred qd, ?_⟩⟩
    rw [hall]
    exact ⟨_, alw_results nd.symm k2 rfl rfl, rfl, hp ▸ hB5⟩
  case stop =>
    rintro D cd pre X hD hpre ⟨rfl, ⟨r, h1, h2⟩, h3, h4⟩ hdef
    have z2 := h3.rest.size
    have hall : G.always q g = false := by
      rw [G.always_eq, List.all_eq_false]
      exact ⟨r, hpre.subset h1, by rw [h2]; decide⟩
    have hB5 : Below p w (X.putObj D (Obj.deferred none)) :=
      (VB.out.trans (h3.below (n := p) (fun y hy => by show y ≠ p + 1 + 1; omega) (by omega))).grown (grownBy_putObj' _ D _) (by omega) (fun k e => by cases e; omega)
    go_wp2
    refine ⟨by simp, .inl ⟨_, _, rfl, run_takeDeferred hdef, ?_⟩⟩
    rw [hall]
    exact ⟨_, alw_results (show p + 1 + 1 ≠ D by omega) h4 rfl rfl, rfl, hp ▸ hB5⟩
end Go.Proofs.Ytlpjkolocgkcpaa

namespace Go.Proofs.Ytlpjkolocgkcpaa
open Go.RowKit Go.Shelf
attribute [local go_sem ↓] Go.wp_at_zero Go.wp_at_succ
attribute [local go_sem] Oper.semAt_some

theorem gr_drewM (w : World) (r : Option Nat) : w.grownBy w.drew r := ⟨(World.grownBy.refl w r).os, (World.grownBy.refl w r).tape, (World.grownBy.refl w r).output, (World.grownBy.refl w r).size, (World.grownBy.refl w r).block⟩
theorem run_app_loc {w : World} (ty : TypeId) (base : Nat) (v : Value) (ps : List Int) (m0 : Nat) (hown : w.ownsRow base 3 1 v m0 (flatI ps))
    (q : Nat) (x : Int) (hq : w.heap[q]? = some (.cells #[.int .i64 x] 3 (0, 0))) (h0 : m0 ≤ 1000) (hbase : base ≤ w.heap.size) :
    ∃ A' c' w', (Builtin.append_ #[35, 35] ty #[v, .slice (some ⟨q, 0, none⟩) 1 1]).run Try.prog w = .ok (.slice A' (m0 + 1) c') w' ∧ w'.ownsRow base 3 1 (.slice A' (m0 + 1) c') (m0 + 1) (flatI (ps ++ [x])) ∧ w.grownBy w' v.ownBlock ∧ (∀ g, (Value.slice A' (m0 + 1) c').ownBlock = some g → v.ownBlock = some g ∨ w.heap.size ≤ g) := by
  obtain ⟨i, hi, hz0, hz1, hz2⟩ := info_parts int_info
  obtain ⟨v', w', hrun, h2, h3, _, h5⟩ := run_append_own_at (P := Try.prog) w base 35 ty 3 i _ 1 8 Try.underlying35 hi hz0 hz1 hz2 (by rfl) (by decide) v m0 (flatI ps) hown ⟨q, 0, none⟩ 1 1 (flatI [x]) rfl (by
    intro j u hj
    match j, hj with
    | 0, hj =>
      have e : Value.int .i64 x = u := Option.some.inj hj
      rw [add_plain, ← e]
      exact (blk_cell hq 0).trans rfl
    | j + 1, hj => cases hj) (flatI_one [x]) (by unfold maxLen; omega) (by omega) hbase
  obtain ⟨A', c', rfl⟩ := own_form h2
  refine ⟨A', c', w', hrun, by rw [flatI_app]; exact h2, h3, fun g hg => ?_⟩
  rcases h5 with e | e
  · exact .inl (e ▸ hg)
  · rw [hg] at e
    exact .inr (by have := Option.some.inj e; omega)
theorem step_app_loc {w : World} {ops : Array Oper} {o : Oper} {a : Act} {K : Act → World → Prop} {Q : Exit → Act → World → Prop} {E : Prop} (hgd : o.guard = none) (s x : Operand)
    (ho : o.op = .call { callee := .builtin .append, args := #[s, x], argTypes := #[35, 35] }) (base : Nat) (v : Value) (ps : List Int) (m0 : Nat) (hs : a.eval s = v) (hown : w.ownsRow base 3 1 v m0 (flatI ps))
    (q : Nat) (y : Int) (hx : a.eval x = .slice (some ⟨q, 0, none⟩) 1 1) (hq : w.heap[q]? = some (.cells #[.int .i64 y] 3 (0, 0))) (h0 : m0 ≤ 1000) (hbase : base ≤ w.heap.size) (N : Nat) (hN : m0 + 1 = N)
    (h : ∀ A' c' w', w'.ownsRow base 3 1 (.slice A' N c') N (flatI (ps ++ [y])) → w.grownBy w' v.ownBlock → (∀ g, (Value.slice A' N c').ownBlock = some g → v.ownBlock = some g ∨ w.heap.size ≤ g) → K (a.put o.dst (.slice A' N c')) w') :
    if Region.wanted o (yielded ops a.tmps) = true then Oper.wp Try.prog o a w K Q else E := by
  subst hN
  have hw : Region.wanted o (yielded ops a.tmps) = true := by simp [Region.wanted, hgd]
  rw [if_pos hw]
  obtain ⟨A', c', w', hr', h2, h3, h4⟩ := run_app_loc o.type base v ps m0 hown q y hq h0 hbase
  unfold Oper.wp execOp
  simp only [ho, resolve, invoke, builtin, Sem.run_bind, Sem.run_pure, Result.andThen_ok, List.map_toArray, List.map_cons, List.map_nil, hs, hx, hr']
  exact h A' c' w' h2 h3 h4
theorem own_cell {w : World} {base : Nat} {e : TypeId} {A : Option Addr} {n m c : Nat} {xs : List Value} {g : Nat} (h : w.ownsRow base e 1 (.slice A n c) m xs) (hg : (Value.slice A n c).ownBlock = some g) : base ≤ g ∧ g < w.heap.size := h.lt g hg
theorem Keeps.of_grown {S : Nat → Prop} {X Y : World} {row : Option Nat} (h : X.grownBy Y row) (hn : ∀ r, row = some r → ¬ S r) : Keeps S X Y :=
  ⟨(Below.refl 0 X).grown h (Nat.zero_le _) (fun _ _ => Nat.zero_le _), fun k hS hk => h.block k hk (fun e => hn k e.symm hS)⟩
theorem gr_cell {w w' : World} {row : Option Nat} (h : w.grownBy w' row) {b : Nat} (hb : b < w.heap.size) (hne : some b ≠ row) (i : Nat) : w'.cell? ⟨b, i, none⟩ = w.cell? ⟨b, i, none⟩ := by
  unfold World.cell?
  rw [h.block b hb hne]
theorem own_rowK {base B : Nat} (hB : B ≤ base) {β : Type} (f : β → Nat) (xs : β → List Int) (b : Nat) : OwnFrom B (fun s W => ∃ A1 c1, W.heap[b]? = some (.cells #[.slice A1 (f s) c1] 35 (0, 0)) ∧ W.ownsRow base 3 1 (.slice A1 (f s) c1) (f s) (flatI (xs s)) ∧ b < B) := fun s X Y row h hg hr => by
  obtain ⟨A1, c1, h1, h2, h3⟩ := h
  refine ⟨A1, c1, (hg.block b (blk_lt h1) (fun e => by have := (hr b e.symm).1; omega)).trans h1, h2.kept hg ?_, h3⟩
  rcases h2.2 with ⟨e1, _⟩ | ⟨g, cap, cur, e1, _, e3, _⟩
  · simp only [Value.slice.injEq] at e1
    exact .inl (by simp [Value.ownBlock, e1.1])
  · refine .inr fun e => ?_
    rw [e1] at e
    obtain ⟨_, ob, h4, h5⟩ := hr g (by rw [← e]; rfl)
    rw [e3] at h4
    cases h4
    simp [Obj.isCells] at h5

set_option maxHeartbeats 6400000 in
set_option maxRecDepth 100000 in
theorem minutesOf_any (q : G.Qu) (A : Option Addr) (n c : Nat) (F : Option Addr) (m d : Nat) (B : Nat) (O : Option Addr) (co : Nat) (ord : List Nat) (g : Nat) (w : World) (hL : LineAt w q A n c F m d O co ord) (hg : g < n) :
    Calls Try.prog 44 #[.agg #[.int .i64 q.opn, .int .i64 q.lo, .int .i64 q.hi, .int .i64 q.seats, .slice A n c, .slice F m d, .map (some B), .slice O n co], .int .i64 (g : Int)] w (RowPost (G.minutesOf q g) w) := by
  have HL := hide hL
  have HGN := hide hL.gl
  have hn40 : n ≤ 40 := by have := hL.v.gl; have := hL.gl; omega
  have HR100 := hide (show (G.rates q).length ≤ 100 by have := G.rates_len hL.v.lh; have := hL.v.l0; have := hL.v.h1; omega)
  clear hL
  refine calls_marks Try.func44 rfl ?_
  simp only [Try.ntmps44, List.size_toArray, List.length_cons, List.length_nil, Nat.reduceAdd, Nat.reduceSub, Array.replicate_succ, Array.replicate_zero, List.push_toArray, List.append_toArray, List.nil_append, List.cons_append]
  obtain ⟨p, hp⟩ : ∃ p, w.heap.size = p := ⟨_, rfl⟩
  obtain ⟨V, hV⟩ : ∃ V, ((w.alloc (.cells #[.int .i64 q.opn, .int .i64 q.lo, .int .i64 q.hi, .int .i64 q.seats, .slice A n c, .slice F m d, .map (some B), .slice O n co] 67)).alloc (.cells #[.int .i64 (g : Int)] 3)).alloc (.cells #[.slice none 0 0] 35) = V := ⟨_, rfl⟩
  have vs : V.heap.size = p + 1 + 1 + 1 := by rw [← hV, ← hp]; simp
  have vB : Below p w V := by rw [← hV, ← hp]; (repeat' first | exact zbR _ _ | assumption | refine zbD ?_ | refine zbA ?_ ?_ _ | refine zbS ?_ ?_ _ | refine zbT ?_ (by assumption) ?_ | (simp; done) | (simp; omega) | omega)
  have v0 : V.heap[p]? = some (.cells #[.int .i64 q.opn, .int .i64 q.lo, .int .i64 q.hi, .int .i64 q.seats, .slice A n c, .slice F m d, .map (some B), .slice O n co] 67 (0, 0)) := by
    rw [← hV, ← hp]; exact (Below.heap_alloc _ _ _ (by simp; omega)).trans ((Below.heap_alloc _ _ _ (by simp)).trans (World.alloc_heap_new _ _))
  have v1 : V.heap[p + 1]? = some (.cells #[.int .i64 (g : Int)] 3 (0, 0)) := by
    rw [← hV, ← hp]; exact (Below.heap_alloc _ _ _ (by simp)).trans ((congrArg (fun z => (World.alloc (w.alloc (.cells #[.int .i64 q.opn, .int .i64 q.lo, .int .i64 q.hi, .int .i64 q.seats, .slice A n c, .slice F m d, .map (some B), .slice O n co] 67)) (.cells #[.int .i64 (g : Int)] 3)).heap[z]?) (World.size_alloc _ _).symm).trans (World.alloc_heap_new _ _))
  have v2 : V.heap[p + 1 + 1]? = some (.cells #[.slice none 0 0] 35 (0, 0)) := by
    rw [← hV, ← hp]; exact (congrArg (fun z => (World.alloc ((w.alloc (.cells #[.int .i64 q.opn, .int .i64 q.lo, .int .i64 q.hi, .int .i64 q.seats, .slice A n c, .slice F m d, .map (some B), .slice O n co] 67)).alloc (.cells #[.int .i64 (g : Int)] 3)) (.cells #[.slice none 0 0] 35)).heap[z]?) (by simp)).trans (World.alloc_heap_new _ _)
  have VB := hide vB
  have V0 := hide v0
  have V1 := hide v1
  have V2 := hide v2
  have VL := hide (HL.out.below (by rw [hp]; exact vB))
  go_upto_region 1 with fail
  go_upto_region 2 with fail
  (try rw [hV])
  clear hV vB v1 v2
  have cp0 := (blk_cell v0 0).trans rfl; have cp1 := (blk_cell v0 1).trans rfl; have cp2 := (blk_cell v0 2).trans rfl; have cp3 := (blk_cell v0 3).trans rfl; have cp4 := (blk_cell v0 4).trans rfl; have cp5 := (blk_cell v0 5).trans rfl; have cp6 := (blk_cell v0 6).trans rfl; have cp7 := (blk_cell v0 7).trans rfl
  go_wp2_with fail
  clear cp0 cp1 cp2 cp3 cp4 cp5 cp6 cp7 v0
  refine wp_rangeQ (gf := 59) (lb := #[]) rfl (enters_of Try.func59 (by kernel_rfl) rfl)
    (atRates_seq q A n c F m d B O co ord (fun x => x < V.heap.size ∧ x ≠ p + 1 + 1) w V HL.out (by rw [hp]; exact VB.out) (fun k hk => ⟨by omega, by omega⟩)) (Below.refl _ _) (fun x hx => hx.1) (fun _ => rfl) (fun y B => enI_own q _ y B)
    (fun pre X => Keeps (fun x => x < V.heap.size ∧ x ≠ p + 1 + 1) V X ∧ ∃ A1 c1, X.heap[p + 1 + 1]? = some (.cells #[.slice A1 pre.length c1] 35 (0, 0)) ∧ X.ownsRow (V.heap.size + 3) 3 1 (.slice A1 pre.length c1) pre.length (flatI (pre.map (fun r => (G.enter q r).getD g 0))) ∧ p + 1 + 1 < V.heap.size)
    (fun _ _ _ => False)
    (OwnFrom.and (keeps_own (Nat.le_refl _)) (own_rowK (by omega) _ _ _))
    (fun _ _ _ _ _ hs _ _ => hs)
    ⟨Keeps.refl _ _, none, 0, V2.out, ⟨rfl, .inl ⟨rfl, rfl⟩⟩, by omega⟩ ?a1 ?assign ?body ?done ?stop
  case assign =>
    intro l2 x X K hK
    gi_wp2
    exact hK
  case body =>
    rintro l2 pre x y X0 X ⟨_, A0, c0, h00, h01, _⟩ ⟨hK, A1, c1, h1, hO, _⟩ hcc he hzX hpre
    obtain ⟨Ay, cy⟩ := y
    obtain ⟨b, o, rfl, hbb, hb, hc⟩ := he.get (show g < q.gs.length by rw [HGN.out]; exact hg)
    obtain ⟨mm, hmm⟩ : ∃ mm, (G.enter q x).getD g 0 = mm := ⟨_, rfl⟩
    rw [hmm] at hc
    have hne : (Value.slice A1 pre.length c1).ownBlock ≠ some b := by
      have e1 : Value.slice A1 pre.length c1 = Value.slice A0 pre.length c0 := Option.some.inj (((blk_cell h1 0).symm).trans (hcc ⟨p + 1 + 1, 0, none⟩ _ ((blk_cell h00 0).trans rfl)))
      rw [e1]
      intro e
      have := (own_cell h01 e).2
      omega
    have z2 := hK.rest.size
    have cg : X.cell? ⟨p + 1, 0, none⟩ = some (.int .i64 (g : Int)) := (hK.cell ⟨by omega, by omega⟩ (by omega)).trans ((blk_cell V1.out 0).trans rfl)
    have hk100 : pre.length ≤ 100 := by have := hpre.length_le; rw [List.length_append] at this; have := HR100.out; omega
    have HSN := hide (show ((pre ++ [x]).map (fun r => (G.enter q r).getD g 0)) = pre.map (fun r => (G.enter q r).getD g 0) ++ [mm] by rw [List.map_append, List.map_singleton, hmm])
    have HLN := hide (show (pre ++ [x]).length = pre.length + 1 by simp)
    obtain ⟨xs, hxs⟩ : ∃ xs, pre.map (fun r => (G.enter q r).getD g 0) = xs := ⟨_, rfl⟩
    obtain ⟨k, hk⟩ : ∃ k, pre.length = k := ⟨_, rfl⟩
    rw [hxs] at HSN hO
    rw [hk] at HLN h1 hO hne hk100
    have hnp : (Value.slice A1 k c1).ownBlock ≠ some (p + 1) := fun e => by have := (own_cell hO e).1; omega
    have hnq : (Value.slice A1 k c1).ownBlock ≠ some (p + 1 + 1) := fun e => by have := (own_cell hO e).1; omega
    have hSof : ∀ w', X.grownBy w' (Value.slice A1 k c1).ownBlock → (fun w' => X.grownBy w' (Value.slice A1 k c1).ownBlock ∧ w'.cell? ⟨p + 1 + 1, 0, none⟩ = some (.slice A1 k c1) ∧ w'.frozen? ⟨p + 1 + 1, 0, none⟩ = false ∧ w'.cell? ⟨p + 1, 0, none⟩ = some (.int .i64 (g : Int)) ∧ w'.cell? ⟨b, o + g, none⟩ = some (.int .i64 mm) ∧ b < w'.heap.size) w' := by
      intro w' hgr
      have e2 := (hgr.block (p + 1 + 1) (blk_lt h1) (fun e => hnq e.symm)).trans h1
      exact ⟨hgr, (blk_cell e2 0).trans rfl, blk_frozen e2 0, (gr_cell hgr (by omega) (fun e => hnp e.symm) 0).trans cg, (gr_cell hgr hb (fun e => hne e.symm) _).trans hc, Nat.lt_of_lt_of_le hb hgr.size⟩
    have hS := hSof X (World.grownBy.refl _ _)
    (try dsimp only at hS)
    have HK := hide hK
    have HO := hide hO
    have H1 := hide h1
    have HZX := hide hzX
    clear hK hO h1 hpre hcc he hxs hk hmm h00 h01 hc cg hne hnp hnq hzX
    gi_wp2
    refine wpIn_region_T_drew (S := (fun w' => X.grownBy w' (Value.slice A1 k c1).ownBlock ∧ w'.cell? ⟨p + 1 + 1, 0, none⟩ = some (.slice A1 k c1) ∧ w'.frozen? ⟨p + 1 + 1, 0, none⟩ = false ∧ w'.cell? ⟨p + 1, 0, none⟩ = some (.int .i64 (g : Int)) ∧ w'.cell? ⟨b, o + g, none⟩ = some (.int .i64 mm) ∧ b < w'.heap.size)) 7 (by kernel_rfl) (by rintro ⟨_, _, h⟩; exact h) (by kernel_rfl) ?_ (fun hHeld0 => ?_)
    · (try dsimp only); first | assumption | exact hSof _ (gr_trans hHeld0.1 (World.grownBy_alloc _ _ _)) | exact hSof _ (World.grownBy.refl _ _) | exact hSof _ hHeld0.1 | exact hSof _ (gr_drewM _ _)
    refine takeT (v := ?_) 0 rfl (by kernel_rfl) (by kernel_rfl) (by kernel_rfl) (by kernel_rfl) (fun _ _ _ h => h) (Or.inl ⟨by rfl, ?_⟩) (by assumption) ?_; rotate_left
    · (intro w hSw; (try dsimp only at hSw); go_simp; try with_reducible rfl)
    try simp only [Act.put, zl, z0, z1]
    refine takeT (v := ?_) 1 rfl (by kernel_rfl) (by kernel_rfl) (by kernel_rfl) (by kernel_rfl) (fun _ _ _ h => h) (Or.inl ⟨by rfl, ?_⟩) (by assumption) ?_; rotate_left
    · (intro w hSw; (try dsimp only at hSw); go_simp; try with_reducible rfl)
    try simp only [Act.put, zl, z0, z1]
    refine takeT (v := ?_) 2 rfl (by kernel_rfl) (by kernel_rfl) (by kernel_rfl) (by kernel_rfl) (fun _ _ _ h => h) (Or.inl ⟨by rfl, ?_⟩) (by assumption) ?_; rotate_left
    · (intro w hSw; (try dsimp only at hSw); go_simp; try with_reducible rfl)
    try simp only [Act.put, zl, z0, z1]
    refine takeT (v := ?_) 3 rfl (by kernel_rfl) (by kernel_rfl) (by kernel_rfl) (by kernel_rfl) (fun _ _ _ h => h) (Or.inl ⟨by rfl, ?_⟩) (by assumption) ?_; rotate_left
    · (intro w hSw; (try dsimp only at hSw); go_simp; try with_reducible rfl)
    try simp only [Act.put, zl, z0, z1]
    refine takeT (v := ?_) 4 rfl (by kernel_rfl) (by kernel_rfl) (by kernel_rfl) (by kernel_rfl) (fun _ _ _ h => h) (Or.inl ⟨by rfl, ?_⟩) (by assumption) ?_; rotate_left
    · (intro w hSw; (try dsimp only at hSw); go_simp; try with_reducible rfl)
    try simp only [Act.put, zl, z0, z1]
    refine wpAnyT_ready (rs := [5]) (by kernel_rfl) (by simp) ?_; refine consT 5 rfl (fun K hK => ?_) AllReadyT.nil
    (go_simp; (first | refine cap_alloc (K := K) (O := (.cells #[.int .i64 mm] 3 (0, 0))) (fun hG hb hle => ?_) | refine cap_allocD (K := K) (O := (.cells #[.int .i64 mm] 3 (0, 0))) (fun hG hb hle => ?_)); (try simp only [World.size_alloc, drew_size] at hG); have H6 := hide hG; replace HO := hide (HO.out.alloc (.cells #[.int .i64 mm] 3 (0, 0))); clear hG hle hb)
    refine hK.out _ _ ?_ (fun hHeld1 => ?_)
    · (try dsimp only); first | assumption | exact hSof _ (gr_trans hHeld0.1 (World.grownBy_alloc _ _ _)) | exact hSof _ (World.grownBy.refl _ _) | exact hSof _ hHeld0.1 | exact hSof _ (gr_drewM _ _)
    clear hK K hHeld0; try simp only [Act.put, zl, z0, z1]
    refine wpAnyT_ready (rs := [6]) (by kernel_rfl) (by simp) ?_; refine consT 6 rfl (fun K hK => ?_) AllReadyT.nil
    (refine step_app_loc rfl (.tmp 10) (.tmp 15) rfl (V.heap.size + 3) _ xs k rfl HO.out _ mm rfl H6.out (by omega) (Nat.le_trans HZX.out hHeld1.1.size) (k + 1) rfl ?_; intro A2 c2 w9 hown2 hgrow hloc; have hSn := hSof _ (gr_trans hHeld1.1 hgrow); have HO2 := hide hown2; clear hown2 hgrow hloc; (try dsimp only at hSn))
    refine hK.out _ _ ?_ (fun hHeld2 => ?_)
    · (try dsimp only); first | assumption | exact hSof _ (gr_trans hHeld1.1 (World.grownBy_alloc _ _ _)) | exact hSof _ (World.grownBy.refl _ _) | exact hSof _ hHeld1.1 | exact hSof _ (gr_drewM _ _)
    clear hK K hHeld1; try simp only [Act.put, zl, z0, z1]
    refine wpAnyT_ready (rs := [7]) (by kernel_rfl) (by simp) ?_
    refine lastT rfl (fun K hK => ?_)
    (try dsimp only at hHeld2)
    go_simp
    refine hK.out _ _ ?_
    clear hK K
    try simp only [Act.put, zl, z0, z1]
    refine wpAnyT_done (by kernel_rfl) ?_ _
    (try dsimp only [Act.put, List.getElem_toArray, List.getElem_cons_succ, List.getElem_cons_zero])
    (try simp only [zl, z0, z1])
    gi_wp2
    have hg9 := hSn.1
    have hb9 : ∀ r, (Value.slice A1 k c1).ownBlock = some r → V.heap.size + 3 ≤ r := fun r e => (own_cell HO.out e).1
    have e9 := (hg9.block (p + 1 + 1) (blk_lt H1.out) (fun e => by have := hb9 _ e.symm; omega)).trans H1.out
    have hk9 : Keeps (fun x => (x < V.heap.size ∧ x ≠ p + 1 + 1) ∨ (V.heap.size ≤ x ∧ x < V.heap.size + 3)) X (w9.setCell ⟨p + 1 + 1, 0, none⟩ (.slice A2 (k + 1) c2)) :=
      (Keeps.of_grown hg9 (fun r e h => by have := hb9 r e; omega)).trans (Keeps.setAt _ _ _ (fun h => h.elim (fun h => h.2 rfl) (fun h => by have : V.heap.size ≤ p + 1 + 1 := h.1; omega)))
    refine ⟨hk9, HK.out.trans (hk9.less (fun _ h => .inl h)), A2, c2, ?_, ?_, by omega⟩
    · rw [HLN.out]; exact blk_set e9 0 _
    · rw [HLN.out, HSN.out]; exact ownsRow_setCell_below HO2.out (show p + 1 + 1 < V.heap.size + 3 by omega) _
  case done =>
    rintro D X hD ⟨hK, A1, c1, h1, hO, _⟩ hdef
    have z2 := hK.rest.size
    have cq := (blk_cell h1 0).trans rfl
    have HO := hide hO
    clear h1 hO
    go_wp2
    refine ⟨by simp, .inl ⟨_, _, rfl, run_takeDeferred hdef, ?_⟩⟩
    have hB5 : Below p w (X.putObj D (Obj.deferred none)) :=
      (VB.out.trans (hK.below (n := p) (fun y hy => ⟨by omega, by omega⟩) (by omega))).grown (grownBy_putObj' _ D _) (by omega) (fun k e => by cases e; omega)
    refine ⟨_, results_tmp rfl _ _ _, ?_⟩
    unfold RowPost
    have el : (G.minutesOf q g).length = (G.rates q).length := by unfold G.minutesOf; rw [List.length_map]
    rw [el]
    exact ⟨A1, c1, rfl, owns_mono (ownsRow_putObj HO.out _ hdef rfl) (by omega), hp ▸ hB5⟩
  case stop =>
    rintro D cd pre X _ _ h _
    exact h.elim
end Go.Proofs.Ytlpjkolocgkcpaa

namespace Go.Proofs.Ytlpjkolocgkcpaa
open Go.RowKit Go.Maps
attribute [local go_sem ↓] Go.wp_at_zero Go.wp_at_succ

namespace G
theorem vNew_step {seen : List Int} {l : List Pt} {k : Nat} {p : Pt} (h : l[k]? = some p) : vNew seen (l.drop k) = (!seen.contains p.id && vParty p && vNew (seen ++ [p.id]) (l.drop (k + 1))) := by
  obtain ⟨hl, he⟩ := List.getElem?_eq_some_iff.1 h
  rw [List.drop_eq_getElem_cons hl, he]
  rfl
end G
def TgN (gs : List G.Pt) (k : Nat) (F : Int → Int) (kn : Int → Bool) : Prop :=
  (∀ j, 0 ≤ j → j ≤ 999 → kn j = ((gs.take k).map (·.id)).contains j) ∧ (∀ j ∈ (gs.take k).map (·.id), 0 ≤ j ∧ j ≤ 999) ∧ ∀ (i : Nat) (p : G.Pt), i < k → gs[i]? = some p → F p.id = (i : Int)
theorem TgN.zero (gs : List G.Pt) : TgN gs 0 (fun _ => 0) (fun _ => false) := ⟨fun _ _ _ => rfl, fun _ h => by simp at h, fun _ _ h => by omega⟩
theorem TgN.add {gs : List G.Pt} {k : Nat} {F : Int → Int} {kn : Int → Bool} (h : TgN gs k F kn) {p : G.Pt} (hp : gs[k]? = some p) (h0 : 0 ≤ p.id) (h1 : p.id ≤ 999) (hc : ((gs.take k).map (·.id)).contains p.id = false) :
    TgN gs (k + 1) (fun j => if j = p.id then (k : Int) else F j) (fun j => if j = p.id then true else kn j) := by
  have ht : (gs.take (k + 1)).map (·.id) = (gs.take k).map (·.id) ++ [p.id] := by rw [List.take_add_one, hp]; simp
  refine ⟨fun j a b => ?_, fun j hj => ?_, fun i pp hi hg => ?_⟩
  · rw [ht]
    by_cases e : j = p.id
    · simp [e]
    · simp only [if_neg e, h.1 j a b]
      simp [e]
  · rw [ht] at hj
    rcases List.mem_append.1 hj with hj | hj
    · exact h.2.1 j hj
    · simp at hj
      omega
  · by_cases hik : i = k
    · subst hik
      rw [hp] at hg
      cases hg
      simp
    · have hne : pp.id ≠ p.id := fun e => by
        have : ((gs.take k).map (·.id)).contains p.id = true := by
          rw [List.contains_iff_mem, List.mem_map]
          exact ⟨pp, List.mem_of_getElem? (i := i) (by rw [List.getElem?_take, if_pos (by omega)]; exact hg), e⟩
        rw [hc] at this
        cases this
      simp only [if_neg hne]
      exact h.2.2 i pp (by omega) hg
def TgPost (q : G.Qu) (L : Nat) (A : Option Addr) (n c : Nat) (F : Option Addr) (m d : Nat) (w : World) (e : Ending) (w' : World) : Prop :=
  e = .returned (.bool (G.vGroups q.gs)) ∧ w.grownBy w' (some L) ∧ (∃ mp ov : Value, w'.heap[L]? = some (.cells #[.int .i64 q.opn, .int .i64 q.lo, .int .i64 q.hi, .int .i64 q.seats, .slice A n c, .slice F m d, mp, ov] 67 (0, 0))) ∧
  (G.vGroups q.gs = true → ∃ (g : Nat) (O : Option Addr) (co : Nat) (ord : List Nat) (Fn : Int → Int) (kn : Int → Bool), w'.heap[L]? = some (.cells #[.int .i64 q.opn, .int .i64 q.lo, .int .i64 q.hi, .int .i64 q.seats, .slice A n c, .slice F m d, .map (some g), .slice O n co] 67 (0, 0)) ∧ w.heap.size ≤ g ∧ MapK elI w' g Fn kn n ∧ TgN q.gs n Fn kn ∧
    w'.ownsRow w.heap.size 3 1 (.slice O n co) n (flatI (ord.map (fun k : Nat => (k : Int)))) ∧ ord.Perm (List.range n) ∧ ord.Pairwise (fun a b => 0 ≤ G.cmpG (G.ptAt q.gs b) (G.ptAt q.gs a)))

theorem TgPost.no {q : G.Qu} {L : Nat} {A : Option Addr} {n c : Nat} {F : Option Addr} {m d : Nat} {w w' : World} {mp ov : Value} (hr : G.vGroups q.gs = false) (hg : w.grownBy w' (some L)) (hl : w'.heap[L]? = some (.cells #[.int .i64 q.opn, .int .i64 q.lo, .int .i64 q.hi, .int .i64 q.seats, .slice A n c, .slice F m d, mp, ov] 67 (0, 0))) : TgPost q L A n c F m d w (.returned (.bool false)) w' :=
  ⟨by rw [hr], hg, ⟨mp, ov, hl⟩, fun h => by rw [hr] at h; cases h⟩
theorem gr_belowR {w w' : World} {row : Option Nat} (h : Below w.heap.size w w') : w.grownBy w' row := ⟨h.os, h.tape, h.output, h.size, fun i hi _ => h.block i hi⟩
set_option maxHeartbeats 6400000 in
set_option maxRecDepth 100000 in
theorem takeGroups_any (q : G.Qu) (L : Nat) (A : Option Addr) (n c : Nat) (F : Option Addr) (m d : Nat) (w : World) (hn : q.gs.length = n) (hm : n ≤ 1000000) (hL : w.heap[L]? = some (.cells #[.int .i64 q.opn, .int .i64 q.lo, .int .i64 q.hi, .int .i64 q.seats, .slice A n c, .slice F m d, .map none, .slice none 0 0] 67 (0, 0))) (hr : RdG w w.heap.size A q.gs) (hA : ∀ b o, A = some ⟨b, o, none⟩ → b ≠ L) (hid : ∀ p ∈ q.gs, (Lit.int .i64 p.id).wf = true) :
    Calls Try.prog 53 #[.pointer (some ⟨L, 0, none⟩)] w (TgPost q L A n c F m d w) := by
  have HN := hide hn
  have HR := hide hr
  have HID := hide hid
  have HL := hide hL
  have HA := hide hA
  have hmm := @Go.RowKit.run_makeMap Try.prog
  obtain ⟨r, hres⟩ : ∃ r, G.vGroups q.gs = r := ⟨_, rfl⟩
  have HVG := hide hres
  unfold G.vGroups at hres
  rw [hn] at hres
  clear hn hr hid hL hA
  go_enter Try.func53, Try.ntmps53
  have c4 : w.cell? ⟨L, 4, none⟩ = some (.slice A n c) := (blk_cell HL.out 4).trans rfl
  have lL := blk_lt HL.out
  by_cases h40 : 40 < n
  · have h1 : (40 : Int) < (n : Int) := by omega
    rw [decide_eq_false (by omega), Bool.false_and] at hres
    subst hres
    go_wp2_with fail
    go_ret
    exact ⟨by rw [HVG.out]; rfl, World.grownBy_alloc _ _ _, ⟨_, _, (Below.heap_alloc _ _ _ lL).trans HL.out⟩, fun h => by rw [HVG.out] at h; cases h⟩
  · have h1 : (n : Int) ≤ 40 := by omega
    have hn40 : n ≤ 40 := by omega
    rw [decide_eq_true hn40, Bool.true_and] at hres
    have HRES := hide hres
    have c6 : w.cell? ⟨L, 6, none⟩ = some (.map none) := (blk_cell HL.out 6).trans rfl
    have f6 := blk_frozen HL.out 6
    clear h40 hres
    go_upto_region 4 with fail
    refine cap_w (M := Code.wp _ _ _ _) _ (fun w1 hw1 => ?_)
    have HG1 := hide (show w.grownBy w1 (some L) by rw [hw1]; exact gr_trans (gr_set _ _ _ _) (gr_trans (World.grownBy_alloc _ _ _) (World.grownBy_alloc _ _ _)))
    have HLn := hide (show w1.heap[L]? = some (.cells #[.int .i64 q.opn, .int .i64 q.lo, .int .i64 q.hi, .int .i64 q.seats, .slice A n c, .slice F m d, .map (some (w.heap.size + 1)), .slice none 0 0] 67 (0, 0)) by
      rw [hw1]
      exact (Below.heap_alloc _ _ _ (by simp; omega)).trans ((Below.heap_alloc _ _ _ (by simp; omega)).trans (blk_set HL.out 6 _)))
    have HBl := hide (show w1.heap[w.heap.size]? = some (.cells #[.pointer (some ⟨L, 0, none⟩)] 96 (0, 0)) by
      rw [hw1]
      exact (Below.heap_alloc _ _ _ (by simp)).trans (alloc_new_at (by simp)))
    have HM := hide (show MapK elI w1 (w.heap.size + 1) (fun _ => 0) (fun _ => false) 0 by
      rw [hw1]
      have h := MapK.made (E := elI) ((w.setCell ⟨L, 6, none⟩ (.map (some (w.heap.size + 1)))).alloc (.cells #[.pointer (some ⟨L, 0, none⟩)] 96))
      have e : ((w.setCell ⟨L, 6, none⟩ (.map (some (w.heap.size + 1)))).alloc (.cells #[.pointer (some ⟨L, 0, none⟩)] 96)).heap.size = w.heap.size + 1 := by simp
      rw [e] at h
      exact h)
    have HSZ := hide (show w.heap.size + 2 ≤ w1.heap.size by rw [hw1]; simp)
    clear hw1 hmm c4 c6 f6 lL
    obtain ⟨bl, hbl⟩ : ∃ x, w.heap.size = x := ⟨_, rfl⟩
    have HBE := hide hbl
    rw [hbl] at HM HBl HSZ HLn ⊢
    clear hbl
    obtain ⟨g, hg⟩ : ∃ x, bl + 1 = x := ⟨_, rfl⟩
    have HGE := hide hg
    rw [hg] at HM HLn ⊢
    clear hg
    have cb : w1.cell? ⟨bl, 0, none⟩ = some (.pointer (some ⟨L, 0, none⟩)) := (blk_cell HBl.out 0).trans rfl
    have c4 : w1.cell? ⟨L, 4, none⟩ = some (.slice A n c) := (blk_cell HLn.out 4).trans rfl
    have lb := blk_lt HBl.out
    have ll := blk_lt HLn.out
    go_wp2_with fail
    go_loopw [24] (fun i wr => ∃ (k : Nat) (O : Option Addr) (co : Nat) (Fn : Int → Int) (kn : Int → Bool), k ≤ n ∧ i = .int .i64 (k : Int) ∧ Hid (G.vNew ((q.gs.take k).map (·.id)) (q.gs.drop k) = r) ∧ Hid (MapK elI wr g Fn kn k) ∧ Hid (TgN q.gs k Fn kn) ∧ Hid (wr.heap[L]? = some (.cells #[.int .i64 q.opn, .int .i64 q.lo, .int .i64 q.hi, .int .i64 q.seats, .slice A n c, .slice F m d, .map (some g), .slice O k co] 67 (0, 0))) ∧ Hid (wr.heap[bl]? = some (.cells #[.pointer (some ⟨L, 0, none⟩)] 96 (0, 0))) ∧ Hid (wr.ownsRow (bl + 2) 3 1 (.slice O k co) k (flatI ((List.range k).map (fun k : Nat => (k : Int))))) ∧ Hid (w.grownBy wr (some L)) ∧ Hid (bl + 2 ≤ wr.heap.size) ∧ Hid (k = 0 → O = none)) (fun i _ => n - (intOf i).toNat)
    case atStart => exact ⟨0, none, 0, _, _, by omega, rfl, HRES, HM, hide (TgN.zero _), HLn, HBl, hide ⟨rfl, .inl ⟨rfl, rfl⟩⟩, HG1, HSZ, hide (fun _ => rfl)⟩
    case round =>
      clear HM HLn HBl HG1 HRES HSZ cb c4 lb ll
      obtain ⟨k, O, co, Fn, kn, hk, rfl, HRES, HM, HTG, HLn, HBl, HO, HG1, HSZ, HZ0⟩ := hrel
      have lb := blk_lt HBl.out
      have ll := blk_lt HLn.out
      have cb : wr.cell? ⟨bl, 0, none⟩ = some (.pointer (some ⟨L, 0, none⟩)) := (blk_cell HBl.out 0).trans rfl
      by_cases hlt : k < n
      · obtain ⟨pt, hpt⟩ : ∃ pt, q.gs[k]? = some pt := ⟨_, List.getElem?_eq_getElem (by rw [HN.out]; exact hlt)⟩
        obtain ⟨bg, og, hAe, hbg, d0, d1, d2, d3⟩ := (HR.out.kept HG1.out (fun b o e => by have := HA.out b o e; simp; exact this)) k pt hpt
        subst hAe
        have HPT := hide hpt
        have hltI : (k : Int) < (n : Int) := by omega
        have HS := hide ((G.vNew_step (seen := (q.gs.take k).map (·.id)) hpt).symm.trans HRES.out)
        have HWF := hide (HID.out pt (List.mem_of_getElem? hpt))
        have HTK := hide (show (q.gs.take (k + 1)).map (·.id) = (q.gs.take k).map (·.id) ++ [pt.id] by rw [List.take_add_one, hpt]; simp)
        clear hpt HRES
        go_upto_region 7 with fail
        refine cap_w (M := Code.wp _ _ _ _) _ (fun w2 hw2 => ?_)
        have HB2 := hide (show Below wr.heap.size wr w2 by rw [hw2]; exact zbA (zbR _ _) (Nat.le_refl _) _)
        have HT2 := hide (show w2.heap[wr.heap.size]? = some (.cells #[.int .i64 pt.id, .int .i64 pt.at_, .int .i64 pt.size, .int .i64 pt.quits] 42 (0, 0)) by rw [hw2]; exact World.alloc_heap_new _ _)
        clear hw2 d0 d1 d2 d3 lb ll cb
        obtain ⟨p0, hp0⟩ : ∃ x, wr.heap.size = x := ⟨_, rfl⟩
        have HP0 := hide hp0
        rw [hp0] at HT2 ⊢
        clear hp0
        obtain ⟨V, hV⟩ : ∃ V, w2.drew = V := ⟨_, rfl⟩
        have HBV := hide (show Below wr.heap.size wr V by rw [← hV]; exact zbD HB2.out)
        have HTV := hide (show V.heap[p0]? = some (.cells #[.int .i64 pt.id, .int .i64 pt.at_, .int .i64 pt.size, .int .i64 pt.quits] 42 (0, 0)) by rw [← hV]; exact HT2.out)
        have HLV := bkT HBV.out HLn
        have HBlV := bkT HBV.out HBl
        have HMV := hide (HM.out.below HBV.out)
        have HOV := hide (owns_below HO.out HBV.out)
        have HGV := hide (gr_trans HG1.out (gr_belowR HBV.out))
        obtain ⟨z, bo, hlk0, hb1, hb2⟩ := MapK.lookOk_wf Try.underlying65 zeroI HMV.out HWF.out
        have hlk : (Instr.lookup 65 (.map (some g)) (.int .i64 pt.id) true).run Try.prog V = .ok (.tuple #[.int .i64 z, .bool bo]) V := hlk0
        have HBO := hide (show bo = ((q.gs.take k).map (·.id)).contains pt.id by
          cases bo with
          | false =>
            cases hc : ((q.gs.take k).map (·.id)).contains pt.id with
            | false => rfl
            | true =>
              have hin := HTG.out.2.1 pt.id (by simpa using hc)
              have h1 := hb2 rfl hin.1 hin.2
              rw [HTG.out.1 _ hin.1 hin.2, hc] at h1
              exact h1.symm
          | true =>
            obtain ⟨a0, a1, _, a3⟩ := hb1 rfl
            rw [HTG.out.1 _ a0 a1] at a3
            exact a3.symm)
        clear hlk0 hb1 hb2
        have cb : V.cell? ⟨bl, 0, none⟩ = some (.pointer (some ⟨L, 0, none⟩)) := (blk_cell HBlV.out 0).trans rfl
        have c6 : V.cell? ⟨L, 6, none⟩ = some (.map (some g)) := (blk_cell HLV.out 6).trans rfl
        have t0 : V.cell? ⟨p0, 0, none⟩ = some (.int .i64 pt.id) := (blk_cell HTV.out 0).trans rfl
        have t1 : V.cell? ⟨p0, 1, none⟩ = some (.int .i64 pt.at_) := (blk_cell HTV.out 1).trans rfl
        have t2 : V.cell? ⟨p0, 2, none⟩ = some (.int .i64 pt.size) := (blk_cell HTV.out 2).trans rfl
        have t3 : V.cell? ⟨p0, 3, none⟩ = some (.int .i64 pt.quits) := (blk_cell HTV.out 3).trans rfl
        have lp := blk_lt HTV.out
        have lL := blk_lt HLV.out
        have lbl := blk_lt HBlV.out
        refine wp_region_still_tail 11 (by kernel_rfl) (by kernel_rfl) ?_
        simp only [List.take_succ_cons, List.take_zero, List.drop_succ_cons, List.drop_zero]
        change wpStill _ _ w2.drew (fun a' => wpList _ _ _ _ a' w2.drew) _ _
        rw [hV]
        clear hV HB2 HT2
        (repeat still_step)
        refine wpStill_nil ?_
        clear hlk
        obtain ⟨vt, hvt⟩ : ∃ x, G.vParty pt = x := ⟨_, rfl⟩
        have HVT := hide hvt
        clear hvt
        cases bo
        · cases vt
          · have hr0 : r = false := by rw [← HS.out, ← HBO.out, HVT.out]; rfl
            subst hr0
            go_wp2_with (go_at_call 67; (with_reducible refine (validParty_any pt _).mono ?_); rintro e w7 ⟨rfl, hb7⟩; rw [HVT.out]; have HL7 := bkT hb7 HLV; have HG7 := hide (gr_trans HGV.out (gr_belowR hb7)); clear hb7)
            go_ret
            exact TgPost.no HVG.out HG7.out HL7.out
          · have HVT2 := hide (G.vParty_iff.1 HVT.out)
            go_upto_region 10 with (go_at_call 67; (with_reducible refine (validParty_any pt _).mono ?_); rintro e w7 ⟨rfl, hb7⟩; rw [HVT.out]; have HB7 := hide hb7; clear hb7)
            obtain ⟨V2, hV2⟩ : ∃ V2, w7.drew = V2 := ⟨_, rfl⟩
            have HBV2 := hide (show Below V.heap.size V V2 by rw [← hV2]; exact zbD HB7.out)
            have HT2 := bkT HBV2.out HTV
            have HL2 := bkT HBV2.out HLV
            have HBl2 := bkT HBV2.out HBlV
            have HM2 := hide (HMV.out.below HBV2.out)
            have HOV2 := hide (owns_below HOV.out HBV2.out)
            have HG2 := hide (gr_trans HGV.out (gr_belowR HBV2.out))
            have HL0 := hide (show L < bl by have := blk_lt HL.out; have := HBE.out; omega)
            clear cb c6 t0 t1 t2 t3 lp lL lbl
            obtain ⟨w8, hrun8, hm8, hg8⟩ := HM2.out.store Try.underlying65 (by omega) HVT2.out.i0 HVT2.out.i1 (k : Int)
            have hrun9 : (Instr.mapUpdate 65 (.map (some g)) (.int .i64 pt.id) (.int .i64 (k : Int))).run Try.prog V2 = .ok () w8 := hrun8
            have HM8 := hide hm8
            have HG8 := hide (show w.grownBy w8 (some L) from HG2.out.andThen hg8 (fun y hy => .inl (by have h1 := Option.some.inj hy; have h2 := HGE.out; have h3 := HBE.out; omega)))
            have HL8 := bkG hg8 (by have := HGE.out; have := HL0.out; simp; omega) HL2
            have HBl8 := bkG hg8 (by have := HGE.out; simp; omega) HBl2
            have hown_ge : ∀ x, (Value.slice O k co).ownBlock = some x → bl + 2 ≤ x := fun x e => (own_cell HOV2.out e).1
            have HO8 := hide (HOV2.out.kept hg8 (.inr fun e => by have := hown_ge g e; have := HGE.out; omega))
            have HSZ8 := hide (show bl + 2 ≤ w8.heap.size from Nat.le_trans HSZ.out (Nat.le_trans HBV.out.size (Nat.le_trans HBV2.out.size hg8.size)))
            have cb : V2.cell? ⟨bl, 0, none⟩ = some (.pointer (some ⟨L, 0, none⟩)) := (blk_cell HBl2.out 0).trans rfl
            have c6 : V2.cell? ⟨L, 6, none⟩ = some (.map (some g)) := (blk_cell HL2.out 6).trans rfl
            have t0 : V2.cell? ⟨p0, 0, none⟩ = some (.int .i64 pt.id) := (blk_cell HT2.out 0).trans rfl
            have lp := blk_lt HT2.out
            have lL := blk_lt HL2.out
            have lbl := blk_lt HBl2.out
            clear hrun8 hm8 hg8
            refine wp_region_still_tail 7 (by kernel_rfl) (by kernel_rfl) ?_
            simp only [List.take_succ_cons, List.take_zero, List.drop_succ_cons, List.drop_zero]
            change wpStill _ _ w7.drew (fun a' => wpList _ _ _ _ a' w7.drew) _ _
            rw [hV2]
            clear hV2
            (repeat still_step)
            refine wpStill_nil ?_
            go_upto_region 11 with fail
            clear cb c6 t0 lp lL lbl hrun9
            have hnb : (Value.slice O k co).ownBlock ≠ some bl := fun e => by have := hown_ge _ e; omega
            have hnL : (Value.slice O k co).ownBlock ≠ some L := fun e => by have := hown_ge _ e; have := HL0.out; omega
            have hSof : ∀ w', w8.grownBy w' (Value.slice O k co).ownBlock → (fun w' => w8.grownBy w' (Value.slice O k co).ownBlock ∧ w'.cell? ⟨bl, 0, none⟩ = some (.pointer (some ⟨L, 0, none⟩)) ∧ w'.cell? ⟨L, 7, none⟩ = some (.slice O k co) ∧ w'.frozen? ⟨L, 7, none⟩ = false ∧ L < w'.heap.size) w' := by
              intro w' hgr
              have e1 := (hgr.block bl (blk_lt HBl8.out) (fun e => hnb e.symm)).trans HBl8.out
              have e2 := (hgr.block L (blk_lt HL8.out) (fun e => hnL e.symm)).trans HL8.out
              exact ⟨hgr, (blk_cell e1 0).trans rfl, (blk_cell e2 7).trans rfl, blk_frozen e2 7, blk_lt e2⟩
            have hS := hSof w8 (World.grownBy.refl _ _)
            (try dsimp only at hS)
            refine wp_region_T_drew (S := (fun w' => w8.grownBy w' (Value.slice O k co).ownBlock ∧ w'.cell? ⟨bl, 0, none⟩ = some (.pointer (some ⟨L, 0, none⟩)) ∧ w'.cell? ⟨L, 7, none⟩ = some (.slice O k co) ∧ w'.frozen? ⟨L, 7, none⟩ = false ∧ L < w'.heap.size)) 10 (by kernel_rfl) ?_ (fun hD0 => ?_)
            · (try dsimp only); first | assumption | exact hSof _ (gr_trans hD0.1 (World.grownBy_alloc _ _ _)) | exact hSof _ (World.grownBy.refl _ _) | exact hSof _ hD0.1 | exact hSof _ (gr_drewM _ _)
            refine takeT (v := ?_) 0 rfl (by kernel_rfl) (by kernel_rfl) (by kernel_rfl) (by kernel_rfl) (fun _ _ _ h => h) (Or.inl ⟨by rfl, ?_⟩) (by assumption) ?_; rotate_left
            · (intro w hSw; (try dsimp only at hSw); go_simp; try with_reducible rfl)
            try simp only [Act.put, zl, z0, z1]
            refine takeT (v := ?_) 1 rfl (by kernel_rfl) (by kernel_rfl) (by kernel_rfl) (by kernel_rfl) (fun _ _ _ h => h) (Or.inl ⟨by rfl, ?_⟩) (by assumption) ?_; rotate_left
            · (intro w hSw; (try dsimp only at hSw); go_simp; try with_reducible rfl)
            try simp only [Act.put, zl, z0, z1]
            refine takeT (v := ?_) 2 rfl (by kernel_rfl) (by kernel_rfl) (by kernel_rfl) (by kernel_rfl) (fun _ _ _ h => h) (Or.inl ⟨by rfl, ?_⟩) (by assumption) ?_; rotate_left
            · (intro w hSw; (try dsimp only at hSw); go_simp; try with_reducible rfl)
            try simp only [Act.put, zl, z0, z1]
            refine takeT (v := ?_) 3 rfl (by kernel_rfl) (by kernel_rfl) (by kernel_rfl) (by kernel_rfl) (fun _ _ _ h => h) (Or.inl ⟨by rfl, ?_⟩) (by assumption) ?_; rotate_left
            · (intro w hSw; (try dsimp only at hSw); go_simp; try with_reducible rfl)
            try simp only [Act.put, zl, z0, z1]
            refine takeT (v := ?_) 4 rfl (by kernel_rfl) (by kernel_rfl) (by kernel_rfl) (by kernel_rfl) (fun _ _ _ h => h) (Or.inl ⟨by rfl, ?_⟩) (by assumption) ?_; rotate_left
            · (intro w hSw; (try dsimp only at hSw); go_simp; try with_reducible rfl)
            try simp only [Act.put, zl, z0, z1]
            refine takeT (v := ?_) 5 rfl (by kernel_rfl) (by kernel_rfl) (by kernel_rfl) (by kernel_rfl) (fun _ _ _ h => h) (Or.inl ⟨by rfl, ?_⟩) (by assumption) ?_; rotate_left
            · (intro w hSw; (try dsimp only at hSw); go_simp; try with_reducible rfl)
            try simp only [Act.put, zl, z0, z1]
            refine wpAnyT_ready (rs := [6]) (by kernel_rfl) (by simp) ?_; refine consT 6 rfl (fun K hK => ?_) AllReadyT.nil
            (go_simp; (first | refine cap_alloc (K := K) (O := (.cells #[.int .i64 (k : Int)] 3 (0, 0))) (fun hG hb hle => ?_) | refine cap_allocD (K := K) (O := (.cells #[.int .i64 (k : Int)] 3 (0, 0))) (fun hG hb hle => ?_)); (try simp only [World.size_alloc, drew_size] at hG); have H6 := hide hG; replace HO8 := hide (HO8.out.alloc (.cells #[.int .i64 (k : Int)] 3 (0, 0))); clear hG hle hb)
            refine hK.out _ _ ?_ (fun hD1 => ?_)
            · (try dsimp only); first | assumption | exact hSof _ (gr_trans hD0.1 (World.grownBy_alloc _ _ _)) | exact hSof _ (World.grownBy.refl _ _) | exact hSof _ hD0.1 | exact hSof _ (gr_drewM _ _)
            clear hK K hD0; try simp only [Act.put, zl, z0, z1]
            refine wpAnyT_ready (rs := [7]) (by kernel_rfl) (by simp) ?_; refine consT 7 rfl (fun K hK => ?_) AllReadyT.nil
            (refine step_app_loc rfl (.tmp 56) (.tmp 58) rfl (bl + 2) _ ((List.range k).map (fun k : Nat => (k : Int))) k rfl HO8.out _ (k : Int) rfl H6.out (by omega) (Nat.le_trans HSZ8.out hD1.1.size) (k + 1) rfl ?_; intro A2 c2 w9 hown2 hgrow hloc; have hSn := hSof _ (gr_trans hD1.1 hgrow); have HO2 := hide hown2; clear hown2 hgrow hloc; (try dsimp only at hSn))
            refine hK.out _ _ ?_ (fun hD2 => ?_)
            · (try dsimp only); first | assumption | exact hSof _ (gr_trans hD1.1 (World.grownBy_alloc _ _ _)) | exact hSof _ (World.grownBy.refl _ _) | exact hSof _ hD1.1 | exact hSof _ (gr_drewM _ _)
            clear hK K hD1; try simp only [Act.put, zl, z0, z1]
            refine wpAnyT_ready (rs := [8]) (by kernel_rfl) (by simp) ?_; refine consT 8 rfl (fun K hK => ?_) AllReadyT.nil; go_simp
            refine hK.out _ _ ?_ (fun hD3 => ?_)
            · (try dsimp only); first | exact hD2 | (first | assumption | exact hSof _ (gr_trans «H».1 (World.grownBy_alloc _ _ _)) | exact hSof _ (World.grownBy.refl _ _) | exact hSof _ «H».1 | exact hSof _ (gr_drewM _ _))
            clear hK K hD2; try simp only [Act.put, zl, z0, z1]
            refine takeT (v := ?_) 9 rfl (by kernel_rfl) (by kernel_rfl) (by kernel_rfl) (by kernel_rfl) (fun _ _ _ h => h) (Or.inl ⟨by rfl, ?_⟩) (by assumption) ?_; rotate_left
            · (intro w hSw; (try dsimp only at hSw); go_simp; try with_reducible rfl)
            try simp only [Act.put, zl, z0, z1]
            refine wpAnyT_ready (rs := [10]) (by kernel_rfl) (by simp) ?_
            refine lastT rfl (fun K hK => ?_)
            (try dsimp only at hD3)
            go_simp
            refine hK.out _ _ ?_
            clear hK K
            try simp only [Act.put, zl, z0, z1]
            refine wpAnyT_done (by kernel_rfl) ?_ _
            (try dsimp only [Act.put, List.getElem_toArray, List.getElem_cons_succ, List.getElem_cons_zero])
            (try simp only [zl, z0, z1])
            go_wp2_with fail
            have hg9 := hSn.1
            have e9 := (hg9.block L (blk_lt HL8.out) (fun e => hnL e.symm)).trans HL8.out
            have b9 := (hg9.block bl (blk_lt HBl8.out) (fun e => hnb e.symm)).trans HBl8.out
            have hng : some g ≠ (Value.slice O k co).ownBlock := fun e => by have := hown_ge g e.symm; have := HGE.out; omega
            go_roundw
            case rel =>
              refine ⟨k + 1, A2, c2, _, _, by omega, by go_num, ?_, ?_, hide (HTG.out.add HPT.out HVT2.out.i0 HVT2.out.i1 HBO.out.symm), hide (blk_set e9 7 _), hide (blk_other b9 (by have := HL0.out; omega) 7 _), ?_, ?_, ?_, hide (fun h => by omega)⟩
              · refine hide ?_
                rw [HTK.out, ← HS.out, ← HBO.out, HVT.out]
                rfl
              · exact hide ((HM8.out.kept hg9 hng).kept (gr_set _ _ _ _) (by have := HGE.out; have := HL0.out; simp; omega))
              · refine hide ?_
                have h := ownsRow_setCell_below HO2.out (a := ⟨L, 7, none⟩) (show L < bl + 2 by have := HL0.out; omega) (.slice A2 (k + 1) c2)
                rw [List.range_succ, List.map_append]
                exact h
              · exact hide ((HG8.out.andThen hg9 (fun y hy => .inl (by have h1 := hown_ge y hy; have h3 := HBE.out; omega))).andThen (gr_set _ _ _ _) (fun y hy => .inr hy))
              · exact hide (by simp; exact Nat.le_trans HSZ8.out hg9.size)
            case measure => simp [intOf]; omega
        · have hr0 : r = false := by rw [← HS.out, ← HBO.out]; rfl
          subst hr0
          go_wp2_with fail
          go_ret
          exact TgPost.no HVG.out HGV.out HLV.out
      · have hkn : k = n := by omega
        subst hkn
        have hr1 : r = true := by
          have h := HRES.out
          rw [List.drop_of_length_le (by rw [HN.out]; exact Nat.le_refl _)] at h
          exact h.symm
        subst hr1
        have c4 : wr.cell? ⟨L, 4, none⟩ = some (.slice A k c) := (blk_cell HLn.out 4).trans rfl
        have c7 : wr.cell? ⟨L, 7, none⟩ = some (.slice O k co) := (blk_cell HLn.out 7).trans rfl
        have hown_ge : ∀ x, (Value.slice O k co).ownBlock = some x → bl + 2 ≤ x := fun x e => (own_cell HO.out e).1
        have HL0 := hide (show L < bl by have := blk_lt HL.out; have := HBE.out; omega)
        have HSRT := hide (sortG_any bl L k c A q.gs HN.out (by omega) (bl + 2) O k co (List.range k) wr cb c4 lb ll (HR.out.kept HG1.out (fun b o e => by have := HA.out b o e; simp; exact this)) HO.out (fun j hj => List.mem_range.1 hj) (fun e => by have := hown_ge _ e; omega) (fun e => by have := hown_ge _ e; have := HL0.out; omega) (fun b o e e2 => by
          by_cases hk0 : k = 0
          · rw [HZ0.out hk0] at e2
            simp [Value.ownBlock] at e2
          · obtain ⟨b', o', e', hb', _⟩ := HR.out 0 _ (List.getElem?_eq_getElem (by rw [HN.out]; omega))
            rw [e] at e'
            have e3 : b = b' := by simpa using (congrArg (fun x => x.map (·.block)) e')
            have := hown_ge _ e2
            have := HBE.out
            omega) (by omega) HZ0.out)
        go_wp2_with (go_at_call 68; (with_reducible refine HSRT.out.mono ?_); rintro e w5 ⟨rfl, ys, hp5, hs5, ho5, hg5⟩)
        go_ret
        have hl5 := (hg5.block L ll (fun e => by have := hown_ge _ e.symm; have := HL0.out; omega)).trans HLn.out
        refine ⟨by rw [HVG.out]; rfl, HG1.out.andThen hg5 (fun y hy => .inl (by have := hown_ge y hy; have := HBE.out; omega)), ⟨_, _, hl5⟩, fun _ => ⟨g, O, co, ys, Fn, kn, hl5, by have := HGE.out; have := HBE.out; omega, HM.out.kept hg5 (fun e => by have := hown_ge _ e.symm; have := HGE.out; omega), HTG.out, owns_mono ho5 (by have := HBE.out; omega), hp5, hs5⟩⟩
end Go.Proofs.Ytlpjkolocgkcpaa

namespace Go.Proofs.Ytlpjkolocgkcpaa
open Go.RowKit Go.Sort
attribute [local go_sem ↓] Go.wp_at_zero Go.wp_at_succ

def TfPost (q : G.Qu) (L : Nat) (A : Option Addr) (n c m : Nat) (mp ov : Value) (w : World) (e : Ending) (w' : World) : Prop :=
  e = .returned (.bool (G.vFrees q.fs)) ∧ w.grownBy w' (some L) ∧ (∃ fv : Value, w'.heap[L]? = some (.cells #[.int .i64 q.opn, .int .i64 q.lo, .int .i64 q.hi, .int .i64 q.seats, .slice A n c, fv, mp, ov] 67 (0, 0))) ∧
  (G.vFrees q.fs = true → ∃ (F' : Option Addr) (d' : Nat) (fs' : List G.Fr), w'.heap[L]? = some (.cells #[.int .i64 q.opn, .int .i64 q.lo, .int .i64 q.hi, .int .i64 q.seats, .slice A n c, .slice F' m d', mp, ov] 67 (0, 0)) ∧ fs'.Perm q.fs ∧ fs'.Pairwise (fun a b => a.at_ ≤ b.at_) ∧
    w'.ownsRow w.heap.size 54 2 (.slice F' m d') m (flatF fs'))

set_option maxHeartbeats 6400000 in
set_option maxRecDepth 100000 in
theorem takeFrees_any (q : G.Qu) (L : Nat) (A : Option Addr) (n c : Nat) (F : Option Addr) (m d : Nat) (mp ov : Value) (w : World) (hn : q.fs.length = m) (hm : m ≤ 1000000) (hL : w.heap[L]? = some (.cells #[.int .i64 q.opn, .int .i64 q.lo, .int .i64 q.hi, .int .i64 q.seats, .slice A n c, .slice F m d, mp, ov] 67 (0, 0))) (hr : RdF w w.heap.size F q.fs) (hF : F = none → d = 0) :
    Calls Try.prog 54 #[.pointer (some ⟨L, 0, none⟩)] w (TfPost q L A n c m mp ov w) := by
  have HN := hide hn
  have HR := hide hr
  have HL := hide hL
  have HFN := hide hF
  obtain ⟨r, hres⟩ : ∃ r, G.vFrees q.fs = r := ⟨_, rfl⟩
  have HVG := hide hres
  unfold G.vFrees at hres
  rw [hn] at hres
  clear hn hr hL hF
  have c5 : w.cell? ⟨L, 5, none⟩ = some (.slice F m d) := (blk_cell HL.out 5).trans rfl
  have lL := blk_lt HL.out
  have HLL := hide lL
  go_enter Try.func54, Try.ntmps54
  by_cases h40 : 40 < m
  · have h1 : (40 : Int) < (m : Int) := by omega
    rw [decide_eq_false (by omega), Bool.false_and] at hres
    subst hres
    go_wp2_with fail
    go_ret
    exact ⟨by rw [HVG.out]; rfl, World.grownBy.refl _ _, ⟨_, HL.out⟩, fun h => by rw [HVG.out] at h; cases h⟩
  · have h1 : (m : Int) ≤ 40 := by omega
    have hm40 : m ≤ 40 := by omega
    rw [decide_eq_true hm40, Bool.true_and] at hres
    have HAL := hide (show (!q.fs.all G.vFree) = !r by rw [hres])
    clear h40 hres
    cases r
    · go_wp2_with (go_at_call 73; (with_reducible refine (containsBadF_any F m d q.fs _ HN.out HR.out hm).mono ?_); rintro e w1 ⟨rfl, hb1⟩; rw [HAL.out]; have HB1 := hide hb1; clear hb1)
      go_ret
      exact ⟨by rw [HVG.out]; rfl, gr_belowR HB1.out, ⟨_, (bkT HB1.out HL).out⟩, fun h => by rw [HVG.out] at h; cases h⟩
    · go_wp2_with (first
        | (go_at_call 73; (with_reducible refine (containsBadF_any F m d q.fs _ HN.out HR.out hm).mono ?_); rintro e w1 ⟨rfl, hb1⟩; rw [HAL.out]; have HB1 := hide hb1; have HL1 := bkT hb1 HL; have HF1 := hide ((HR.out.below hb1).mono hb1.size); clear hb1 c5 lL; have c5 : w1.cell? ⟨L, 5, none⟩ = some (.slice F m d) := (blk_cell HL1.out 5).trans rfl; have lL := blk_lt HL1.out)
        | (go_at_call 74; (with_reducible refine (cloneF_any F m d q.fs _ HN.out HF1.out HFN.out (by omega)).mono ?_); rintro e w2 ⟨F2, d2, rfl, ho2, hb2⟩; have HO2 := hide ho2; have HL2 := bkT hb2 HL1; have HG2 := hide (gr_trans (gr_belowR (row := some L) HB1.out) (gr_belowR hb2)); have HS2 := hide (Nat.lt_of_lt_of_le HLL.out HB1.out.size); clear ho2 hb2 c5 lL; have c5 : w2.cell? ⟨L, 5, none⟩ = some (.slice F m d) := (blk_cell HL2.out 5).trans rfl; have f5 := blk_frozen HL2.out 5; have lL := blk_lt HL2.out)
        | (go_at_call 75; (with_reducible refine (sortF_any _ F2 m d2 q.fs _ (ownsRow_setCell_below HO2.out (a := ⟨L, 5, none⟩) HS2.out _) HN.out (by omega)).mono ?_); rintro e w3 ⟨rfl, ys, hp3, hs3, ho3, hg3⟩))
      go_ret
      have hge : ∀ x, (Value.slice F2 m d2).ownBlock = some x → w.heap.size ≤ x := fun x e => Nat.le_trans HB1.out.size (HO2.out.lt x e).1
      have hl3 := (hg3.block L (by simpa using lL) (fun e => by have := hge L e.symm; have := HLL.out; omega)).trans (blk_set HL2.out 5 (.slice F2 m d2))
      exact ⟨by rw [HVG.out]; rfl, (HG2.out.andThen (gr_set _ _ _ _) (fun y hy => .inr hy)).andThen hg3 (fun y hy => .inl (hge y hy)), ⟨_, hl3⟩, fun _ => ⟨F2, d2, ys, hl3, hp3, hs3, owns_mono ho3 HB1.out.size⟩⟩
end Go.Proofs.Ytlpjkolocgkcpaa

namespace Go.Proofs.Ytlpjkolocgkcpaa
open Go.RowKit Go.Sort
attribute [local go_sem ↓] Go.wp_at_zero Go.wp_at_succ

theorem lnRow : (Try.prog.info? 67).map (·.size) = some 8 := by kernel_rfl
def OpenPost (q : G.Qu) (A : Option Addr) (n c m : Nat) (w : World) (e : Ending) (w' : World) : Prop :=
  Below w.heap.size w w' ∧ (G.valid q = false → e = .returned (.tuple #[.agg #[.int .i64 0, .int .i64 0, .int .i64 0, .int .i64 0, .slice none 0 0, .slice none 0 0, .map none, .slice none 0 0], .int .i64 110])) ∧
  (G.valid q = true → ∃ (F2 : Option Addr) (d2 : Nat) (fs2 : List G.Fr) (g : Nat) (O : Option Addr) (co : Nat) (ord : List Nat) (Fn : Int → Int) (kn : Int → Bool),
    e = .returned (.tuple #[.agg #[.int .i64 q.opn, .int .i64 q.lo, .int .i64 q.hi, .int .i64 q.seats, .slice A n c, .slice F2 m d2, .map (some g), .slice O n co], .int .i64 0]) ∧ fs2.Perm q.fs ∧ LineAt w' { q with fs := fs2 } A n c F2 m d2 O co ord ∧ MapK elI w' g Fn kn n ∧ TgN q.gs n Fn kn ∧ w.heap.size ≤ g ∧ (∀ b i, F2 = some ⟨b, i, none⟩ → w.heap.size ≤ b) ∧ (∀ b i, O = some ⟨b, i, none⟩ → w.heap.size ≤ b))

set_option maxHeartbeats 6400000 in
set_option maxRecDepth 100000 in
theorem open_any (q : G.Qu) (A : Option Addr) (n c : Nat) (F : Option Addr) (m d : Nat) (w : World) (hgn : q.gs.length = n) (hfn : q.fs.length = m) (hn : n ≤ 1000000) (hm : m ≤ 1000000) (hrg : RdG w w.heap.size A q.gs) (hrf : RdF w w.heap.size F q.fs) (hA : ∀ b o, A = some ⟨b, o, none⟩ → b < w.heap.size) (hF : F = none → d = 0) (hid : ∀ p ∈ q.gs, (Lit.int .i64 p.id).wf = true) :
    Calls Try.prog 36 #[.agg #[.int .i64 q.opn, .int .i64 q.lo, .int .i64 q.hi, .int .i64 q.seats, .slice A n c, .slice F m d]] w (OpenPost q A n c m w) := by
  have HGN := hide hgn
  have HFN := hide hfn
  have HRG := hide hrg
  have HRF := hide hrf
  have HA := hide hA
  have HF := hide hF
  have HID := hide hid
  clear hgn hfn hrg hrf hA hF hid
  go_enter Try.func36, Try.ntmps36
  go_upto_region 2 with fail
  refine cap_w (M := Code.wp _ _ _ _) _ (fun w1 hw1 => ?_)
  have HB1 := hide (show Below w.heap.size w w1 by rw [hw1]; (repeat' first | exact zbR _ _ | assumption | refine zbD ?_ | refine zbA ?_ ?_ _ | refine zbS ?_ ?_ _ | refine zbT ?_ (by assumption) ?_ | (simp; done) | (simp; omega) | omega))
  have HQ := hide (show w1.heap[w.heap.size]? = some (.cells #[.int .i64 q.opn, .int .i64 q.lo, .int .i64 q.hi, .int .i64 q.seats, .slice A n c, .slice F m d] 27 (0, 0)) by
    rw [hw1]; exact (Below.heap_alloc _ _ _ (by simp; omega)).trans ((Below.heap_alloc _ _ _ (by simp)).trans (World.alloc_heap_new _ _)))
  have HZ := hide (show w1.heap[w.heap.size + 1]? = some (.cells #[.int .i64 0, .int .i64 0, .int .i64 0, .int .i64 0, .slice none 0 0, .slice none 0 0, .map none, .slice none 0 0] 67 (0, 0)) by
    rw [hw1]; exact (Below.heap_alloc _ _ _ (by simp)).trans (alloc_new_at (by simp)))
  have HL := hide (show w1.heap[w.heap.size + 1 + 1]? = some (.cells #[.int .i64 q.opn, .int .i64 q.lo, .int .i64 q.hi, .int .i64 q.seats, .slice A n c, .slice F m d, .map none, .slice none 0 0] 67 (0, 0)) by
    rw [hw1]; exact alloc_new_at (by simp))
  clear hw1
  obtain ⟨b1, hb1⟩ : ∃ x, w.heap.size + 1 = x := ⟨_, rfl⟩
  rw [hb1] at HZ HL ⊢
  obtain ⟨L, hLe⟩ : ∃ x, b1 + 1 = x := ⟨_, rfl⟩
  rw [hLe] at HL ⊢
  obtain ⟨b0, hb0⟩ : ∃ x, w.heap.size = x := ⟨_, rfl⟩
  have HE := hide (show w.heap.size = b0 ∧ b0 < b1 ∧ b1 < L by omega)
  rw [hb0] at HQ ⊢
  clear hb1 hLe hb0
  have HAL := hide (show ∀ b o, A = some ⟨b, o, none⟩ → b ≠ L from fun b o e => by have := HA.out b o e; have := HE.out; omega)
  have q0 : w1.cell? ⟨b0, 0, none⟩ = some (.int .i64 q.opn) := (blk_cell HQ.out 0).trans rfl
  have q1 : w1.cell? ⟨b0, 1, none⟩ = some (.int .i64 q.lo) := (blk_cell HQ.out 1).trans rfl
  have q2 : w1.cell? ⟨b0, 2, none⟩ = some (.int .i64 q.hi) := (blk_cell HQ.out 2).trans rfl
  have q3 : w1.cell? ⟨b0, 3, none⟩ = some (.int .i64 q.seats) := (blk_cell HQ.out 3).trans rfl
  have q4 : w1.cell? ⟨b0, 4, none⟩ = some (.slice A n c) := (blk_cell HQ.out 4).trans rfl
  have q5 : w1.cell? ⟨b0, 5, none⟩ = some (.slice F m d) := (blk_cell HQ.out 5).trans rfl
  have lq := blk_lt HQ.out
  obtain ⟨v, hv⟩ : ∃ v, G.valid q = v := ⟨_, rfl⟩
  have HV := hide hv
  unfold G.valid at hv
  cases h1 : G.vGates q
  · rw [h1] at hv
    have hv' : v = false := hv.symm
    subst hv'
    have H1 := hide h1
    clear h1 hv
    go_wp2_with (first | (go_at_call 52; (with_reducible refine (validGates_any q A n c F m d _).mono ?_); rintro e w2 ⟨rfl, hb2⟩; rw [H1.out]; have HL2 := bkT hb2 HL; have HZ2 := bkT hb2 HZ; have HB2 := hide (zbT HB1.out hb2 HB1.out.size); clear hb2 q0 q1 q2 q3 q4 q5 lq) | (refine wpList_store_row rfl 67 _ _ rfl b1 _ rfl rfl 67 _ HZ2.out lnRow rfl (by simp [Value.oneCell']) ?_))
    refine cap_w (M := bodyPost _ _ _ _ _) _ (fun W9 hW9 => ?_)
    have HR9 := hide (show W9.heap[b1]? = some (.cells #[.int .i64 0, .int .i64 0, .int .i64 0, .int .i64 0, .slice none 0 0, .slice none 0 0, .map none, .slice none 0 0] 67 (0, 0)) by rw [hW9]; exact setRow_heap _ _ _ _ _ _ HZ2.out)
    have HB9 := hide (show Below w.heap.size w W9 by rw [hW9]; exact below_row HB2.out (by have := HE.out; omega) _)
    have r0 : W9.cell? ⟨b1, 0, none⟩ = some (.int .i64 0) := (blk_cell HR9.out 0).trans rfl
    have r1 : W9.cell? ⟨b1, 1, none⟩ = some (.int .i64 0) := (blk_cell HR9.out 1).trans rfl
    have r2 : W9.cell? ⟨b1, 2, none⟩ = some (.int .i64 0) := (blk_cell HR9.out 2).trans rfl
    have r3 : W9.cell? ⟨b1, 3, none⟩ = some (.int .i64 0) := (blk_cell HR9.out 3).trans rfl
    have r4 : W9.cell? ⟨b1, 4, none⟩ = some (.slice none 0 0) := (blk_cell HR9.out 4).trans rfl
    have r5 : W9.cell? ⟨b1, 5, none⟩ = some (.slice none 0 0) := (blk_cell HR9.out 5).trans rfl
    have r6 : W9.cell? ⟨b1, 6, none⟩ = some (.map none) := (blk_cell HR9.out 6).trans rfl
    have r7 : W9.cell? ⟨b1, 7, none⟩ = some (.slice none 0 0) := (blk_cell HR9.out 7).trans rfl
    exact bodyPost_ret (v := .tuple #[.agg #[.int .i64 0, .int .i64 0, .int .i64 0, .int .i64 0, .slice none 0 0, .slice none 0 0, .map none, .slice none 0 0], .int .i64 110]) (by simp [results, Try.results36, go_sem, r0, r1, r2, r3, r4, r5, r6, r7]) rfl ⟨HB9.out, fun _ => rfl, fun h => by rw [HV.out] at h; cases h⟩
  · rw [h1] at hv
    have H1 := hide h1
    clear h1
    cases h2 : G.vGroups q.gs
    · rw [h2] at hv
      have hv' : v = false := hv.symm
      subst hv'
      have H2 := hide h2
      clear h2 hv
      go_wp2_with (first | (go_at_call 52; (with_reducible refine (validGates_any q A n c F m d _).mono ?_); rintro e w2 ⟨rfl, hb2⟩; rw [H1.out]; have HL2 := bkT hb2 HL; have HZ2 := bkT hb2 HZ; have HB2 := hide (zbT HB1.out hb2 HB1.out.size); clear hb2 q0 q1 q2 q3 q4 q5 lq) | (go_at_call 53; (with_reducible refine (takeGroups_any q L A n c F m d _ HGN.out hn HL2.out ((HRG.out.below HB2.out).mono HB2.out.size) HAL.out HID.out).mono ?_); rintro e w3 ⟨rfl, hg3, ⟨mp3, ov3, hl3⟩, hok3⟩; rw [H2.out]; have HL3 := hide hl3; have HOK := hide hok3; have HZ3 := bkG hg3 (by have := HE.out; simp; omega) HZ2; have HB3 := hide (HB2.out.trans (grown_below hg3 HB2.out.size (fun y hy => by have h5 := Option.some.inj hy; have := HE.out; omega))); clear hl3 hok3 hg3) | (refine wpList_store_row rfl 67 _ _ rfl b1 _ rfl rfl 67 _ HZ3.out lnRow rfl (by simp [Value.oneCell']) ?_))
      refine cap_w (M := bodyPost _ _ _ _ _) _ (fun W9 hW9 => ?_)
      have HR9 := hide (show W9.heap[b1]? = some (.cells #[.int .i64 0, .int .i64 0, .int .i64 0, .int .i64 0, .slice none 0 0, .slice none 0 0, .map none, .slice none 0 0] 67 (0, 0)) by rw [hW9]; exact setRow_heap _ _ _ _ _ _ HZ3.out)
      have HB9 := hide (show Below w.heap.size w W9 by rw [hW9]; exact below_row HB3.out (by have := HE.out; omega) _)
      have r0 : W9.cell? ⟨b1, 0, none⟩ = some (.int .i64 0) := (blk_cell HR9.out 0).trans rfl
      have r1 : W9.cell? ⟨b1, 1, none⟩ = some (.int .i64 0) := (blk_cell HR9.out 1).trans rfl
      have r2 : W9.cell? ⟨b1, 2, none⟩ = some (.int .i64 0) := (blk_cell HR9.out 2).trans rfl
      have r3 : W9.cell? ⟨b1, 3, none⟩ = some (.int .i64 0) := (blk_cell HR9.out 3).trans rfl
      have r4 : W9.cell? ⟨b1, 4, none⟩ = some (.slice none 0 0) := (blk_cell HR9.out 4).trans rfl
      have r5 : W9.cell? ⟨b1, 5, none⟩ = some (.slice none 0 0) := (blk_cell HR9.out 5).trans rfl
      have r6 : W9.cell? ⟨b1, 6, none⟩ = some (.map none) := (blk_cell HR9.out 6).trans rfl
      have r7 : W9.cell? ⟨b1, 7, none⟩ = some (.slice none 0 0) := (blk_cell HR9.out 7).trans rfl
      exact bodyPost_ret (v := .tuple #[.agg #[.int .i64 0, .int .i64 0, .int .i64 0, .int .i64 0, .slice none 0 0, .slice none 0 0, .map none, .slice none 0 0], .int .i64 110]) (by simp [results, Try.results36, go_sem, r0, r1, r2, r3, r4, r5, r6, r7]) rfl ⟨HB9.out, fun _ => rfl, fun h => by rw [HV.out] at h; cases h⟩
    · rw [h2] at hv
      have H2 := hide h2
      clear h2
      cases h3 : G.vFrees q.fs
      · rw [h3] at hv
        have hv' : v = false := hv.symm
        subst hv'
        have H3 := hide h3
        clear h3 hv
        go_wp2_with (first | (go_at_call 52; (with_reducible refine (validGates_any q A n c F m d _).mono ?_); rintro e w2 ⟨rfl, hb2⟩; rw [H1.out]; have HL2 := bkT hb2 HL; have HZ2 := bkT hb2 HZ; have HB2 := hide (zbT HB1.out hb2 HB1.out.size); clear hb2 q0 q1 q2 q3 q4 q5 lq) | (go_at_call 53; (with_reducible refine (takeGroups_any q L A n c F m d _ HGN.out hn HL2.out ((HRG.out.below HB2.out).mono HB2.out.size) HAL.out HID.out).mono ?_); rintro e w3 ⟨rfl, hg3, ⟨mp3, ov3, hl3⟩, hok3⟩; rw [H2.out]; have HL3 := hide hl3; have HOK := hide hok3; have HZ3 := bkG hg3 (by have := HE.out; simp; omega) HZ2; have HB3 := hide (HB2.out.trans (grown_below hg3 HB2.out.size (fun y hy => by have h5 := Option.some.inj hy; have := HE.out; omega))); clear hl3 hok3 hg3) | (go_at_call 54; (with_reducible refine (takeFrees_any q L A n c F m d mp3 ov3 _ HFN.out hm HL3.out ((HRF.out.below HB3.out).mono HB3.out.size) HF.out).mono ?_); rintro e w4 ⟨rfl, hg4, ⟨fv4, hl4⟩, hok4⟩; rw [H3.out]; have HL4 := hide hl4; have HOK4 := hide hok4; have HZ4 := bkG hg4 (by have := HE.out; simp; omega) HZ3; have HG4 := hide hg4; have HB4 := hide (HB3.out.trans (grown_below hg4 HB3.out.size (fun y hy => by have h5 := Option.some.inj hy; have := HE.out; omega))); clear hl4 hok4 hg4) | (refine wpList_store_row rfl 67 _ _ rfl b1 _ rfl rfl 67 _ HZ4.out lnRow rfl (by simp [Value.oneCell']) ?_))
        refine cap_w (M := bodyPost _ _ _ _ _) _ (fun W9 hW9 => ?_)
        have HR9 := hide (show W9.heap[b1]? = some (.cells #[.int .i64 0, .int .i64 0, .int .i64 0, .int .i64 0, .slice none 0 0, .slice none 0 0, .map none, .slice none 0 0] 67 (0, 0)) by rw [hW9]; exact setRow_heap _ _ _ _ _ _ HZ4.out)
        have HB9 := hide (show Below w.heap.size w W9 by rw [hW9]; exact below_row HB4.out (by have := HE.out; omega) _)
        have r0 : W9.cell? ⟨b1, 0, none⟩ = some (.int .i64 0) := (blk_cell HR9.out 0).trans rfl
        have r1 : W9.cell? ⟨b1, 1, none⟩ = some (.int .i64 0) := (blk_cell HR9.out 1).trans rfl
        have r2 : W9.cell? ⟨b1, 2, none⟩ = some (.int .i64 0) := (blk_cell HR9.out 2).trans rfl
        have r3 : W9.cell? ⟨b1, 3, none⟩ = some (.int .i64 0) := (blk_cell HR9.out 3).trans rfl
        have r4 : W9.cell? ⟨b1, 4, none⟩ = some (.slice none 0 0) := (blk_cell HR9.out 4).trans rfl
        have r5 : W9.cell? ⟨b1, 5, none⟩ = some (.slice none 0 0) := (blk_cell HR9.out 5).trans rfl
        have r6 : W9.cell? ⟨b1, 6, none⟩ = some (.map none) := (blk_cell HR9.out 6).trans rfl
        have r7 : W9.cell? ⟨b1, 7, none⟩ = some (.slice none 0 0) := (blk_cell HR9.out 7).trans rfl
        exact bodyPost_ret (v := .tuple #[.agg #[.int .i64 0, .int .i64 0, .int .i64 0, .int .i64 0, .slice none 0 0, .slice none 0 0, .map none, .slice none 0 0], .int .i64 110]) (by simp [results, Try.results36, go_sem, r0, r1, r2, r3, r4, r5, r6, r7]) rfl ⟨HB9.out, fun _ => rfl, fun h => by rw [HV.out] at h; cases h⟩
      · rw [h3] at hv
        have hv' : v = true := hv.symm
        subst hv'
        have H3 := hide h3
        clear h3 hv
        go_wp2_with (first | (go_at_call 52; (with_reducible refine (validGates_any q A n c F m d _).mono ?_); rintro e w2 ⟨rfl, hb2⟩; rw [H1.out]; have HL2 := bkT hb2 HL; have HZ2 := bkT hb2 HZ; have HB2 := hide (zbT HB1.out hb2 HB1.out.size); clear hb2 q0 q1 q2 q3 q4 q5 lq) | (go_at_call 53; (with_reducible refine (takeGroups_any q L A n c F m d _ HGN.out hn HL2.out ((HRG.out.below HB2.out).mono HB2.out.size) HAL.out HID.out).mono ?_); rintro e w3 ⟨rfl, hg3, _, hok3⟩; rw [H2.out]; obtain ⟨g, O, co, ord, Fn, kn, hl3, hge3, hM3, hT3, hO3, hp3, hs3⟩ := hok3 H2.out; have HL3 := hide hl3; have HGE3 := hide (show L < g from Nat.lt_of_lt_of_le (blk_lt HL2.out) hge3); have HOB3 := hide (show ∀ x, (Value.slice O n co).ownBlock = some x → L < x from fun x e => Nat.lt_of_lt_of_le (blk_lt HL2.out) (hO3.lt x e).1); have HM3 := hide hM3; have HT3 := hide hT3; have HO3 := hide hO3; have HP3 := hide hp3; have HS3 := hide hs3; have HZ3 := bkG hg3 (by have := HE.out; simp; omega) HZ2; have HB3 := hide (HB2.out.trans (grown_below hg3 HB2.out.size (fun y hy => by have h5 := Option.some.inj hy; have := HE.out; omega))); clear hl3 hok3 hg3 hge3 hM3 hT3 hO3 hp3 hs3) | (go_at_call 54; (with_reducible refine (takeFrees_any q L A n c F m d (.map (some g)) (.slice O n co) _ HFN.out hm HL3.out ((HRF.out.below HB3.out).mono HB3.out.size) HF.out).mono ?_); rintro e w4 ⟨rfl, hg4, _, hok4⟩; rw [H3.out]; obtain ⟨F2, d2, fs2, hl4, hp4, hs4, ho4⟩ := hok4 H3.out; have HL4 := hide hl4; have HP4 := hide hp4; have HS4 := hide hs4; have HOB4 := hide (show ∀ x, (Value.slice F2 m d2).ownBlock = some x → L < x from fun x e => Nat.lt_of_lt_of_le (blk_lt HL3.out) (ho4.lt x e).1); have HF4 := hide ho4; have HM4 := hide (HM3.out.kept hg4 (fun e => by have h5 := Option.some.inj e; have := HGE3.out; omega)); have HO4 := hide (HO3.out.kept hg4 (.inr fun e => by have := HOB3.out _ e; omega)); have HZ4 := bkG hg4 (by have := HE.out; simp; omega) HZ3; have HB4 := hide (HB3.out.trans (grown_below hg4 HB3.out.size (fun y hy => by have h5 := Option.some.inj hy; have := HE.out; omega))); clear hl4 hok4 hg4 hp4 hs4 ho4; have l0 : w4.cell? ⟨L, 0, none⟩ = some (.int .i64 q.opn) := (blk_cell HL4.out 0).trans rfl; have l1 : w4.cell? ⟨L, 1, none⟩ = some (.int .i64 q.lo) := (blk_cell HL4.out 1).trans rfl; have l2 : w4.cell? ⟨L, 2, none⟩ = some (.int .i64 q.hi) := (blk_cell HL4.out 2).trans rfl; have l3 : w4.cell? ⟨L, 3, none⟩ = some (.int .i64 q.seats) := (blk_cell HL4.out 3).trans rfl; have l4 : w4.cell? ⟨L, 4, none⟩ = some (.slice A n c) := (blk_cell HL4.out 4).trans rfl; have l5 : w4.cell? ⟨L, 5, none⟩ = some (.slice F2 m d2) := (blk_cell HL4.out 5).trans rfl; have l6 : w4.cell? ⟨L, 6, none⟩ = some (.map (some g)) := (blk_cell HL4.out 6).trans rfl; have l7 : w4.cell? ⟨L, 7, none⟩ = some (.slice O n co) := (blk_cell HL4.out 7).trans rfl; have lL := blk_lt HL4.out) | (refine wpList_store_row rfl 67 _ _ rfl b1 _ rfl rfl 67 _ HZ4.out lnRow rfl (by simp [Value.oneCell']) ?_))
        refine cap_w (M := bodyPost _ _ _ _ _) _ (fun W9 hW9 => ?_)
        have HR9 := hide (show W9.heap[b1]? = some (.cells #[.int .i64 q.opn, .int .i64 q.lo, .int .i64 q.hi, .int .i64 q.seats, .slice A n c, .slice F2 m d2, .map (some g), .slice O n co] 67 (0, 0)) by rw [hW9]; exact setRow_heap _ _ _ _ _ _ HZ4.out)
        have HB9 := hide (show Below w.heap.size w W9 by rw [hW9]; exact below_row HB4.out (by have := HE.out; omega) _)
        have hg9 : w4.grownBy W9 (some b1) := by rw [hW9]; exact setRow_grown _ _ _
        have r0 : W9.cell? ⟨b1, 0, none⟩ = some (.int .i64 q.opn) := (blk_cell HR9.out 0).trans rfl
        have r1 : W9.cell? ⟨b1, 1, none⟩ = some (.int .i64 q.lo) := (blk_cell HR9.out 1).trans rfl
        have r2 : W9.cell? ⟨b1, 2, none⟩ = some (.int .i64 q.hi) := (blk_cell HR9.out 2).trans rfl
        have r3 : W9.cell? ⟨b1, 3, none⟩ = some (.int .i64 q.seats) := (blk_cell HR9.out 3).trans rfl
        have r4 : W9.cell? ⟨b1, 4, none⟩ = some (.slice A n c) := (blk_cell HR9.out 4).trans rfl
        have r5 : W9.cell? ⟨b1, 5, none⟩ = some (.slice F2 m d2) := (blk_cell HR9.out 5).trans rfl
        have r6 : W9.cell? ⟨b1, 6, none⟩ = some (.map (some g)) := (blk_cell HR9.out 6).trans rfl
        have r7 : W9.cell? ⟨b1, 7, none⟩ = some (.slice O n co) := (blk_cell HR9.out 7).trans rfl
        have hval := G.valid_iff.1 HV.out
        have HO9 := HO4.out.kept hg9 (.inr fun e => by have := HOB3.out _ e; have := HE.out; omega)
        have HF9 := HF4.out.kept hg9 (.inr fun e => by have := HOB4.out _ e; have := HE.out; omega)
        have hol : ord.length = n := by rw [HP3.out.length_eq, List.length_range]
        refine bodyPost_ret (v := .tuple #[.agg #[.int .i64 q.opn, .int .i64 q.lo, .int .i64 q.hi, .int .i64 q.seats, .slice A n c, .slice F2 m d2, .map (some g), .slice O n co], .int .i64 0]) (by simp [results, Try.results36, go_sem, r0, r1, r2, r3, r4, r5, r6, r7]) rfl ⟨HB9.out, fun h => (by rw [HV.out] at h; cases h), fun _ => ⟨F2, d2, fs2, g, O, co, ord, Fn, kn, rfl, HP4.out, ?_, HM4.out.kept hg9 (fun e => by have h5 := Option.some.inj e; have := HGE3.out; have := HE.out; omega), HT3.out, by have := HGE3.out; have := HE.out; omega, fun b i e => (by have := HOB4.out b (by rw [e]; rfl); have := HE.out; omega), fun b i e => (by have := HOB3.out b (by rw [e]; rfl); have := HE.out; omega)⟩⟩
        exact ⟨G.valid_fs hval HP4.out, HGN.out, HP4.out.length_eq.trans HFN.out, hol, (HRG.out.below HB9.out).mono HB9.out.size, owns_RdF HF9 (HP4.out.length_eq.trans HFN.out), owns_RdI HO9 (by rw [List.length_map]; exact hol), HS4.out, G.ord_srt HGN.out hval.gn HP3.out HS3.out, HP3.out⟩
end Go.Proofs.Ytlpjkolocgkcpaa
