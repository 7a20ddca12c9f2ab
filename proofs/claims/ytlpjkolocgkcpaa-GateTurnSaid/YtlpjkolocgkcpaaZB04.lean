/-
  Part of a claim's texts: contracts of the program's functions and the plain functions that they compute, in build order.
-/
import Derived.Test.YtlpjkolocgkcpaaProg
import Derived.StillTail
import Derived.Deep.Cut
import Derived.Deep.CutRange
import Derived.Test.YtlpjkolocgkcpaaZB01
import Derived.Test.YtlpjkolocgkcpaaZB02
import Derived.Test.YtlpjkolocgkcpaaZB03
namespace Go.Proofs.Ytlpjkolocgkcpaa
open Go.RowKit
attribute [local go_sem ↓] Go.wp_at_zero Go.wp_at_succ

theorem open_in (q : G.Qu) (A : Option Addr) (n c : Nat) (F : Option Addr) (m d : Nat) (w : World) (h : QIn w q A n c F m d) : Calls Try.prog 36 #[.agg #[.int .i64 q.opn, .int .i64 q.lo, .int .i64 q.hi, .int .i64 q.seats, .slice A n c, .slice F m d]] w (OpenPost q A n c m w) :=
  open_any q A n c F m d w h.gl h.fl h.n1 h.m1 h.rg h.rf h.a h.f h.id

set_option maxHeartbeats 6400000 in
set_option maxRecDepth 100000 in
theorem Enter_any (q : G.Qu) (A : Option Addr) (n c : Nat) (F : Option Addr) (m d : Nat) (rate : Int) (w : World) (h : QIn w q A n c F m d) :
    Calls Try.prog 17 #[.agg #[.int .i64 q.opn, .int .i64 q.lo, .int .i64 q.hi, .int .i64 q.seats, .slice A n c, .slice F m d], .int .i64 rate] w fun e w' => IntsPost (G.enterV q rate) (G.enterE q rate) w e w' := by
  have HI := hide h
  clear h
  cases hv : G.valid q
  · have HV := hide hv
    have hE : G.enterE q rate = 110 := by unfold G.enterE; rw [hv]; rfl
    have hV : G.enterV q rate = [] := by unfold G.enterV; rw [if_neg (by rw [hE]; decide)]
    rw [hE, hV]
    clear hv hE hV
    go_enter Try.func17, Try.ntmps17
    go_wp2_with (go_at_call 36; (with_reducible refine (open_in q A n c F m d _ (HI.out.below (show Below w.heap.size w (w.alloc (.cells #[.int .i64 q.opn, .int .i64 q.lo, .int .i64 q.hi, .int .i64 q.seats, .slice A n c, .slice F m d] 27)) from zbA (zbR _ _) (Nat.le_refl _) _))).mono ?_); rintro e w2 ⟨hb2, hno, _⟩; obtain rfl := hno HV.out; have HB2 := hide (zbT (show Below w.heap.size w (w.alloc (.cells #[.int .i64 q.opn, .int .i64 q.lo, .int .i64 q.hi, .int .i64 q.seats, .slice A n c, .slice F m d] 27)) from zbA (zbR _ _) (Nat.le_refl _) _) hb2 (by simp)); clear hno hb2)
    go_ret2
    exact ⟨none, 0, rfl, ⟨rfl, .inl ⟨rfl, rfl⟩⟩, zbA HB2.out HB2.out.size _⟩
  · have HV := hide hv
    cases hw : G.within rate q.lo q.hi
    · have HW := hide hw
      have hE : G.enterE q rate = 1 := by unfold G.enterE; rw [hv, if_pos rfl, hw]; rfl
      have hV : G.enterV q rate = [] := by unfold G.enterV; rw [if_neg (by rw [hE]; decide)]
      rw [hE, hV]
      clear hv hE hV hw
      go_enter Try.func17, Try.ntmps17
      go_wp2_with (first | (go_at_call 36; (with_reducible refine (open_in q A n c F m d _ (HI.out.below (show Below w.heap.size w (w.alloc (.cells #[.int .i64 q.opn, .int .i64 q.lo, .int .i64 q.hi, .int .i64 q.seats, .slice A n c, .slice F m d] 27)) from zbA (zbR _ _) (Nat.le_refl _) _))).mono ?_); rintro e w2 ⟨hb2, _, hyes⟩; obtain ⟨F2, d2, fs2, g, O, co, ord, Fn, kn, rfl, hpf, hL, hM, hT⟩ := hyes HV.out; have HB2 := hide (zbT (show Below w.heap.size w (w.alloc (.cells #[.int .i64 q.opn, .int .i64 q.lo, .int .i64 q.hi, .int .i64 q.seats, .slice A n c, .slice F m d] 27)) from zbA (zbR _ _) (Nat.le_refl _) _) hb2 (by simp)); have HPF := hide hpf; have HL := hide hL; clear hyes hb2 hpf hL hM hT) | (go_at_call 38; (with_reducible refine (within_any rate q.lo q.hi _).mono ?_); rintro e w' ⟨rfl, rfl⟩; rw [HW.out]))
      go_ret2
      exact ⟨none, 0, rfl, ⟨rfl, .inl ⟨rfl, rfl⟩⟩, zbA HB2.out HB2.out.size _⟩
    · have HW := hide hw
      have hE : G.enterE q rate = 0 := by unfold G.enterE; rw [hv, if_pos rfl, hw]; rfl
      have hV : G.enterV q rate = G.enter q rate := by unfold G.enterV; rw [if_pos hE]
      have hr := hw
      unfold G.within at hr
      simp only [Bool.and_eq_true, decide_eq_true_eq] at hr
      have HR := hide hr
      have HLN := hide (show (G.enter q rate).length = n by rw [G.enter_len]; exact HI.out.gl)
      rw [hE, hV]
      clear hv hE hV hw hr
      go_enter Try.func17, Try.ntmps17
      go_wp2_with (first | (go_at_call 36; (with_reducible refine (open_in q A n c F m d _ (HI.out.below (show Below w.heap.size w (w.alloc (.cells #[.int .i64 q.opn, .int .i64 q.lo, .int .i64 q.hi, .int .i64 q.seats, .slice A n c, .slice F m d] 27)) from zbA (zbR _ _) (Nat.le_refl _) _))).mono ?_); rintro e w2 ⟨hb2, _, hyes⟩; obtain ⟨F2, d2, fs2, g, O, co, ord, Fn, kn, rfl, hpf, hL, hM, hT⟩ := hyes HV.out; have HB2 := hide (zbT (show Below w.heap.size w (w.alloc (.cells #[.int .i64 q.opn, .int .i64 q.lo, .int .i64 q.hi, .int .i64 q.seats, .slice A n c, .slice F m d] 27)) from zbA (zbR _ _) (Nat.le_refl _) _) hb2 (by simp)); have HPF := hide hpf; have HL := hide hL; clear hyes hb2 hpf hL hM hT) | (go_at_call 38; (with_reducible refine (within_any rate q.lo q.hi _).mono ?_); rintro e w' ⟨rfl, rfl⟩; rw [HW.out]) | (go_at_call 39; (with_reducible refine (enter_any { q with fs := fs2 } A n c F2 m d2 g O co ord rate _ (HL.out.below (zbA (zbR _ _) (Nat.le_refl _) _)) HR.out.1 HR.out.2).mono ?_); rintro e w5 ⟨A5, c5, rfl, ho5, hb5⟩; rw [G.enter_fs HPF.out, HLN.out] at ho5 ⊢))
      go_ret2
      unfold IntsPost
      rw [HLN.out]
      exact ⟨A5, c5, rfl, owns_mono ho5 (Nat.le_trans HB2.out.size (by simp)), zbT (zbA HB2.out HB2.out.size _) hb5 (Nat.le_trans HB2.out.size (by simp))⟩
end Go.Proofs.Ytlpjkolocgkcpaa

namespace Go.Proofs.Ytlpjkolocgkcpaa
open Go.RowKit Go.Shelf
attribute [local go_sem ↓] Go.wp_at_zero Go.wp_at_succ
attribute [local go_sem] Oper.semAt_some

namespace G
end G

end Go.Proofs.Ytlpjkolocgkcpaa

namespace Go.Proofs.Ytlpjkolocgkcpaa
open Go.RowKit Go.Shelf
attribute [local go_sem ↓] Go.wp_at_zero Go.wp_at_succ

namespace G
theorem minL_snoc {xs : List Int} {k : Nat} {y : Int} (hk : 1 ≤ k) (h : xs[k]? = some y) : minL (xs.take (k + 1)) = if y < minL (xs.take k) then y else minL (xs.take k) := by
  rw [List.take_add_one, h]
  match xs, k, hk, h with
  | [], k, _, h => simp at h
  | a :: r, k + 1, _, _ => (simp [minL, List.foldl_append]; try congr)
theorem maxL_snoc {xs : List Int} {k : Nat} {y : Int} (hk : 1 ≤ k) (h : xs[k]? = some y) : maxL (xs.take (k + 1)) = if maxL (xs.take k) < y then y else maxL (xs.take k) := by
  rw [List.take_add_one, h]
  match xs, k, hk, h with
  | [], k, _, h => simp at h
  | a :: r, k + 1, _, _ => (simp [maxL, List.foldl_append]; try congr)
end G

set_option maxHeartbeats 3200000 in
set_option maxRecDepth 100000 in
theorem min_any (A : Option Addr) (n c : Nat) (xs : List Int) (w : World) (hn : xs.length = n) (hr : RdI w w.heap.size A xs) (hm : n ≤ 1000000) (h1 : 1 ≤ n) :
    Calls Try.prog 57 #[.slice A n c] w fun e w' => e = .returned (.int .i64 (G.minL xs)) ∧ w = w' := by
  have HR := hide hr
  have HN := hide hn
  obtain ⟨x0, hx0⟩ : ∃ x, xs[0]? = some x := ⟨_, List.getElem?_eq_getElem (by omega)⟩
  obtain ⟨b, o, rfl, hb, c0'⟩ := hr 0 x0 hx0
  have c0 : w.cell? ⟨b, o, none⟩ = some (.int .i64 x0) := c0'
  clear c0'
  have E1 := hide (show G.minL (xs.take 1) = x0 by
    match xs, hx0 with
    | a :: r, h => simp at h; subst h; rfl)
  clear hr hn hx0
  go_enter Try.func57, Try.ntmps57
  have hn1 : ¬ ((n : Int) < 1) := by omega
  have hn0 : 0 < n := by omega
  go_wp2
  go_loopw [3, 4] (fun v i wr => ∃ k : Nat, 1 ≤ k ∧ k ≤ n ∧ i = .int .i64 (k : Int) ∧ v = .int .i64 (G.minL (xs.take k)) ∧ wr = w) (fun _ i _ => n - (intOf i).toNat)
  case atStart => exact ⟨1, by omega, by omega, rfl, by rw [E1.out], rfl⟩
  case round =>
    obtain ⟨k, hk1, hk, rfl, rfl, rfl⟩ := hrel
    by_cases hlt : k < n
    · obtain ⟨y, hy⟩ : ∃ y, xs[k]? = some y := ⟨_, List.getElem?_eq_getElem (by rw [HN.out]; exact hlt)⟩
      obtain ⟨_, _, e, _, ck⟩ := HR.out k y hy
      obtain ⟨rfl, rfl⟩ : _ = _ ∧ _ = _ := by simpa using e
      have HS := hide (G.minL_snoc hk1 hy)
      obtain ⟨mm, hmm⟩ : ∃ mm, G.minL (xs.take k) = mm := ⟨_, rfl⟩
      rw [hmm] at HS ⊢
      have hltI : (k : Int) < (n : Int) := by omega
      clear hy e hmm
      go_wp2
      go_roundw
      case rel => exact ⟨k + 1, by omega, by omega, by go_num, by first | (rw [HS.out]; done) | (rw [HS.out]; congr 1; split <;> omega), trivial⟩
      case measure => simp [intOf]; omega
    · have hkn : k = n := by omega
      subst hkn
      have EF := hide (show xs.take k = xs by rw [List.take_of_length_le (by rw [HN.out]; exact Nat.le_refl _)])
      rw [EF.out]
      go_wp2
      go_ret
      exact ⟨rfl, rfl⟩

set_option maxHeartbeats 3200000 in
set_option maxRecDepth 100000 in
theorem max_any (A : Option Addr) (n c : Nat) (xs : List Int) (w : World) (hn : xs.length = n) (hr : RdI w w.heap.size A xs) (hm : n ≤ 1000000) (h1 : 1 ≤ n) :
    Calls Try.prog 58 #[.slice A n c] w fun e w' => e = .returned (.int .i64 (G.maxL xs)) ∧ w = w' := by
  have HR := hide hr
  have HN := hide hn
  obtain ⟨x0, hx0⟩ : ∃ x, xs[0]? = some x := ⟨_, List.getElem?_eq_getElem (by omega)⟩
  obtain ⟨b, o, rfl, hb, c0'⟩ := hr 0 x0 hx0
  have c0 : w.cell? ⟨b, o, none⟩ = some (.int .i64 x0) := c0'
  clear c0'
  have E1 := hide (show G.maxL (xs.take 1) = x0 by
    match xs, hx0 with
    | a :: r, h => simp at h; subst h; rfl)
  clear hr hn hx0
  go_enter Try.func58, Try.ntmps58
  have hn1 : ¬ ((n : Int) < 1) := by omega
  have hn0 : 0 < n := by omega
  go_wp2
  go_loopw [3, 4] (fun v i wr => ∃ k : Nat, 1 ≤ k ∧ k ≤ n ∧ i = .int .i64 (k : Int) ∧ v = .int .i64 (G.maxL (xs.take k)) ∧ wr = w) (fun _ i _ => n - (intOf i).toNat)
  case atStart => exact ⟨1, by omega, by omega, rfl, by rw [E1.out], rfl⟩
  case round =>
    obtain ⟨k, hk1, hk, rfl, rfl, rfl⟩ := hrel
    by_cases hlt : k < n
    · obtain ⟨y, hy⟩ : ∃ y, xs[k]? = some y := ⟨_, List.getElem?_eq_getElem (by rw [HN.out]; exact hlt)⟩
      obtain ⟨_, _, e, _, ck⟩ := HR.out k y hy
      obtain ⟨rfl, rfl⟩ : _ = _ ∧ _ = _ := by simpa using e
      have HS := hide (G.maxL_snoc hk1 hy)
      obtain ⟨mm, hmm⟩ : ∃ mm, G.maxL (xs.take k) = mm := ⟨_, rfl⟩
      rw [hmm] at HS ⊢
      have hltI : (k : Int) < (n : Int) := by omega
      clear hy e hmm
      go_wp2
      go_roundw
      case rel => exact ⟨k + 1, by omega, by omega, by go_num, by first | (rw [HS.out]; done) | (rw [HS.out]; congr 1; split <;> omega), trivial⟩
      case measure => simp [intOf]; omega
    · have hkn : k = n := by omega
      subst hkn
      have EF := hide (show xs.take k = xs by rw [List.take_of_length_le (by rw [HN.out]; exact Nat.le_refl _)])
      rw [EF.out]
      go_wp2
      go_ret
      exact ⟨rfl, rfl⟩

set_option maxHeartbeats 3200000 in
set_option maxRecDepth 100000 in
theorem spanOf_any (A : Option Addr) (n c : Nat) (xs : List Int) (w : World) (hn : xs.length = n) (hr : RdI w w.heap.size A xs) (hm : n ≤ 1000000) (h1 : 1 ≤ n) :
    Calls Try.prog 41 #[.slice A n c] w fun e w' => e = .returned (.agg #[.int .i64 (G.minL xs), .int .i64 (G.maxL xs)]) ∧ Below w.heap.size w w' := by
  have HR := hide hr
  have HN := hide hn
  have HM := hide hm
  have H1 := hide h1
  clear hr hn hm h1
  go_enter Try.func41, Try.ntmps41
  have HB := hide (show Below w.heap.size w (w.alloc (.cells #[.int .i64 0, .int .i64 0] 23)) by (repeat' first | exact zbR _ _ | assumption | refine zbD ?_ | refine zbA ?_ ?_ _ | refine zbS ?_ ?_ _ | refine zbT ?_ (by assumption) ?_ | (simp; done) | (simp; omega) | omega))
  go_wp2_with (first | (go_at_call 57; refine (min_any A n c xs _ HN.out ((HR.out.below HB.out).mono HB.out.size) HM.out H1.out).mono ?_; rintro e w2 ⟨rfl, rfl⟩) | (go_at_call 58; refine (max_any A n c xs _ HN.out ((HR.out.below HB.out).mono HB.out.size) HM.out H1.out).mono ?_; rintro e w2 ⟨rfl, rfl⟩))
  exact bodyPost_ret (v := .agg #[.int .i64 (G.minL xs), .int .i64 (G.maxL xs)]) (by simp [results, Try.results41, go_sem]) rfl ⟨rfl, by (repeat' first | exact zbR _ _ | assumption | refine zbD ?_ | refine zbA ?_ ?_ _ | refine zbS ?_ ?_ _ | refine zbT ?_ (by assumption) ?_ | (simp; done) | (simp; omega) | omega)⟩
end Go.Proofs.Ytlpjkolocgkcpaa

namespace Go.Proofs.Ytlpjkolocgkcpaa
open Go.RowKit Go.Shelf
attribute [local go_sem ↓] Go.wp_at_zero Go.wp_at_succ

namespace G
theorem people_bd {q : Qu} (hv : Valid q) (k : Nat) : 0 ≤ ((q.gs.map (·.size)).take k).sum ∧ ((q.gs.map (·.size)).take k).sum ≤ 800 := by
  have h : ∀ (l : List Int), (∀ x ∈ l, 0 ≤ x ∧ x ≤ 20) → 0 ≤ l.sum ∧ l.sum ≤ 20 * l.length := by
    intro l
    induction l with
    | nil => intro _; simp
    | cons a r ih =>
      intro h
      have h1 := h a (List.mem_cons_self ..)
      have h2 := ih (fun x hx => h x (List.mem_cons_of_mem _ hx))
      rw [List.sum_cons, List.length_cons]
      omega
  have h1 := h ((q.gs.map (·.size)).take k) (fun x hx => by
    obtain ⟨p, hp, rfl⟩ := List.mem_map.1 (List.mem_of_mem_take hx)
    have hV := vParty_iff.1 (hv.gv _ hp)
    have := hV.z0
    have := hV.z1
    omega)
  have h2 : ((q.gs.map (·.size)).take k).length ≤ 40 := by
    rw [List.length_take, List.length_map]
    have := hv.gl
    omega
  omega
theorem people_all (q : Qu) {n : Nat} (h : q.gs.length = n) : ((q.gs.map (·.size)).take n).sum = people q.gs := by
  rw [List.take_of_length_le (by rw [List.length_map]; omega)]
  rfl
end G
theorem LineAt.more {w : World} {q : G.Qu} {A : Option Addr} {n c : Nat} {F : Option Addr} {m d : Nat} {O : Option Addr} {co : Nat} {ord : List Nat} (h : LineAt w q A n c F m d O co ord) {k : Nat} (hk : q.seats + (k : Int) ≤ 9999) : LineAt w { q with seats := q.seats + (k : Int) } A n c F m d O co ord :=
  ⟨⟨h.v.o0, h.v.o1, h.v.l0, h.v.lh, h.v.h1, by have := h.v.s0; show 0 ≤ q.seats + (k : Int); omega, hk, h.v.gl, h.v.gv, h.v.gn, h.v.fl, h.v.fv⟩, h.gl, h.fl, h.ol, h.rg, h.rf, h.ro, h.fs, h.os, h.op⟩

set_option maxHeartbeats 6400000 in
set_option maxRecDepth 100000 in
theorem enough_any (q : G.Qu) (A : Option Addr) (n c : Nat) (F : Option Addr) (m d : Nat) (B : Nat) (O : Option Addr) (co : Nat) (ord : List Nat) (g : Nat) (w : World) (hL : LineAt w q A n c F m d O co ord) (hg : g < n) :
    Calls Try.prog 48 #[.agg #[.int .i64 q.opn, .int .i64 q.lo, .int .i64 q.hi, .int .i64 q.seats, .slice A n c, .slice F m d, .map (some B), .slice O n co], .int .i64 (g : Int)] w fun e w' => e = .returned (.tuple #[.int .i64 ((G.enough q g).getD 0), .bool (G.enough q g).isSome]) ∧ Below w.heap.size w w' := by
  have HL := hide hL
  have HGN := hide hL.gl
  have hn40 : n ≤ 40 := by have := hL.v.gl; have := hL.gl; omega
  have hs0 := hL.v.s0
  have hs1 := hL.v.s1
  clear hL
  go_enter Try.func48, Try.ntmps48
  obtain ⟨p, hp⟩ : ∃ p, w.heap.size = p := ⟨_, rfl⟩
  obtain ⟨V, hV⟩ : ∃ V, w.alloc (.cells #[.int .i64 q.opn, .int .i64 q.lo, .int .i64 q.hi, .int .i64 q.seats, .slice A n c, .slice F m d, .map (some B), .slice O n co] 67) = V := ⟨_, rfl⟩
  have V0 := hide (show V.heap[p]? = some (.cells #[.int .i64 q.opn, .int .i64 q.lo, .int .i64 q.hi, .int .i64 q.seats, .slice A n c, .slice F m d, .map (some B), .slice O n co] 67 (0, 0)) by rw [← hV, ← hp]; exact World.alloc_heap_new _ _)
  have VB := hide (show Below w.heap.size w V by rw [← hV]; (repeat' first | exact zbR _ _ | assumption | refine zbD ?_ | refine zbA ?_ ?_ _ | refine zbS ?_ ?_ _ | refine zbT ?_ (by assumption) ?_ | (simp; done) | (simp; omega) | omega))
  go_upto_region 1 with fail
  (try rw [hV])
  clear hV
  have c4 : V.cell? ⟨p, 4, none⟩ = some (.slice A n c) := (blk_cell V0.out 4).trans rfl
  have lp := blk_lt V0.out
  go_wp2
  go_loopw [6, 15] (fun v i wr => ∃ k : Nat, k ≤ n ∧ i = .int .i64 (k : Int) ∧ v = .int .i64 ((q.gs.map (·.size)).take k).sum ∧ Hid (wr.heap[p]? = some (.cells #[.int .i64 q.opn, .int .i64 q.lo, .int .i64 q.hi, .int .i64 q.seats, .slice A n c, .slice F m d, .map (some B), .slice O n co] 67 (0, 0))) ∧ Hid (Below w.heap.size w wr)) (fun _ i _ => n - (intOf i).toNat)
  case atStart => exact ⟨0, by omega, rfl, rfl, V0, VB⟩
  case round =>
    clear c4 lp V0 VB
    obtain ⟨k, hk, rfl, rfl, V0, VB⟩ := hrel
    have lp := blk_lt V0.out
    by_cases hlt : k < n
    · obtain ⟨pt, hpt⟩ : ∃ pt, q.gs[k]? = some pt := ⟨_, List.getElem?_eq_getElem (by rw [HGN.out]; exact hlt)⟩
      obtain ⟨bg, og, rfl, hbg, d0, d1, d2, d3⟩ := (HL.out.rg.below VB.out) k pt hpt
      have lbg : bg < wr.heap.size := Nat.lt_of_lt_of_le hbg VB.out.size
      have hsum := sum_take (show (q.gs.map (·.size))[k]? = some pt.size by rw [List.getElem?_map, hpt]; rfl)
      obtain ⟨b0, b1⟩ := G.people_bd HL.out.v k
      have hV := G.vParty_iff.1 (HL.out.v.gv _ (List.mem_of_getElem? hpt))
      have hz0 := hV.z0
      have hz1 := hV.z1
      obtain ⟨ss, hss⟩ : ∃ ss, ((q.gs.map (·.size)).take k).sum = ss := ⟨_, rfl⟩
      rw [hss] at hsum b0 b1 ⊢
      have HSUM := hide hsum
      have hltI : (k : Int) < (n : Int) := by omega
      clear hV hpt hss hsum
      go_upto_region 5 with fail
      refine cap_w (M := Code.wp _ _ _ _) _ (fun w2 hw2 => ?_)
      have HB2 := hide (show Below wr.heap.size wr w2 by rw [hw2]; exact zbA (zbR _ _) (Nat.le_refl _) _)
      have HT2 := hide (show w2.heap[wr.heap.size]? = some (.cells #[.int .i64 pt.id, .int .i64 pt.at_, .int .i64 pt.size, .int .i64 pt.quits] 42 (0, 0)) by rw [hw2]; exact World.alloc_heap_new _ _)
      clear hw2 d0 d1 d2 d3
      have c2 : w2.cell? ⟨wr.heap.size, 2, none⟩ = some (.int .i64 pt.size) := (blk_cell HT2.out 2).trans rfl
      have l2 := blk_lt HT2.out
      go_wp2
      go_roundw
      case rel => exact ⟨k + 1, by omega, by go_num, by rw [HSUM.out], bkT HB2.out V0, hide (VB.out.trans (HB2.out.mono VB.out.size))⟩
      case measure => simp [intOf]; omega
    · have hkn : k = n := by omega
      subst hkn
      rw [G.people_all q HGN.out]
      have hpb := G.people_bd HL.out.v k
      rw [G.people_all q HGN.out] at hpb
      obtain ⟨P, hP⟩ : ∃ P, G.people q.gs = P := ⟨_, rfl⟩
      rw [hP] at hpb ⊢
      have HP := hide hP
      obtain ⟨b0, b1⟩ := hpb
      have c3 : wr.cell? ⟨p, 3, none⟩ = some (.int .i64 q.seats) := (blk_cell V0.out 3).trans rfl
      have lp := blk_lt V0.out
      clear hP
      obtain ⟨N, hN⟩ : ∃ N : Nat, (max (P - q.seats) 0) + 1 = (N : Int) := ⟨((max (P - q.seats) 0) + 1).toNat, by omega⟩
      have HE0 := hide (show G.enoughF q g N 0 = G.enough q g by
        unfold G.enough
        rw [HP.out, hN]
        rfl)
      have hN8 : q.seats + (N : Int) ≤ 10000 := by omega
      clear lp
      by_cases hps : 0 < P - q.seats
      · have hx1 : max (P - q.seats) 0 = P - q.seats := by omega
        have hx2 : (if P - q.seats < 0 then 0 else P - q.seats) = P - q.seats := if_neg (by omega)
        go_wp2
        have HNv := hide (show P - q.seats + 1 = (N : Int) by omega)
        have HN8 := hide hN8
        clear c3 hN hN8 hx1 hx2
        go_loopw [4, 5, 31] (fun v4 v5 i wr => ∃ j : Nat, j ≤ N ∧ i = .int .i64 (j : Int) ∧ v4 = .int .i64 0 ∧ v5 = .bool false ∧ Hid (G.enoughF q g (N - j) (j : Int) = G.enough q g) ∧ Hid (wr.heap[p]? = some (.cells #[.int .i64 q.opn, .int .i64 q.lo, .int .i64 q.hi, .int .i64 q.seats, .slice A k c, .slice F m d, .map (some B), .slice O k co] 67 (0, 0))) ∧ Hid (Below w.heap.size w wr)) (fun _ _ i _ => N - (intOf i).toNat)
        case atStart => exact ⟨0, by omega, rfl, rfl, rfl, HE0, V0, VB⟩
        case round =>
          clear V0 VB HE0
          obtain ⟨j, hj, rfl, rfl, rfl, HE, V0, VB⟩ := hrel
          have lp := blk_lt V0.out
          by_cases hlt : j < N
          · have hltI : (j : Int) < P - q.seats + 1 := by have := HNv.out; omega
            have h98 : q.seats + (j : Int) ≤ 9999 := by have := HN8.out; omega
            have hv0 := V0.out
            have cp0 := (blk_cell hv0 0).trans rfl; have cp1 := (blk_cell hv0 1).trans rfl; have cp2 := (blk_cell hv0 2).trans rfl; have cp3 := (blk_cell hv0 3).trans rfl; have cp4 := (blk_cell hv0 4).trans rfl; have cp5 := (blk_cell hv0 5).trans rfl; have cp6 := (blk_cell hv0 6).trans rfl; have cp7 := (blk_cell hv0 7).trans rfl
            have HSTEP := hide (show (if G.always { q with seats := q.seats + (j : Int) } g then some (j : Int) else G.enoughF q g (N - (j + 1)) ((j : Int) + 1)) = G.enough q g by
              have h := HE.out
              rw [show N - j = (N - (j + 1)) + 1 by omega] at h
              exact h)
            clear HE hv0
            go_upto_region 11 with fail
            refine cap_w (M := Code.wp _ _ _ _) _ (fun w2 hw2 => ?_)
            have HB2 := hide (show Below wr.heap.size wr w2 by rw [hw2]; exact zbA (zbR _ _) (Nat.le_refl _) _)
            have HT2 := hide (show w2.heap[wr.heap.size]? = some (.cells #[.int .i64 q.opn, .int .i64 q.lo, .int .i64 q.hi, .int .i64 q.seats, .slice A k c, .slice F m d, .map (some B), .slice O k co] 67 (0, 0)) by rw [hw2]; exact World.alloc_heap_new _ _)
            have V2 := bkT HB2.out V0
            have VB2 := hide (VB.out.trans (HB2.out.mono VB.out.size))
            have HQ0 := hide (show w.heap.size ≤ wr.heap.size from VB.out.size)
            have HQP := hide (show p ≠ wr.heap.size by omega)
            obtain ⟨x, hx⟩ : ∃ x, wr.heap.size = x := ⟨_, rfl⟩
            rw [hx] at HT2 HQ0 HQP ⊢
            clear hw2 hx cp0 cp1 cp2 cp3 cp4 cp5 cp6 cp7 lp
            have d3 : w2.cell? ⟨x, 3, none⟩ = some (.int .i64 q.seats) := (blk_cell HT2.out 3).trans rfl
            have f3 := blk_frozen HT2.out 3
            have l3 := blk_lt HT2.out
            go_upto_region 12 with fail
            refine cap_w (M := Code.wp _ _ _ _) _ (fun w3 hw3 => ?_)
            have HT3 := hide (show w3.heap[x]? = some (.cells #[.int .i64 q.opn, .int .i64 q.lo, .int .i64 q.hi, .int .i64 (q.seats + (j : Int)), .slice A k c, .slice F m d, .map (some B), .slice O k co] 67 (0, 0)) by rw [hw3]; exact blk_set HT2.out 3 _)
            have V3 := hide (show w3.heap[p]? = some (.cells #[.int .i64 q.opn, .int .i64 q.lo, .int .i64 q.hi, .int .i64 q.seats, .slice A k c, .slice F m d, .map (some B), .slice O k co] 67 (0, 0)) by rw [hw3]; exact blk_other V2.out HQP.out 3 _)
            have VB3 := hide (show Below w.heap.size w w3 by rw [hw3]; exact zbS VB2.out HQ0.out _)
            clear hw3 d3 f3 l3 HT2 V2 VB2 HB2
            have ht3 := HT3.out
            have cp0 := (blk_cell ht3 0).trans rfl; have cp1 := (blk_cell ht3 1).trans rfl; have cp2 := (blk_cell ht3 2).trans rfl; have cp3 := (blk_cell ht3 3).trans rfl; have cp4 := (blk_cell ht3 4).trans rfl; have cp5 := (blk_cell ht3 5).trans rfl; have cp6 := (blk_cell ht3 6).trans rfl; have cp7 := (blk_cell ht3 7).trans rfl
            have lx := blk_lt ht3
            have HAL := hide (always_any { q with seats := q.seats + (j : Int) } A k c F m d B O co ord g w3 ((HL.out.below VB3.out).more (by omega)) hg)
            obtain ⟨al, hal⟩ : ∃ al, G.always { q with seats := q.seats + (j : Int) } g = al := ⟨_, rfl⟩
            rw [hal] at HSTEP HAL
            clear ht3 hal
            cases al
            · go_wp2_with (go_at_call 61; (refine HAL.out.mono ?_); rintro e w4 ⟨rfl, hb4⟩; have HB4 := hide hb4; clear hb4)
              go_roundw
              case rel => exact ⟨j + 1, by omega, by go_num, rfl, rfl, hide (by have h := HSTEP.out; rw [if_neg (by decide)] at h; exact h), bkT HB4.out V3, hide (VB3.out.trans (HB4.out.mono VB3.out.size))⟩
              case measure => simp [intOf]; omega
            · go_wp2_with (go_at_call 61; (refine HAL.out.mono ?_); rintro e w4 ⟨rfl, hb4⟩; have HB4 := hide hb4; clear hb4)
              go_ret2
              have h : G.enough q g = some (j : Int) := by rw [← HSTEP.out]; rfl
              exact ⟨by first | rfl | (rw [h]; rfl), by first | exact VB3.out.trans (HB4.out.mono VB3.out.size) | exact hp ▸ VB3.out.trans (HB4.out.mono VB3.out.size)⟩
          · have hjn : j = N := by omega
            have h : G.enough q g = none := by
              rw [← HE.out, hjn, Nat.sub_self]
              rfl
            have hge : ¬ ((j : Int) < P - q.seats + 1) := by have := HNv.out; omega
            go_wp2
            go_ret2
            exact ⟨by first | rfl | (rw [h]; rfl), by first | exact VB.out | exact hp ▸ VB.out⟩
      · have hps' : P - q.seats ≤ 0 := by omega
        have hx1 : max (P - q.seats) 0 = 0 := by omega
        have hx2 : (if P - q.seats < 0 then 0 else P - q.seats) = 0 := by split <;> omega
        clear hps
        go_wp2
        have HNv := hide (show 1 = (N : Int) by omega)
        have HN8 := hide hN8
        clear c3 hN hN8 hx1 hx2
        go_loopw [4, 5, 31] (fun v4 v5 i wr => ∃ j : Nat, j ≤ N ∧ i = .int .i64 (j : Int) ∧ v4 = .int .i64 0 ∧ v5 = .bool false ∧ Hid (G.enoughF q g (N - j) (j : Int) = G.enough q g) ∧ Hid (wr.heap[p]? = some (.cells #[.int .i64 q.opn, .int .i64 q.lo, .int .i64 q.hi, .int .i64 q.seats, .slice A k c, .slice F m d, .map (some B), .slice O k co] 67 (0, 0))) ∧ Hid (Below w.heap.size w wr)) (fun _ _ i _ => N - (intOf i).toNat)
        case atStart => exact ⟨0, by omega, rfl, rfl, rfl, HE0, V0, VB⟩
        case round =>
          clear V0 VB HE0
          obtain ⟨j, hj, rfl, rfl, rfl, HE, V0, VB⟩ := hrel
          have lp := blk_lt V0.out
          by_cases hlt : j < N
          · have hltI : (j : Int) < 1 := by have := HNv.out; omega
            have h98 : q.seats + (j : Int) ≤ 9999 := by have := HN8.out; omega
            have hv0 := V0.out
            have cp0 := (blk_cell hv0 0).trans rfl; have cp1 := (blk_cell hv0 1).trans rfl; have cp2 := (blk_cell hv0 2).trans rfl; have cp3 := (blk_cell hv0 3).trans rfl; have cp4 := (blk_cell hv0 4).trans rfl; have cp5 := (blk_cell hv0 5).trans rfl; have cp6 := (blk_cell hv0 6).trans rfl; have cp7 := (blk_cell hv0 7).trans rfl
            have HSTEP := hide (show (if G.always { q with seats := q.seats + (j : Int) } g then some (j : Int) else G.enoughF q g (N - (j + 1)) ((j : Int) + 1)) = G.enough q g by
              have h := HE.out
              rw [show N - j = (N - (j + 1)) + 1 by omega] at h
              exact h)
            clear HE hv0
            go_upto_region 11 with fail
            refine cap_w (M := Code.wp _ _ _ _) _ (fun w2 hw2 => ?_)
            have HB2 := hide (show Below wr.heap.size wr w2 by rw [hw2]; exact zbA (zbR _ _) (Nat.le_refl _) _)
            have HT2 := hide (show w2.heap[wr.heap.size]? = some (.cells #[.int .i64 q.opn, .int .i64 q.lo, .int .i64 q.hi, .int .i64 q.seats, .slice A k c, .slice F m d, .map (some B), .slice O k co] 67 (0, 0)) by rw [hw2]; exact World.alloc_heap_new _ _)
            have V2 := bkT HB2.out V0
            have VB2 := hide (VB.out.trans (HB2.out.mono VB.out.size))
            have HQ0 := hide (show w.heap.size ≤ wr.heap.size from VB.out.size)
            have HQP := hide (show p ≠ wr.heap.size by omega)
            obtain ⟨x, hx⟩ : ∃ x, wr.heap.size = x := ⟨_, rfl⟩
            rw [hx] at HT2 HQ0 HQP ⊢
            clear hw2 hx cp0 cp1 cp2 cp3 cp4 cp5 cp6 cp7 lp
            have d3 : w2.cell? ⟨x, 3, none⟩ = some (.int .i64 q.seats) := (blk_cell HT2.out 3).trans rfl
            have f3 := blk_frozen HT2.out 3
            have l3 := blk_lt HT2.out
            go_upto_region 12 with fail
            refine cap_w (M := Code.wp _ _ _ _) _ (fun w3 hw3 => ?_)
            have HT3 := hide (show w3.heap[x]? = some (.cells #[.int .i64 q.opn, .int .i64 q.lo, .int .i64 q.hi, .int .i64 (q.seats + (j : Int)), .slice A k c, .slice F m d, .map (some B), .slice O k co] 67 (0, 0)) by rw [hw3]; exact blk_set HT2.out 3 _)
            have V3 := hide (show w3.heap[p]? = some (.cells #[.int .i64 q.opn, .int .i64 q.lo, .int .i64 q.hi, .int .i64 q.seats, .slice A k c, .slice F m d, .map (some B), .slice O k co] 67 (0, 0)) by rw [hw3]; exact blk_other V2.out HQP.out 3 _)
            have VB3 := hide (show Below w.heap.size w w3 by rw [hw3]; exact zbS VB2.out HQ0.out _)
            clear hw3 d3 f3 l3 HT2 V2 VB2 HB2
            have ht3 := HT3.out
            have cp0 := (blk_cell ht3 0).trans rfl; have cp1 := (blk_cell ht3 1).trans rfl; have cp2 := (blk_cell ht3 2).trans rfl; have cp3 := (blk_cell ht3 3).trans rfl; have cp4 := (blk_cell ht3 4).trans rfl; have cp5 := (blk_cell ht3 5).trans rfl; have cp6 := (blk_cell ht3 6).trans rfl; have cp7 := (blk_cell ht3 7).trans rfl
            have lx := blk_lt ht3
            have HAL := hide (always_any { q with seats := q.seats + (j : Int) } A k c F m d B O co ord g w3 ((HL.out.below VB3.out).more (by omega)) hg)
            obtain ⟨al, hal⟩ : ∃ al, G.always { q with seats := q.seats + (j : Int) } g = al := ⟨_, rfl⟩
            rw [hal] at HSTEP HAL
            clear ht3 hal
            cases al
            · go_wp2_with (go_at_call 61; (refine HAL.out.mono ?_); rintro e w4 ⟨rfl, hb4⟩; have HB4 := hide hb4; clear hb4)
              go_roundw
              case rel => exact ⟨j + 1, by omega, by go_num, rfl, rfl, hide (by have h := HSTEP.out; rw [if_neg (by decide)] at h; exact h), bkT HB4.out V3, hide (VB3.out.trans (HB4.out.mono VB3.out.size))⟩
              case measure => simp [intOf]; omega
            · go_wp2_with (go_at_call 61; (refine HAL.out.mono ?_); rintro e w4 ⟨rfl, hb4⟩; have HB4 := hide hb4; clear hb4)
              go_ret2
              have h : G.enough q g = some (j : Int) := by rw [← HSTEP.out]; rfl
              exact ⟨by first | rfl | (rw [h]; rfl), by first | exact VB3.out.trans (HB4.out.mono VB3.out.size) | exact hp ▸ VB3.out.trans (HB4.out.mono VB3.out.size)⟩
          · have hjn : j = N := by omega
            have h : G.enough q g = none := by
              rw [← HE.out, hjn, Nat.sub_self]
              rfl
            have hge : ¬ ((j : Int) < 1) := by have := HNv.out; omega
            go_wp2
            go_ret2
            exact ⟨by first | rfl | (rw [h]; rfl), by first | exact VB.out | exact hp ▸ VB.out⟩
end Go.Proofs.Ytlpjkolocgkcpaa

namespace Go.Proofs.Ytlpjkolocgkcpaa
open Go.RowKit
attribute [local go_sem ↓] Go.wp_at_zero Go.wp_at_succ

set_option maxHeartbeats 3200000 in
set_option maxRecDepth 100000 in
theorem People_ref (q : G.Qu) (A : Option Addr) (n c : Nat) (F : Option Addr) (m d : Nat) (w : World) (h : QIn w q A n c F m d) (hv : G.Valid q) :
    Calls Try.prog 32 #[.agg #[.int .i64 q.opn, .int .i64 q.lo, .int .i64 q.hi, .int .i64 q.seats, .slice A n c, .slice F m d]] w fun e w' => e = .returned (.int .i64 (G.people q.gs)) ∧ Below w.heap.size w w' := by
  have HI := hide h
  have HV := hide hv
  have hn40 : n ≤ 40 := by have := hv.gl; have := h.gl; omega
  clear h hv
  go_enter Try.func32, Try.ntmps32
  go_upto_region 1 with fail
  refine cap_w (M := Code.wp _ _ _ _) _ (fun w1 hw1 => ?_)
  have HB1 := hide (show Below w.heap.size w w1 by rw [hw1]; (repeat' first | exact zbR _ _ | assumption | refine zbD ?_ | refine zbA ?_ ?_ _ | refine zbS ?_ ?_ _ | refine zbT ?_ (by assumption) ?_ | (simp; done) | (simp; omega) | omega))
  have HQ := hide (show w1.heap[w.heap.size]? = some (.cells #[.int .i64 q.opn, .int .i64 q.lo, .int .i64 q.hi, .int .i64 q.seats, .slice A n c, .slice F m d] 27 (0, 0)) by rw [hw1]; exact World.alloc_heap_new _ _)
  have HR := hide ((HI.out.below HB1.out).rg)
  clear hw1
  obtain ⟨b0, hb0⟩ : ∃ x, w.heap.size = x := ⟨_, rfl⟩
  have HE0 := hide hb0
  rw [hb0] at HQ ⊢
  clear hb0
  have q4 : w1.cell? ⟨b0, 4, none⟩ = some (.slice A n c) := (blk_cell HQ.out 4).trans rfl
  have lq := blk_lt HQ.out
  go_wp2
  go_loopw [3, 4] (fun v i wr => ∃ k : Nat, k ≤ n ∧ i = .int .i64 (k : Int) ∧ v = .int .i64 ((q.gs.map (·.size)).take k).sum ∧ wr = w1) (fun _ i _ => n - (intOf i).toNat)
  case atStart => exact ⟨0, by omega, rfl, rfl, rfl⟩
  case round =>
    obtain ⟨k, hk, rfl, rfl, rfl⟩ := hrel
    by_cases hlt : k < n
    · obtain ⟨pt, hpt⟩ : ∃ pt, q.gs[k]? = some pt := ⟨_, List.getElem?_eq_getElem (by rw [HI.out.gl]; exact hlt)⟩
      obtain ⟨bg, og, rfl, hbg, _, _, d2, _⟩ := HR.out k pt hpt
      have hsum := sum_take (show (q.gs.map (·.size))[k]? = some pt.size by rw [List.getElem?_map, hpt]; rfl)
      obtain ⟨b0', b1'⟩ := G.people_bd HV.out k
      have hV := G.vParty_iff.1 (HV.out.gv _ (List.mem_of_getElem? hpt))
      have hz0 := hV.z0
      have hz1 := hV.z1
      obtain ⟨ss, hss⟩ : ∃ ss, ((q.gs.map (·.size)).take k).sum = ss := ⟨_, rfl⟩
      rw [hss] at hsum b0' b1' ⊢
      have HSUM := hide hsum
      have hltI : (k : Int) < (n : Int) := by omega
      clear hV hpt hss hsum
      go_wp2
      go_roundw
      case rel => exact ⟨k + 1, by omega, by go_num, by rw [HSUM.out], trivial⟩
      case measure => simp [intOf]; omega
    · have hkn : k = n := by omega
      subst hkn
      rw [G.people_all q HI.out.gl]
      go_wp2
      go_ret
      exact ⟨rfl, HB1.out⟩
end Go.Proofs.Ytlpjkolocgkcpaa

namespace Go.Proofs.Ytlpjkolocgkcpaa
open Go.RowKit
attribute [local go_sem ↓] Go.wp_at_zero Go.wp_at_succ

namespace G
def far (q : Qu) : Bool := valid q && (decide (3 < q.hi - q.lo) || decide (6 < q.gs.length) || decide (24 < people q.gs))
def rdy (q : Qu) (rate : Int) : Bool := !far q && valid q && decide (q.lo ≤ rate) && decide (rate ≤ q.hi)
structure Rdy (q : Qu) (rate : Int) : Prop where
  v : Valid q
  far : q.hi - q.lo ≤ 3
  g6 : q.gs.length ≤ 6
  p24 : people q.gs ≤ 24
  r0 : q.lo ≤ rate
  r1 : rate ≤ q.hi
theorem rdy_get {q : Qu} {rate : Int} (h : rdy q rate = true) : Rdy q rate := by
  unfold rdy G.far at h
  simp only [Bool.and_eq_true, Bool.not_eq_true', decide_eq_true_eq] at h
  obtain ⟨⟨⟨h1, h2⟩, h3⟩, h4⟩ := h
  rw [h2, Bool.true_and] at h1
  simp only [Bool.or_eq_false_iff, decide_eq_false_iff_not, Nat.not_lt, Int.not_lt] at h1
  exact ⟨valid_iff.1 h2, by omega, h1.1.2, h1.2, h3, h4⟩
end G
set_option maxHeartbeats 3200000 in
set_option maxRecDepth 100000 in
theorem far_long (q : G.Qu) (A : Option Addr) (n c : Nat) (F : Option Addr) (m d : Nat) (w : World) (h : 100 < n ∨ 100 < m) :
    Calls Try.prog 12 #[.agg #[.int .i64 q.opn, .int .i64 q.lo, .int .i64 q.hi, .int .i64 q.seats, .slice A n c, .slice F m d]] w fun e w' => e = .returned (.bool true) ∧ Below w.heap.size w w' := by
  by_cases h1 : 100 < n
  · have h1' : (100 : Int) < (n : Int) := by omega
    clear h h1
    go_enter Try.func12, Try.ntmps12
    go_wp2_with fail
    go_ret
    exact ⟨rfl, by (repeat' first | exact zbR _ _ | assumption | refine zbD ?_ | refine zbA ?_ ?_ _ | refine zbS ?_ ?_ _ | refine zbT ?_ (by assumption) ?_ | (simp; done) | (simp; omega) | omega)⟩
  · have h1' : (n : Int) ≤ 100 := by omega
    have h2' : (100 : Int) < (m : Int) := by omega
    clear h h1
    go_enter Try.func12, Try.ntmps12
    go_wp2_with fail
    go_ret
    exact ⟨rfl, by (repeat' first | exact zbR _ _ | assumption | refine zbD ?_ | refine zbA ?_ ?_ _ | refine zbS ?_ ?_ _ | refine zbT ?_ (by assumption) ?_ | (simp; done) | (simp; omega) | omega)⟩
set_option maxHeartbeats 3200000 in
set_option maxRecDepth 100000 in
theorem Far_any (q : G.Qu) (A : Option Addr) (n c : Nat) (F : Option Addr) (m d : Nat) (w : World) (h : QIn w q A n c F m d) (hn : n ≤ 100) (hm : m ≤ 100) :
    Calls Try.prog 12 #[.agg #[.int .i64 q.opn, .int .i64 q.lo, .int .i64 q.hi, .int .i64 q.seats, .slice A n c, .slice F m d]] w fun e w' => e = .returned (.bool (G.far q)) ∧ Below w.heap.size w w' := by
  have HI := hide h
  have hn' : (n : Int) ≤ 100 := by omega
  have hm' : (m : Int) ≤ 100 := by omega
  clear h
  cases hv : G.valid q
  · have HV := hide hv
    have HE := hide (show G.checkE q = 110 by unfold G.checkE; rw [hv]; rfl)
    have HR := hide (show G.far q = false by unfold G.far; rw [hv]; rfl)
    clear hv
    go_enter Try.func12, Try.ntmps12
    go_wp2_with (go_at_call 16; (with_reducible refine (Check_ref q A n c F m d _ (HI.out.below (show Below w.heap.size w _ by (repeat' first | exact zbR _ _ | assumption | refine zbD ?_ | refine zbA ?_ ?_ _ | refine zbS ?_ ?_ _ | refine zbT ?_ (by assumption) ?_ | (simp; done) | (simp; omega) | omega)))).mono ?_); rintro e w2 ⟨rfl, hb2⟩; rw [HE.out]; have HB2 := hide (zbT (show Below w.heap.size w _ by (repeat' first | exact zbR _ _ | assumption | refine zbD ?_ | refine zbA ?_ ?_ _ | refine zbS ?_ ?_ _ | refine zbT ?_ (by assumption) ?_ | (simp; done) | (simp; omega) | omega)) hb2 (by simp)); have HQ2 := hide ((hb2.block _ (by simp)).trans (World.alloc_heap_new w (.cells #[.int .i64 q.opn, .int .i64 q.lo, .int .i64 q.hi, .int .i64 q.seats, .slice A n c, .slice F m d] 27 (0, 0)))); clear hb2)
    go_ret
    exact ⟨by rw [HR.out]; first | rfl | (simp; omega), HB2.out⟩
  · have HV := hide hv
    have HE := hide (show G.checkE q = 0 by unfold G.checkE; rw [hv]; rfl)
    have hV := G.valid_iff.1 hv
    have hw : IntKind.i64.wrap (q.hi - q.lo) = q.hi - q.lo := IntWalk.i64_in _ (by have := hV.l0; have := hV.lh; have := hV.h1; omega)
    have HGL := hide HI.out.gl
    clear hv hV
    by_cases h3 : 3 < q.hi - q.lo
    · have HR := hide (show G.far q = true by unfold G.far; rw [HV.out]; simp [h3])
      go_enter Try.func12, Try.ntmps12
      go_upto_region 3 with fail
      go_wp2_with (go_at_call 16; (with_reducible refine (Check_ref q A n c F m d _ (HI.out.below (show Below w.heap.size w _ by (repeat' first | exact zbR _ _ | assumption | refine zbD ?_ | refine zbA ?_ ?_ _ | refine zbS ?_ ?_ _ | refine zbT ?_ (by assumption) ?_ | (simp; done) | (simp; omega) | omega)))).mono ?_); rintro e w2 ⟨rfl, hb2⟩; rw [HE.out]; have HB2 := hide (zbT (show Below w.heap.size w _ by (repeat' first | exact zbR _ _ | assumption | refine zbD ?_ | refine zbA ?_ ?_ _ | refine zbS ?_ ?_ _ | refine zbT ?_ (by assumption) ?_ | (simp; done) | (simp; omega) | omega)) hb2 (by simp)); have HQ2 := hide ((hb2.block _ (by simp)).trans (World.alloc_heap_new w (.cells #[.int .i64 q.opn, .int .i64 q.lo, .int .i64 q.hi, .int .i64 q.seats, .slice A n c, .slice F m d] 27 (0, 0)))); clear hb2; have q0 : w2.cell? ⟨w.heap.size, 0, none⟩ = some (.int .i64 q.opn) := (blk_cell HQ2.out 0).trans rfl; have q1 : w2.cell? ⟨w.heap.size, 1, none⟩ = some (.int .i64 q.lo) := (blk_cell HQ2.out 1).trans rfl; have q2 : w2.cell? ⟨w.heap.size, 2, none⟩ = some (.int .i64 q.hi) := (blk_cell HQ2.out 2).trans rfl; have q3 : w2.cell? ⟨w.heap.size, 3, none⟩ = some (.int .i64 q.seats) := (blk_cell HQ2.out 3).trans rfl; have q4 : w2.cell? ⟨w.heap.size, 4, none⟩ = some (.slice A n c) := (blk_cell HQ2.out 4).trans rfl; have q5 : w2.cell? ⟨w.heap.size, 5, none⟩ = some (.slice F m d) := (blk_cell HQ2.out 5).trans rfl; have lq := blk_lt HQ2.out)
      go_ret
      exact ⟨by rw [HR.out]; first | rfl | (simp; omega), HB2.out⟩
    · have h3' : q.hi - q.lo ≤ 3 := by omega
      by_cases h6 : 6 < n
      · have HR := hide (show G.far q = true by unfold G.far; rw [HV.out, HGL.out]; simp [h6])
        have h6' : (6 : Int) < (n : Int) := by omega
        clear h3
        go_enter Try.func12, Try.ntmps12
        go_upto_region 3 with fail
        go_wp2_with (go_at_call 16; (with_reducible refine (Check_ref q A n c F m d _ (HI.out.below (show Below w.heap.size w _ by (repeat' first | exact zbR _ _ | assumption | refine zbD ?_ | refine zbA ?_ ?_ _ | refine zbS ?_ ?_ _ | refine zbT ?_ (by assumption) ?_ | (simp; done) | (simp; omega) | omega)))).mono ?_); rintro e w2 ⟨rfl, hb2⟩; rw [HE.out]; have HB2 := hide (zbT (show Below w.heap.size w _ by (repeat' first | exact zbR _ _ | assumption | refine zbD ?_ | refine zbA ?_ ?_ _ | refine zbS ?_ ?_ _ | refine zbT ?_ (by assumption) ?_ | (simp; done) | (simp; omega) | omega)) hb2 (by simp)); have HQ2 := hide ((hb2.block _ (by simp)).trans (World.alloc_heap_new w (.cells #[.int .i64 q.opn, .int .i64 q.lo, .int .i64 q.hi, .int .i64 q.seats, .slice A n c, .slice F m d] 27 (0, 0)))); clear hb2; have q0 : w2.cell? ⟨w.heap.size, 0, none⟩ = some (.int .i64 q.opn) := (blk_cell HQ2.out 0).trans rfl; have q1 : w2.cell? ⟨w.heap.size, 1, none⟩ = some (.int .i64 q.lo) := (blk_cell HQ2.out 1).trans rfl; have q2 : w2.cell? ⟨w.heap.size, 2, none⟩ = some (.int .i64 q.hi) := (blk_cell HQ2.out 2).trans rfl; have q3 : w2.cell? ⟨w.heap.size, 3, none⟩ = some (.int .i64 q.seats) := (blk_cell HQ2.out 3).trans rfl; have q4 : w2.cell? ⟨w.heap.size, 4, none⟩ = some (.slice A n c) := (blk_cell HQ2.out 4).trans rfl; have q5 : w2.cell? ⟨w.heap.size, 5, none⟩ = some (.slice F m d) := (blk_cell HQ2.out 5).trans rfl; have lq := blk_lt HQ2.out)
        go_ret
        exact ⟨by rw [HR.out]; first | rfl | (simp; omega), HB2.out⟩
      · have h6' : (n : Int) ≤ 6 := by omega
        by_cases h24 : 24 < G.people q.gs
        · have HR := hide (show G.far q = true by unfold G.far; rw [HV.out]; simp [h24])
          clear h3 h6
          go_enter Try.func12, Try.ntmps12
          go_upto_region 3 with fail
          go_wp2_with (first | (go_at_call 16; (with_reducible refine (Check_ref q A n c F m d _ (HI.out.below (show Below w.heap.size w _ by (repeat' first | exact zbR _ _ | assumption | refine zbD ?_ | refine zbA ?_ ?_ _ | refine zbS ?_ ?_ _ | refine zbT ?_ (by assumption) ?_ | (simp; done) | (simp; omega) | omega)))).mono ?_); rintro e w2 ⟨rfl, hb2⟩; rw [HE.out]; have HB2 := hide (zbT (show Below w.heap.size w _ by (repeat' first | exact zbR _ _ | assumption | refine zbD ?_ | refine zbA ?_ ?_ _ | refine zbS ?_ ?_ _ | refine zbT ?_ (by assumption) ?_ | (simp; done) | (simp; omega) | omega)) hb2 (by simp)); have HQ2 := hide ((hb2.block _ (by simp)).trans (World.alloc_heap_new w (.cells #[.int .i64 q.opn, .int .i64 q.lo, .int .i64 q.hi, .int .i64 q.seats, .slice A n c, .slice F m d] 27 (0, 0)))); clear hb2; have q0 : w2.cell? ⟨w.heap.size, 0, none⟩ = some (.int .i64 q.opn) := (blk_cell HQ2.out 0).trans rfl; have q1 : w2.cell? ⟨w.heap.size, 1, none⟩ = some (.int .i64 q.lo) := (blk_cell HQ2.out 1).trans rfl; have q2 : w2.cell? ⟨w.heap.size, 2, none⟩ = some (.int .i64 q.hi) := (blk_cell HQ2.out 2).trans rfl; have q3 : w2.cell? ⟨w.heap.size, 3, none⟩ = some (.int .i64 q.seats) := (blk_cell HQ2.out 3).trans rfl; have q4 : w2.cell? ⟨w.heap.size, 4, none⟩ = some (.slice A n c) := (blk_cell HQ2.out 4).trans rfl; have q5 : w2.cell? ⟨w.heap.size, 5, none⟩ = some (.slice F m d) := (blk_cell HQ2.out 5).trans rfl; have lq := blk_lt HQ2.out) | (go_at_call 32; (with_reducible refine (People_ref q A n c F m d _ (HI.out.below HB2.out) (G.valid_iff.1 HV.out)).mono ?_); rintro e w3 ⟨rfl, hb3⟩; have HB3 := hide (zbT HB2.out hb3 HB2.out.size); clear hb3))
          go_ret
          exact ⟨by rw [HR.out]; first | rfl | (simp; omega), HB3.out⟩
        · have HR := hide (show G.far q = false by unfold G.far; rw [HV.out, HGL.out]; simp [h3, h6, h24])
          have h24' : G.people q.gs ≤ 24 := by omega
          clear h3 h6 h24
          go_enter Try.func12, Try.ntmps12
          go_upto_region 3 with fail
          go_wp2_with (first | (go_at_call 16; (with_reducible refine (Check_ref q A n c F m d _ (HI.out.below (show Below w.heap.size w _ by (repeat' first | exact zbR _ _ | assumption | refine zbD ?_ | refine zbA ?_ ?_ _ | refine zbS ?_ ?_ _ | refine zbT ?_ (by assumption) ?_ | (simp; done) | (simp; omega) | omega)))).mono ?_); rintro e w2 ⟨rfl, hb2⟩; rw [HE.out]; have HB2 := hide (zbT (show Below w.heap.size w _ by (repeat' first | exact zbR _ _ | assumption | refine zbD ?_ | refine zbA ?_ ?_ _ | refine zbS ?_ ?_ _ | refine zbT ?_ (by assumption) ?_ | (simp; done) | (simp; omega) | omega)) hb2 (by simp)); have HQ2 := hide ((hb2.block _ (by simp)).trans (World.alloc_heap_new w (.cells #[.int .i64 q.opn, .int .i64 q.lo, .int .i64 q.hi, .int .i64 q.seats, .slice A n c, .slice F m d] 27 (0, 0)))); clear hb2; have q0 : w2.cell? ⟨w.heap.size, 0, none⟩ = some (.int .i64 q.opn) := (blk_cell HQ2.out 0).trans rfl; have q1 : w2.cell? ⟨w.heap.size, 1, none⟩ = some (.int .i64 q.lo) := (blk_cell HQ2.out 1).trans rfl; have q2 : w2.cell? ⟨w.heap.size, 2, none⟩ = some (.int .i64 q.hi) := (blk_cell HQ2.out 2).trans rfl; have q3 : w2.cell? ⟨w.heap.size, 3, none⟩ = some (.int .i64 q.seats) := (blk_cell HQ2.out 3).trans rfl; have q4 : w2.cell? ⟨w.heap.size, 4, none⟩ = some (.slice A n c) := (blk_cell HQ2.out 4).trans rfl; have q5 : w2.cell? ⟨w.heap.size, 5, none⟩ = some (.slice F m d) := (blk_cell HQ2.out 5).trans rfl; have lq := blk_lt HQ2.out) | (go_at_call 32; (with_reducible refine (People_ref q A n c F m d _ (HI.out.below HB2.out) (G.valid_iff.1 HV.out)).mono ?_); rintro e w3 ⟨rfl, hb3⟩; have HB3 := hide (zbT HB2.out hb3 HB2.out.size); clear hb3))
          go_ret
          exact ⟨by rw [HR.out]; first | rfl | (simp; omega), HB3.out⟩
set_option maxHeartbeats 3200000 in
set_option maxRecDepth 100000 in
theorem ready_long (q : G.Qu) (A : Option Addr) (n c : Nat) (F : Option Addr) (m d : Nat) (rate : Int) (w : World) (h : 100 < n ∨ 100 < m) :
    Calls Try.prog 30 #[.agg #[.int .i64 q.opn, .int .i64 q.lo, .int .i64 q.hi, .int .i64 q.seats, .slice A n c, .slice F m d], .int .i64 rate] w fun e w' => e = .returned (.bool false) ∧ Below w.heap.size w w' := by
  have HH := hide h
  clear h
  go_enter Try.func30, Try.ntmps30
  go_wp2_with (go_at_call 12; (with_reducible refine (far_long q A n c F m d _ HH.out).mono ?_); rintro e w2 ⟨rfl, hb2⟩; have HB2 := hide (zbT (show Below w.heap.size w _ by (repeat' first | exact zbR _ _ | assumption | refine zbD ?_ | refine zbA ?_ ?_ _ | refine zbS ?_ ?_ _ | refine zbT ?_ (by assumption) ?_ | (simp; done) | (simp; omega) | omega)) hb2 (by simp)); clear hb2)
  go_ret
  exact ⟨rfl, HB2.out⟩
set_option maxHeartbeats 3200000 in
set_option maxRecDepth 100000 in
theorem ready_any (q : G.Qu) (A : Option Addr) (n c : Nat) (F : Option Addr) (m d : Nat) (rate : Int) (w : World) (h : QIn w q A n c F m d) (hn : n ≤ 100) (hm : m ≤ 100) :
    Calls Try.prog 30 #[.agg #[.int .i64 q.opn, .int .i64 q.lo, .int .i64 q.hi, .int .i64 q.seats, .slice A n c, .slice F m d], .int .i64 rate] w fun e w' => e = .returned (.bool (G.rdy q rate)) ∧ Below w.heap.size w w' := by
  have HI := hide h
  clear h
  cases hf : G.far q
  · have HF := hide hf
    cases hv : G.valid q
    · have HE := hide (show G.checkE q = 110 by unfold G.checkE; rw [hv]; rfl)
      have HR := hide (show G.rdy q rate = false by unfold G.rdy; rw [hv]; simp)
      clear hf hv
      go_enter Try.func30, Try.ntmps30
      go_wp2_with (first | (go_at_call 12; (with_reducible refine (Far_any q A n c F m d _ (HI.out.below (show Below w.heap.size w _ by (repeat' first | exact zbR _ _ | assumption | refine zbD ?_ | refine zbA ?_ ?_ _ | refine zbS ?_ ?_ _ | refine zbT ?_ (by assumption) ?_ | (simp; done) | (simp; omega) | omega))) hn hm).mono ?_); rintro e w2 ⟨rfl, hb2⟩; rw [HF.out]; have HB2 := hide (zbT (show Below w.heap.size w _ by (repeat' first | exact zbR _ _ | assumption | refine zbD ?_ | refine zbA ?_ ?_ _ | refine zbS ?_ ?_ _ | refine zbT ?_ (by assumption) ?_ | (simp; done) | (simp; omega) | omega)) hb2 (by simp)); have HQ2 := hide ((hb2.block _ (by simp)).trans (World.alloc_heap_new w (.cells #[.int .i64 q.opn, .int .i64 q.lo, .int .i64 q.hi, .int .i64 q.seats, .slice A n c, .slice F m d] 27 (0, 0)))); clear hb2; have q0 : w2.cell? ⟨w.heap.size, 0, none⟩ = some (.int .i64 q.opn) := (blk_cell HQ2.out 0).trans rfl; have q1 : w2.cell? ⟨w.heap.size, 1, none⟩ = some (.int .i64 q.lo) := (blk_cell HQ2.out 1).trans rfl; have q2 : w2.cell? ⟨w.heap.size, 2, none⟩ = some (.int .i64 q.hi) := (blk_cell HQ2.out 2).trans rfl; have q3 : w2.cell? ⟨w.heap.size, 3, none⟩ = some (.int .i64 q.seats) := (blk_cell HQ2.out 3).trans rfl; have q4 : w2.cell? ⟨w.heap.size, 4, none⟩ = some (.slice A n c) := (blk_cell HQ2.out 4).trans rfl; have q5 : w2.cell? ⟨w.heap.size, 5, none⟩ = some (.slice F m d) := (blk_cell HQ2.out 5).trans rfl; have lq := blk_lt HQ2.out) | (go_at_call 16; (with_reducible refine (Check_ref q A n c F m d _ (HI.out.below HB2.out)).mono ?_); rintro e w4 ⟨rfl, hb4⟩; rw [HE.out]; have HB4 := hide (zbT HB2.out hb4 HB2.out.size); have HQ4 := bkT hb4 HQ2; clear hb4 q0 q1 q2 q3 q4 q5 lq; have q0 : w4.cell? ⟨w.heap.size, 0, none⟩ = some (.int .i64 q.opn) := (blk_cell HQ4.out 0).trans rfl; have q1 : w4.cell? ⟨w.heap.size, 1, none⟩ = some (.int .i64 q.lo) := (blk_cell HQ4.out 1).trans rfl; have q2 : w4.cell? ⟨w.heap.size, 2, none⟩ = some (.int .i64 q.hi) := (blk_cell HQ4.out 2).trans rfl; have q3 : w4.cell? ⟨w.heap.size, 3, none⟩ = some (.int .i64 q.seats) := (blk_cell HQ4.out 3).trans rfl; have q4 : w4.cell? ⟨w.heap.size, 4, none⟩ = some (.slice A n c) := (blk_cell HQ4.out 4).trans rfl; have q5 : w4.cell? ⟨w.heap.size, 5, none⟩ = some (.slice F m d) := (blk_cell HQ4.out 5).trans rfl; have lq := blk_lt HQ4.out))
      go_ret
      exact ⟨by rw [HR.out]; first | rfl | (simp; omega), HB4.out⟩
    · have HE := hide (show G.checkE q = 0 by unfold G.checkE; rw [hv]; rfl)
      have HV := hide hv
      clear hv
      by_cases h1 : q.lo ≤ rate
      · by_cases h2 : rate ≤ q.hi
        · have HR := hide (show G.rdy q rate = true by unfold G.rdy; rw [hf, HV.out]; simp [h1, h2])
          clear hf
          go_enter Try.func30, Try.ntmps30
          go_wp2_with (first | (go_at_call 12; (with_reducible refine (Far_any q A n c F m d _ (HI.out.below (show Below w.heap.size w _ by (repeat' first | exact zbR _ _ | assumption | refine zbD ?_ | refine zbA ?_ ?_ _ | refine zbS ?_ ?_ _ | refine zbT ?_ (by assumption) ?_ | (simp; done) | (simp; omega) | omega))) hn hm).mono ?_); rintro e w2 ⟨rfl, hb2⟩; rw [HF.out]; have HB2 := hide (zbT (show Below w.heap.size w _ by (repeat' first | exact zbR _ _ | assumption | refine zbD ?_ | refine zbA ?_ ?_ _ | refine zbS ?_ ?_ _ | refine zbT ?_ (by assumption) ?_ | (simp; done) | (simp; omega) | omega)) hb2 (by simp)); have HQ2 := hide ((hb2.block _ (by simp)).trans (World.alloc_heap_new w (.cells #[.int .i64 q.opn, .int .i64 q.lo, .int .i64 q.hi, .int .i64 q.seats, .slice A n c, .slice F m d] 27 (0, 0)))); clear hb2; have q0 : w2.cell? ⟨w.heap.size, 0, none⟩ = some (.int .i64 q.opn) := (blk_cell HQ2.out 0).trans rfl; have q1 : w2.cell? ⟨w.heap.size, 1, none⟩ = some (.int .i64 q.lo) := (blk_cell HQ2.out 1).trans rfl; have q2 : w2.cell? ⟨w.heap.size, 2, none⟩ = some (.int .i64 q.hi) := (blk_cell HQ2.out 2).trans rfl; have q3 : w2.cell? ⟨w.heap.size, 3, none⟩ = some (.int .i64 q.seats) := (blk_cell HQ2.out 3).trans rfl; have q4 : w2.cell? ⟨w.heap.size, 4, none⟩ = some (.slice A n c) := (blk_cell HQ2.out 4).trans rfl; have q5 : w2.cell? ⟨w.heap.size, 5, none⟩ = some (.slice F m d) := (blk_cell HQ2.out 5).trans rfl; have lq := blk_lt HQ2.out) | (go_at_call 16; (with_reducible refine (Check_ref q A n c F m d _ (HI.out.below HB2.out)).mono ?_); rintro e w4 ⟨rfl, hb4⟩; rw [HE.out]; have HB4 := hide (zbT HB2.out hb4 HB2.out.size); have HQ4 := bkT hb4 HQ2; clear hb4 q0 q1 q2 q3 q4 q5 lq; have q0 : w4.cell? ⟨w.heap.size, 0, none⟩ = some (.int .i64 q.opn) := (blk_cell HQ4.out 0).trans rfl; have q1 : w4.cell? ⟨w.heap.size, 1, none⟩ = some (.int .i64 q.lo) := (blk_cell HQ4.out 1).trans rfl; have q2 : w4.cell? ⟨w.heap.size, 2, none⟩ = some (.int .i64 q.hi) := (blk_cell HQ4.out 2).trans rfl; have q3 : w4.cell? ⟨w.heap.size, 3, none⟩ = some (.int .i64 q.seats) := (blk_cell HQ4.out 3).trans rfl; have q4 : w4.cell? ⟨w.heap.size, 4, none⟩ = some (.slice A n c) := (blk_cell HQ4.out 4).trans rfl; have q5 : w4.cell? ⟨w.heap.size, 5, none⟩ = some (.slice F m d) := (blk_cell HQ4.out 5).trans rfl; have lq := blk_lt HQ4.out))
          go_ret
          exact ⟨by rw [HR.out]; first | rfl | (simp; omega), HB4.out⟩
        · have HR := hide (show G.rdy q rate = false by unfold G.rdy; rw [hf, HV.out]; simp [h2])
          have h2' : q.hi < rate := by omega
          clear hf h2
          go_enter Try.func30, Try.ntmps30
          go_wp2_with (first | (go_at_call 12; (with_reducible refine (Far_any q A n c F m d _ (HI.out.below (show Below w.heap.size w _ by (repeat' first | exact zbR _ _ | assumption | refine zbD ?_ | refine zbA ?_ ?_ _ | refine zbS ?_ ?_ _ | refine zbT ?_ (by assumption) ?_ | (simp; done) | (simp; omega) | omega))) hn hm).mono ?_); rintro e w2 ⟨rfl, hb2⟩; rw [HF.out]; have HB2 := hide (zbT (show Below w.heap.size w _ by (repeat' first | exact zbR _ _ | assumption | refine zbD ?_ | refine zbA ?_ ?_ _ | refine zbS ?_ ?_ _ | refine zbT ?_ (by assumption) ?_ | (simp; done) | (simp; omega) | omega)) hb2 (by simp)); have HQ2 := hide ((hb2.block _ (by simp)).trans (World.alloc_heap_new w (.cells #[.int .i64 q.opn, .int .i64 q.lo, .int .i64 q.hi, .int .i64 q.seats, .slice A n c, .slice F m d] 27 (0, 0)))); clear hb2; have q0 : w2.cell? ⟨w.heap.size, 0, none⟩ = some (.int .i64 q.opn) := (blk_cell HQ2.out 0).trans rfl; have q1 : w2.cell? ⟨w.heap.size, 1, none⟩ = some (.int .i64 q.lo) := (blk_cell HQ2.out 1).trans rfl; have q2 : w2.cell? ⟨w.heap.size, 2, none⟩ = some (.int .i64 q.hi) := (blk_cell HQ2.out 2).trans rfl; have q3 : w2.cell? ⟨w.heap.size, 3, none⟩ = some (.int .i64 q.seats) := (blk_cell HQ2.out 3).trans rfl; have q4 : w2.cell? ⟨w.heap.size, 4, none⟩ = some (.slice A n c) := (blk_cell HQ2.out 4).trans rfl; have q5 : w2.cell? ⟨w.heap.size, 5, none⟩ = some (.slice F m d) := (blk_cell HQ2.out 5).trans rfl; have lq := blk_lt HQ2.out) | (go_at_call 16; (with_reducible refine (Check_ref q A n c F m d _ (HI.out.below HB2.out)).mono ?_); rintro e w4 ⟨rfl, hb4⟩; rw [HE.out]; have HB4 := hide (zbT HB2.out hb4 HB2.out.size); have HQ4 := bkT hb4 HQ2; clear hb4 q0 q1 q2 q3 q4 q5 lq; have q0 : w4.cell? ⟨w.heap.size, 0, none⟩ = some (.int .i64 q.opn) := (blk_cell HQ4.out 0).trans rfl; have q1 : w4.cell? ⟨w.heap.size, 1, none⟩ = some (.int .i64 q.lo) := (blk_cell HQ4.out 1).trans rfl; have q2 : w4.cell? ⟨w.heap.size, 2, none⟩ = some (.int .i64 q.hi) := (blk_cell HQ4.out 2).trans rfl; have q3 : w4.cell? ⟨w.heap.size, 3, none⟩ = some (.int .i64 q.seats) := (blk_cell HQ4.out 3).trans rfl; have q4 : w4.cell? ⟨w.heap.size, 4, none⟩ = some (.slice A n c) := (blk_cell HQ4.out 4).trans rfl; have q5 : w4.cell? ⟨w.heap.size, 5, none⟩ = some (.slice F m d) := (blk_cell HQ4.out 5).trans rfl; have lq := blk_lt HQ4.out))
          go_ret
          exact ⟨by rw [HR.out]; first | rfl | (simp; omega), HB4.out⟩
      · have HR := hide (show G.rdy q rate = false by unfold G.rdy; rw [hf, HV.out]; simp [h1])
        have h1' : rate < q.lo := by omega
        clear hf h1
        go_enter Try.func30, Try.ntmps30
        go_wp2_with (first | (go_at_call 12; (with_reducible refine (Far_any q A n c F m d _ (HI.out.below (show Below w.heap.size w _ by (repeat' first | exact zbR _ _ | assumption | refine zbD ?_ | refine zbA ?_ ?_ _ | refine zbS ?_ ?_ _ | refine zbT ?_ (by assumption) ?_ | (simp; done) | (simp; omega) | omega))) hn hm).mono ?_); rintro e w2 ⟨rfl, hb2⟩; rw [HF.out]; have HB2 := hide (zbT (show Below w.heap.size w _ by (repeat' first | exact zbR _ _ | assumption | refine zbD ?_ | refine zbA ?_ ?_ _ | refine zbS ?_ ?_ _ | refine zbT ?_ (by assumption) ?_ | (simp; done) | (simp; omega) | omega)) hb2 (by simp)); have HQ2 := hide ((hb2.block _ (by simp)).trans (World.alloc_heap_new w (.cells #[.int .i64 q.opn, .int .i64 q.lo, .int .i64 q.hi, .int .i64 q.seats, .slice A n c, .slice F m d] 27 (0, 0)))); clear hb2; have q0 : w2.cell? ⟨w.heap.size, 0, none⟩ = some (.int .i64 q.opn) := (blk_cell HQ2.out 0).trans rfl; have q1 : w2.cell? ⟨w.heap.size, 1, none⟩ = some (.int .i64 q.lo) := (blk_cell HQ2.out 1).trans rfl; have q2 : w2.cell? ⟨w.heap.size, 2, none⟩ = some (.int .i64 q.hi) := (blk_cell HQ2.out 2).trans rfl; have q3 : w2.cell? ⟨w.heap.size, 3, none⟩ = some (.int .i64 q.seats) := (blk_cell HQ2.out 3).trans rfl; have q4 : w2.cell? ⟨w.heap.size, 4, none⟩ = some (.slice A n c) := (blk_cell HQ2.out 4).trans rfl; have q5 : w2.cell? ⟨w.heap.size, 5, none⟩ = some (.slice F m d) := (blk_cell HQ2.out 5).trans rfl; have lq := blk_lt HQ2.out) | (go_at_call 16; (with_reducible refine (Check_ref q A n c F m d _ (HI.out.below HB2.out)).mono ?_); rintro e w4 ⟨rfl, hb4⟩; rw [HE.out]; have HB4 := hide (zbT HB2.out hb4 HB2.out.size); have HQ4 := bkT hb4 HQ2; clear hb4 q0 q1 q2 q3 q4 q5 lq; have q0 : w4.cell? ⟨w.heap.size, 0, none⟩ = some (.int .i64 q.opn) := (blk_cell HQ4.out 0).trans rfl; have q1 : w4.cell? ⟨w.heap.size, 1, none⟩ = some (.int .i64 q.lo) := (blk_cell HQ4.out 1).trans rfl; have q2 : w4.cell? ⟨w.heap.size, 2, none⟩ = some (.int .i64 q.hi) := (blk_cell HQ4.out 2).trans rfl; have q3 : w4.cell? ⟨w.heap.size, 3, none⟩ = some (.int .i64 q.seats) := (blk_cell HQ4.out 3).trans rfl; have q4 : w4.cell? ⟨w.heap.size, 4, none⟩ = some (.slice A n c) := (blk_cell HQ4.out 4).trans rfl; have q5 : w4.cell? ⟨w.heap.size, 5, none⟩ = some (.slice F m d) := (blk_cell HQ4.out 5).trans rfl; have lq := blk_lt HQ4.out))
        go_ret
        exact ⟨by rw [HR.out]; first | rfl | (simp; omega), HB4.out⟩
  · have HF := hide hf
    have HR := hide (show G.rdy q rate = false by unfold G.rdy; rw [hf]; rfl)
    clear hf
    go_enter Try.func30, Try.ntmps30
    go_wp2_with (go_at_call 12; (with_reducible refine (Far_any q A n c F m d _ (HI.out.below (show Below w.heap.size w _ by (repeat' first | exact zbR _ _ | assumption | refine zbD ?_ | refine zbA ?_ ?_ _ | refine zbS ?_ ?_ _ | refine zbT ?_ (by assumption) ?_ | (simp; done) | (simp; omega) | omega))) hn hm).mono ?_); rintro e w2 ⟨rfl, hb2⟩; rw [HF.out]; have HB2 := hide (zbT (show Below w.heap.size w _ by (repeat' first | exact zbR _ _ | assumption | refine zbD ?_ | refine zbA ?_ ?_ _ | refine zbS ?_ ?_ _ | refine zbT ?_ (by assumption) ?_ | (simp; done) | (simp; omega) | omega)) hb2 (by simp)); have HQ2 := hide ((hb2.block _ (by simp)).trans (World.alloc_heap_new w (.cells #[.int .i64 q.opn, .int .i64 q.lo, .int .i64 q.hi, .int .i64 q.seats, .slice A n c, .slice F m d] 27 (0, 0)))); clear hb2; have q0 : w2.cell? ⟨w.heap.size, 0, none⟩ = some (.int .i64 q.opn) := (blk_cell HQ2.out 0).trans rfl; have q1 : w2.cell? ⟨w.heap.size, 1, none⟩ = some (.int .i64 q.lo) := (blk_cell HQ2.out 1).trans rfl; have q2 : w2.cell? ⟨w.heap.size, 2, none⟩ = some (.int .i64 q.hi) := (blk_cell HQ2.out 2).trans rfl; have q3 : w2.cell? ⟨w.heap.size, 3, none⟩ = some (.int .i64 q.seats) := (blk_cell HQ2.out 3).trans rfl; have q4 : w2.cell? ⟨w.heap.size, 4, none⟩ = some (.slice A n c) := (blk_cell HQ2.out 4).trans rfl; have q5 : w2.cell? ⟨w.heap.size, 5, none⟩ = some (.slice F m d) := (blk_cell HQ2.out 5).trans rfl; have lq := blk_lt HQ2.out)
    go_ret
    exact ⟨by rw [HR.out]; first | rfl | (simp; omega), HB2.out⟩
end Go.Proofs.Ytlpjkolocgkcpaa

namespace Go.Proofs.Ytlpjkolocgkcpaa
namespace G

theorem run_idsT (S : Int → Int) (rate opn : Int) : ∀ (l : List Pt) (s : Mo), (run S rate opn l s).map (·.1) = l.map (·.id)
  | [], _ => rfl
  | p :: r, s => by
    unfold run
    rw [List.map_cons, List.map_cons, run_idsT S rate opn r]
theorem look_atT : ∀ {R : List (Int × Int)} {j : Nat} {id v : Int}, (R.map (·.1)).Nodup → R[j]? = some (id, v) → look id R = v
  | [], j, id, v, _, h => by simp at h
  | x :: r, 0, id, v, _, h => by
    have hx : x = (id, v) := Option.some.inj h
    subst hx
    unfold look
    rw [List.find?_cons_of_pos (by simp)]
    rfl
  | x :: r, j + 1, id, v, hn, h => by
    rw [List.map_cons, List.nodup_cons] at hn
    have hx : x.1 ≠ id := by
      intro e
      rw [List.getElem?_cons_succ] at h
      exact hn.1 (List.mem_map.2 ⟨(id, v), List.mem_of_getElem? h, e.symm⟩)
    unfold look
    rw [List.find?_cons_of_neg (by simpa using hx)]
    exact look_atT hn.2 h
def R (q : Qu) (rate : Int) : List (Int × Int) := run q.S rate q.opn (srt q.gs) ⟨0, 0, 0⟩
theorem R_nodup {q : Qu} (hv : Valid q) (rate : Int) : ((R q rate).map (·.1)).Nodup := by
  unfold R
  rw [run_idsT]
  exact ((srt_perm q.gs).map _).nodup_iff.2 hv.gn
theorem R_length (q : Qu) (rate : Int) : (R q rate).length = (srt q.gs).length := by
  have h := congrArg List.length (run_idsT q.S rate q.opn (srt q.gs) ⟨0, 0, 0⟩)
  simpa [R] using h
theorem R_at {q : Qu} (hv : Valid q) (rate : Int) {j : Nat} {p : Pt} (h : (srt q.gs)[j]? = some p) : (R q rate)[j]? = some (p.id, look p.id (R q rate)) := by
  have hl : j < (R q rate).length := by rw [R_length]; exact (List.getElem?_eq_some_iff.1 h).1
  obtain ⟨x, hx⟩ : ∃ x, (R q rate)[j]? = some x := ⟨_, List.getElem?_eq_getElem hl⟩
  have h1 : ((R q rate).map (·.1))[j]? = some p.id := by
    unfold R
    rw [run_idsT, List.getElem?_map, h]
    rfl
  rw [List.getElem?_map, hx] at h1
  have h2 : x.1 = p.id := Option.some.inj h1
  have h3 : x = (p.id, x.2) := by rw [← h2]
  rw [h3] at hx
  rw [hx, look_atT (R_nodup hv rate) hx]
theorem enter_getT (q : Qu) (rate : Int) {i : Nat} {p : Pt} (h : q.gs[i]? = some p) : (enter q rate)[i]? = some (look p.id (R q rate)) := by
  unfold enter
  rw [List.getElem?_map, h]
  rfl
theorem mo0 {rate : Int} (hr : 1 ≤ rate) : Mo.Ok rate ⟨0, 0, 0⟩ := ⟨Int.le_refl _, Int.le_refl _, by show (0 : Int) < rate; omega⟩
theorem srt_size {q : Qu} (hv : Valid q) : ∀ p ∈ srt q.gs, 1 ≤ p.size := fun p hp => (vParty_iff.1 (hv.gv p ((srt_perm _).mem_iff.1 hp))).z0
theorem enter_fairT {q : Qu} (hv : Valid q) {rate : Int} (hr : 1 ≤ rate) {i : Nat} {p : Pt} (h : q.gs[i]? = some p) : Fair rate q.opn p (look p.id (R q rate)) := by
  obtain ⟨j, hj⟩ := List.mem_iff_getElem?.1 ((srt_perm q.gs).mem_iff.2 (List.mem_of_getElem? h))
  exact (run_fair hr (srt q.gs) _ (mo0 hr) (srt_size hv) j p _ hj (R_at hv rate hj)).2
theorem enter_turn {q : Qu} (hv : Valid q) {rate : Int} (hr : 1 ≤ rate) {i j : Nat} {p p' : Pt} (hij : i < j) (hi : (srt q.gs)[i]? = some p) (hj : (srt q.gs)[j]? = some p') : Turn p (look p.id (R q rate)) (look p'.id (R q rate)) :=
  run_turn hr (srt q.gs) _ (mo0 hr) (srt_size hv) i j p _ _ hij hi (R_at hv rate hi) (R_at hv rate hj)
end G
end Go.Proofs.Ytlpjkolocgkcpaa

namespace Go.Proofs.Ytlpjkolocgkcpaa
namespace G

def lt (a b : Pt) : Bool := decide (a.at_ < b.at_) || (decide (a.at_ = b.at_) && decide (a.id < b.id))
theorem lt_le {a b : Pt} (h : lt a b = true) : cmpG a b ≤ 0 := by
  unfold lt at h
  simp only [Bool.or_eq_true, Bool.and_eq_true, decide_eq_true_eq] at h
  rw [cmpG_le]
  omega
theorem not_lt_le {a b : Pt} (h : lt a b = false) : cmpG b a ≤ 0 := by
  unfold lt at h
  simp only [Bool.or_eq_false_iff, Bool.and_eq_false_iff, decide_eq_false_iff_not] at h
  rw [cmpG_le]
  omega
structure Ins (gs : List Pt) (o : List Nat) (i k : Nat) : Prop where
  len : o.length = i + 1
  perm : o.Perm (List.range (i + 1))
  kl : k ≤ i
  rest : ∀ (a b x y : Nat), a < b → a ≠ k → b ≠ k → o[a]? = some x → o[b]? = some y → cmpG (ptAt gs x) (ptAt gs y) ≤ 0
  behind : ∀ (b x y : Nat), k < b → o[k]? = some x → o[b]? = some y → cmpG (ptAt gs x) (ptAt gs y) ≤ 0
structure OrdS (gs : List Pt) (o : List Nat) (i : Nat) : Prop where
  len : o.length = i
  perm : o.Perm (List.range i)
  all : ∀ (a b x y : Nat), a < b → o[a]? = some x → o[b]? = some y → cmpG (ptAt gs x) (ptAt gs y) ≤ 0
theorem OrdS.add {gs : List Pt} {o : List Nat} {i : Nat} (h : OrdS gs o i) : Ins gs (o ++ [i]) i i := by
  have hl := h.len
  refine ⟨by rw [List.length_append, h.len]; rfl, ?_, Nat.le_refl _, fun a b x y hab ha hb hx hy => ?_, fun b x y hb hx hy => ?_⟩
  · rw [List.range_succ]
    exact h.perm.append_right _
  · have hb' : b < i := by
      have := (List.getElem?_eq_some_iff.1 hy).1
      rw [List.length_append, hl] at this
      simp at this
      omega
    rw [List.getElem?_append_left (by omega)] at hx hy
    exact h.all a b x y hab hx hy
  · have := (List.getElem?_eq_some_iff.1 hy).1
    rw [List.length_append, hl] at this
    simp at this
    omega
theorem Ins.done {gs : List Pt} {o : List Nat} {i k : Nat} (h : Ins gs o i k) (hk : ∀ j x y, k = j + 1 → o[j]? = some x → o[k]? = some y → lt (ptAt gs x) (ptAt gs y) = true) : OrdS gs o (i + 1) := by
  refine ⟨h.len, h.perm, fun a b x y hab hx hy => ?_⟩
  by_cases ha : a = k
  · subst ha
    exact h.behind b x y hab hx hy
  · by_cases hb : b = k
    · subst hb
      obtain ⟨j, rfl⟩ : ∃ j, b = j + 1 := ⟨b - 1, by omega⟩
      obtain ⟨z, hz⟩ : ∃ z, o[j]? = some z := ⟨_, List.getElem?_eq_getElem (by have := (List.getElem?_eq_some_iff.1 hy).1; omega)⟩
      have h1 := lt_le (hk j z y rfl hz hy)
      by_cases haj : a = j
      · subst haj
        rw [hx] at hz
        cases hz
        exact h1
      · exact cmpG_trans (h.rest a j x z (by omega) ha (by omega) hx hz) h1
    · exact h.rest a b x y hab ha hb hx hy
theorem swap_get {o : List Nat} {j : Nat} {x y : Nat} (hx : o[j]? = some x) (hy : o[j + 1]? = some y) (a : Nat) : ((o.set j y).set (j + 1) x)[a]? = if a = j then some y else if a = j + 1 then some x else o[a]? := by
  have h1 := (List.getElem?_eq_some_iff.1 hx).1
  have h2 := (List.getElem?_eq_some_iff.1 hy).1
  rw [List.getElem?_set, List.getElem?_set, List.length_set]
  by_cases c1 : a = j
  · subst c1
    simp [h1]
  · by_cases c2 : a = j + 1
    · subst c2
      simp [h2]
    · rw [if_neg (by omega), if_neg (by omega), if_neg c1, if_neg c2]
theorem swap_perm {o : List Nat} {j : Nat} {x y : Nat} (hx : o[j]? = some x) (hy : o[j + 1]? = some y) : ((o.set j y).set (j + 1) x).Perm o := by
  induction o generalizing j with
  | nil => simp at hx
  | cons a r ih =>
    cases j with
    | zero =>
      cases r with
      | nil => simp at hy
      | cons b r =>
        simp at hx hy
        subst hx hy
        exact List.Perm.swap _ _ _
    | succ j =>
      rw [List.getElem?_cons_succ] at hx hy
      exact (ih hx hy).cons a
theorem Ins.swap {gs : List Pt} {o : List Nat} {i j : Nat} {x y : Nat} (h : Ins gs o i (j + 1)) (hx : o[j]? = some x) (hy : o[j + 1]? = some y) (hl : lt (ptAt gs x) (ptAt gs y) = false) : Ins gs ((o.set j y).set (j + 1) x) i j := by
  refine ⟨by rw [List.length_set, List.length_set]; exact h.len, (swap_perm hx hy).trans h.perm, by have := h.kl; omega, fun a b u v hab ha hb hu hv => ?_, fun b u v hb hu hv => ?_⟩
  · rw [swap_get hx hy] at hu hv
    rw [if_neg ha] at hu
    rw [if_neg hb] at hv
    by_cases c1 : a = j + 1
    · rw [if_pos c1] at hu
      rw [if_neg (by omega)] at hv
      cases hu
      exact h.rest j b _ v (by omega) (by omega) (by omega) hx hv
    · rw [if_neg c1] at hu
      by_cases c2 : b = j + 1
      · rw [if_pos c2] at hv
        cases hv
        exact h.rest a j u _ (by omega) (by omega) (by omega) hu hx
      · rw [if_neg c2] at hv
        exact h.rest a b u v hab c1 c2 hu hv
  · rw [swap_get hx hy] at hu hv
    rw [if_pos rfl] at hu
    rw [if_neg (by omega)] at hv
    cases hu
    by_cases c2 : b = j + 1
    · rw [if_pos c2] at hv
      cases hv
      exact not_lt_le hl
    · rw [if_neg c2] at hv
      exact h.behind b _ v (by omega) hy hv
theorem cmpG_flip2 {a b : Pt} (h : cmpG a b ≤ 0) : 0 ≤ cmpG b a := by
  rw [cmpG_le] at h
  by_cases c : cmpG b a ≤ 0
  · have c' := cmpG_le.1 c
    have : a.at_ = b.at_ ∧ a.id = b.id := by omega
    unfold cmpG cmp
    rw [this.1, this.2]
    simp
  · omega
theorem OrdS.srt {gs : List Pt} {o : List Nat} {n : Nat} (h : OrdS gs o n) (hn : gs.length = n) (hnd : (gs.map (·.id)).Nodup) : o.map (fun j => gs[j]?) = (srt gs).map some := by
  refine ord_srt hn hnd h.perm ?_
  rw [List.pairwise_iff_getElem]
  intro a b ha hb hab
  exact cmpG_flip2 (h.all a b _ _ hab (List.getElem?_eq_getElem ha) (List.getElem?_eq_getElem hb))
end G
end Go.Proofs.Ytlpjkolocgkcpaa

namespace Go.Proofs.Ytlpjkolocgkcpaa
open Go

section
variable {P : Program} {ops : Array Oper} {md : Region.Mode} {w : World}

def upTo (N : Nat) : Nat → Array Bool
  | 0 => Array.replicate N false
  | k + 1 => (upTo N k).setIfInBounds k true
structure GateAt (md : Region.Mode) (ops : Array Oper) (k n : Nat) (listed : Array Bool) : Prop where
  size : listed.size = ops.size
  closed : ∀ j oj, ops[j]? = some oj → listed.getD j false = true → ∀ e ∈ oj.after, Region.binds md e = true → listed.getD e.on false = true
  low : ∀ i, i < k → listed.getD i false = true
  high : ∀ t, n ≤ t → t < ops.size → listed.getD t true = false

theorem GateAt.put {k n i : Nat} {listed : Array Bool} (h : GateAt md ops k n listed) (hi : i ∈ Region.ready md ops listed) (hn : i < n) : GateAt md ops k n (listed.setIfInBounds i true) := by
  obtain ⟨_, oi, ho, hd⟩ := mem_ready.1 hi
  refine ⟨by rw [Array.size_setIfInBounds]; exact h.size, ?_, fun j hj => getD_set_true (h.low j hj), ?_⟩
  · intro j oj hj hl e he hb
    refine getD_set_true ?_
    rcases Nat.decEq i j with hne | heq
    · rw [getD_set_ne false hne] at hl
      exact h.closed j oj hj hl e he hb
    · subst heq
      rw [ho] at hj
      rw [← Option.some.inj hj] at he
      exact hd e he hb
  · intro t ht hs
    rw [getD_set_ne true (by omega)]
    exact h.high t ht hs

end
end Go.Proofs.Ytlpjkolocgkcpaa

namespace Go.Proofs.Ytlpjkolocgkcpaa
open Go.RowKit

theorem blk_lt' {w : World} {k : Nat} {ob : Obj} (h : w.heap[k]? = some ob) : k < w.heap.size := (Array.getElem?_eq_some_iff.1 h).1
theorem gr_drewA (u : World) (O : Obj) : u.grownBy (u.alloc O).drew none := ⟨(World.grownBy_alloc u O none).os, (World.grownBy_alloc u O none).tape, (World.grownBy_alloc u O none).output, (World.grownBy_alloc u O none).size, (World.grownBy_alloc u O none).block⟩
theorem capA {K : Act → World → Prop} {a : Act} {u : World} {O : Obj} (h : ∀ W : World, W.heap[u.heap.size]? = some O → (∀ (B : Nat) (w0 : World), Below B w0 u → B ≤ u.heap.size → Below B w0 W) → (∀ (k : Nat) (ob : Obj), u.heap[k]? = some ob → W.heap[k]? = some ob) → u.grownBy W none → K a W) : K a (u.alloc O) :=
  h _ (World.alloc_heap_new u O) (fun _ _ hb hB => zbA hb hB O) (fun k ob hk => (Below.heap_alloc _ _ _ (blk_lt' hk)).trans hk) (World.grownBy_alloc _ _ none)
theorem capAD {K : Act → World → Prop} {a : Act} {u : World} {O : Obj} (h : ∀ W : World, W.heap[u.heap.size]? = some O → (∀ (B : Nat) (w0 : World), Below B w0 u → B ≤ u.heap.size → Below B w0 W) → (∀ (k : Nat) (ob : Obj), u.heap[k]? = some ob → W.heap[k]? = some ob) → u.grownBy W none → K a W) : K a (u.alloc O).drew :=
  h _ (World.alloc_heap_new u O) (fun _ _ hb hB => zbD (zbA hb hB O)) (fun k ob hk => (Below.heap_alloc _ _ _ (blk_lt' hk)).trans hk) (gr_drewA u O)
theorem set_grown (w : World) (p : Addr) (v : Value) : w.grownBy (w.setCell p v) (some p.block) :=
  ⟨rfl, rfl, rfl, by simp, fun k _ hk => Below.heap_setCell _ _ _ k (fun e => hk (by rw [e]))⟩
theorem own_setCell {w : World} {base g n c size : Nat} {e : TypeId} {xs : List Value} (h : w.ownsRow base e size (.slice (some ⟨g, 0, Option.none⟩) n c) n xs) (j : Nat) (v : Value) : (w.setCell ⟨g, j, Option.none⟩ v).ownsRow base e size (.slice (some ⟨g, 0, Option.none⟩) n c) n (xs.set j v) := by
  obtain ⟨h1, ⟨h2, _⟩ | ⟨g', cap, cur, e', hb, hblk, hc1, hc2, hsz, htk⟩⟩ := h
  · cases h2
  · simp only [Value.slice.injEq, Option.some.injEq, Addr.mk.injEq] at e'
    obtain ⟨⟨rfl, _⟩, _, rfl⟩ := e'
    refine ⟨by rw [List.length_set, h1], .inr ⟨g, c, _, rfl, hb, blk_set hblk j v, hc1, hc2, by rw [Array.size_setIfInBounds, hsz], ?_⟩⟩
    rw [Array.toList_setIfInBounds, List.take_set, htk]
theorem own_cellR {w : World} {base g n c size : Nat} {e : TypeId} {xs : List Value} (h : w.ownsRow base e size (.slice (some ⟨g, 0, Option.none⟩) n c) n xs) {j : Nat} {v : Value} (hj : xs[j]? = some v) : w.cell? ⟨g, j, Option.none⟩ = some v ∧ w.frozen? ⟨g, j, Option.none⟩ = false ∧ g < w.heap.size ∧ base ≤ g := by
  obtain ⟨h1, ⟨h2, _⟩ | ⟨g', cap, cur, e', hb, hblk, hc1, hc2, hsz, htk⟩⟩ := h
  · cases h2
  · simp only [Value.slice.injEq, Option.some.injEq, Addr.mk.injEq] at e'
    obtain ⟨⟨rfl, _⟩, _, rfl⟩ := e'
    refine ⟨?_, blk_frozen hblk _, blk_lt hblk, hb⟩
    rw [blk_cell hblk]
    have hl := (List.getElem?_eq_some_iff.1 hj).1
    rw [← htk, List.getElem?_take] at hj
    split at hj
    · rw [← Array.getElem?_toList]; exact hj
    · cases hj
theorem wp_lastR {P : Program} {c : Code} {R : Exit → Act → World → Prop} {a : Act} {w : World} (h : Code.wp P c (Exit.then (fun a w => R .normal a w) R) a w) : Code.wp P c R a w := Code.wp_mono (fun e a w h => by cases e <;> exact h) h
theorem setRow_new {W1 w : World} {g : Nat} {cells old : Array Value} {e : TypeId} (hW : W1 = w.setRow g cells) (h : w.heap[g]? = some (.cells old e (0, 0))) : W1.heap[g]? = some (.cells cells e (0, 0)) := by rw [hW]; exact setRow_heap _ _ _ _ _ _ h
theorem setRow_old {W1 w : World} {g g' : Nat} {cells : Array Value} {o : Obj} (hW : W1 = w.setRow g cells) (hne : g' ≠ g) (h : w.heap[g']? = some o) : W1.heap[g']? = some o := by rw [hW]; exact (setRow_other _ _ _ _ (by omega)).trans h
end Go.Proofs.Ytlpjkolocgkcpaa

namespace Go.Proofs.Ytlpjkolocgkcpaa
open Go.RowKit
attribute [local go_sem ↓] Go.wp_at_zero Go.wp_at_succ

def ints (o : List Nat) : List Int := o.map (fun (j : Nat) => (j : Int))
theorem ints_get {o : List Nat} {k x : Nat} (h : o[k]? = some x) : (flatI (ints o))[k]? = some (.int .i64 (x : Int)) := by
  refine flatI_at (x := (x : Int)) ?_
  unfold ints
  rw [List.getElem?_map, h]
  rfl
theorem ints_len (o : List Nat) : (ints o).length = o.length := by unfold ints; rw [List.length_map]
theorem own_setI {w : World} {base g n c : Nat} {o : List Nat} (h : w.ownsRow base 3 1 (.slice (some ⟨g, 0, none⟩) n c) n (flatI (ints o))) (j v : Nat) : (w.setCell ⟨g, j, none⟩ (.int .i64 (v : Int))).ownsRow base 3 1 (.slice (some ⟨g, 0, none⟩) n c) n (flatI (ints (o.set j v))) := by
  have h2 := own_setCell h j (.int .i64 (v : Int))
  unfold flatI ints at h2 ⊢
  rw [List.map_set, List.map_set]
  exact h2
theorem partyRow : (Try.prog.info? 42).map (·.size) = some 4 := by kernel_rfl
def OrdPost (q : G.Qu) (n : Nat) (w : World) (e : Ending) (w' : World) : Prop :=
  ∃ (A' : Option Addr) (c' : Nat) (o : List Nat), e = .returned (.slice A' n c') ∧ G.OrdS q.gs o n ∧ RdI w' w'.heap.size A' (ints o) ∧ Below w.heap.size w w'
set_option maxHeartbeats 12800000 in
set_option maxRecDepth 100000 in
theorem Order_ref (q : G.Qu) (A : Option Addr) (n c : Nat) (F : Option Addr) (m d : Nat) (w : World) (h : QIn w q A n c F m d) (hn : n ≤ 100) :
    Calls Try.prog 31 #[.agg #[.int .i64 q.opn, .int .i64 q.lo, .int .i64 q.hi, .int .i64 q.seats, .slice A n c, .slice F m d]] w (OrdPost q n w) := by
  have HI := hide h
  have HGL := hide h.gl
  clear h
  go_enter Try.func31, Try.ntmps31
  go_upto_region 1 with fail
  refine cap_w _ (fun w1 hw1 => ?_)
  have HB1 := hide (show Below w.heap.size w w1 by rw [hw1]; (repeat' first | exact zbR _ _ | assumption | refine zbD ?_ | refine zbA ?_ ?_ _ | refine zbS ?_ ?_ _ | refine zbT ?_ (by assumption) ?_ | (simp; done) | (simp; omega) | omega))
  have HQ1 := hide (show w1.heap[w.heap.size]? = some (.cells #[.int .i64 q.opn, .int .i64 q.lo, .int .i64 q.hi, .int .i64 q.seats, .slice A n c, .slice F m d] 27 (0, 0)) by rw [hw1]; exact World.alloc_heap_new _ _)
  have HR1 := hide ((HI.out.below HB1.out).rg)
  clear hw1
  obtain ⟨b0, hb0⟩ : ∃ x, w.heap.size = x := ⟨_, rfl⟩
  have HE0 := hide hb0
  rw [hb0] at HQ1 ⊢
  clear hb0
  go_wp2_with fail
  go_loopw [3, 4] (fun v3 v4 wr => ∃ (i : Nat) (A1 : Option Addr) (c1 : Nat) (o : List Nat), i ≤ n ∧ v4 = .int .i64 i ∧ v3 = .slice A1 i c1 ∧ Hid (G.OrdS q.gs o i) ∧ Hid (wr.ownsRow w1.heap.size 3 1 (.slice A1 i c1) i (flatI (ints o))) ∧ Hid (Below w1.heap.size w1 wr)) (fun _ i _ => n - (intOf i).toNat)
  case atStart => exact ⟨0, none, 0, [], by omega, rfl, rfl, hide ⟨rfl, List.Perm.refl _, fun a b x y _ h => by simp at h⟩, hide ⟨rfl, .inl ⟨rfl, rfl⟩⟩, hide (Below.refl _ _)⟩
  case round =>
    obtain ⟨i, A1, c1, o, hi, rfl, rfl, HOD, HOr, HBr⟩ := hrel
    have HQr := bkT HBr.out HQ1
    have x4 : wr.cell? ⟨b0, 4, none⟩ = some (.slice A n c) := (blk_cell HQr.out 4).trans rfl
    have lx := blk_lt HQr.out
    by_cases hlt : i < n
    · have hlt' : (i : Int) < (n : Int) := by omega
      have hw1 : IntKind.i64.wrap (((i + 1 : Nat) : Int) - 1) = (i : Int) := by rw [show ((i + 1 : Nat) : Int) - 1 = (i : Int) by omega]; exact IntWalk.i64_in _ (by omega)
      have hw2 : IntKind.i64.wrap ((i : Int) + 1 - 1) = (i : Int) := by rw [show (i : Int) + 1 - 1 = (i : Int) by omega]; exact IntWalk.i64_in _ (by omega)
      go_upto_region 7 with (refine wpList_app_at rfl (.tmp 15) (.tmp 17) rfl w1.heap.size _ (ints o) _ rfl (HOr.out.alloc _) (some ⟨_, 0, none⟩) 1 1 [(i : Int)] rfl rfl (rdI_one (World.alloc_heap_new _ _)) (fun e => by cases e) (by omega) (by omega) (by have := HBr.out.size; simp; omega) ?_; intro A2 c2 w2 hown2 hgrow; have hg2 := grown_below (B := w1.heap.size) hgrow (by have := HBr.out.size; simp; omega) (fun g hg => (HOr.out.lt g hg).1); have HO2 := hide hown2; have HB2 := hide (zbT (zbA HBr.out HBr.out.size _) hg2 (Nat.le_refl _)); clear hown2 hgrow hg2)
      clear x4 lx
      have HO2' := hide (show w2.ownsRow w1.heap.size 3 1 (.slice A2 (i + 1) c2) (i + 1) (flatI (ints (o ++ [i]))) by have h := HO2.out; unfold ints at h ⊢; rw [List.map_append]; exact h)
      clear HO2 HOr HQr
      go_loopw [5] (fun v5 wr => ∃ (k : Nat) (o2 : List Nat), v5 = .int .i64 k ∧ Hid (G.Ins q.gs o2 i k) ∧ Hid (wr.ownsRow w1.heap.size 3 1 (.slice A2 (i + 1) c2) (i + 1) (flatI (ints o2))) ∧ Hid (Below w1.heap.size w1 wr)) (fun v _ => (intOf v).toNat)
      case atStart => exact ⟨i, o ++ [i], by go_num, hide HOD.out.add, HO2', HB2⟩
      case round =>
        clear HO2' HB2 HBr
        obtain ⟨k, o2, rfl, HIN, HO3, HB3⟩ := hrel
        cases k with
        | zero =>
          go_wp2_with fail
          go_roundw
          case rel => exact ⟨i + 1, A2, c2, o2, by omega, by go_num, by go_num, hide (HIN.out.done (fun j x y e => by omega)), HO3, HB3⟩
          case measure => simp [intOf]; omega
        | succ j =>
          have hIk := HIN.out.kl
          obtain ⟨x, hx⟩ : ∃ x, o2[j]? = some x := ⟨_, List.getElem?_eq_getElem (by have := HIN.out.len; omega)⟩
          obtain ⟨y, hy⟩ : ∃ y, o2[j + 1]? = some y := ⟨_, List.getElem?_eq_getElem (by have := HIN.out.len; omega)⟩
          have hxn : x < n := by have := List.mem_range.1 (HIN.out.perm.mem_iff.1 (List.mem_of_getElem? hx)); omega
          have hyn : y < n := by have := List.mem_range.1 (HIN.out.perm.mem_iff.1 (List.mem_of_getElem? hy)); omega
          obtain ⟨px, hpx⟩ : ∃ p, q.gs[x]? = some p := ⟨_, List.getElem?_eq_getElem (by have := HGL.out; omega)⟩
          obtain ⟨py, hpy⟩ : ∃ p, q.gs[y]? = some p := ⟨_, List.getElem?_eq_getElem (by have := HGL.out; omega)⟩
          have HX := hide hx
          have HY := hide hy
          have HPX := hide (show G.ptAt q.gs x = px by unfold G.ptAt; rw [hpx]; rfl)
          have HPY := hide (show G.ptAt q.gs y = py by unfold G.ptAt; rw [hpy]; rfl)
          obtain ⟨g, hg⟩ : ∃ g, A2 = some ⟨g, 0, none⟩ := by obtain ⟨g, e, _⟩ := own_slice HO3.out (by omega); exact ⟨g, e⟩
          subst hg
          obtain ⟨na, nf, ng, nh⟩ := own_cellR HO3.out (ints_get hx)
          obtain ⟨nb, _, _, _⟩ := own_cellR HO3.out (ints_get hy)
          have HQ3 := bkT HB3.out HQ1
          obtain ⟨bg, og, rfl, hbg, d0, d1, d2, d3⟩ := (HR1.out.below HB3.out) x px hpx
          obtain ⟨bg', og', e', _, e0, e1, e2, e3⟩ := (HR1.out.below HB3.out) y py hpy
          injection e' with e'
          injection e' with f1 f2
          subst f1 f2
          have hbg3 := Nat.lt_of_lt_of_le hbg HB3.out.size
          have hx1 : (x : Int) < (n : Int) := by omega
          have hx0 : (0 : Int) ≤ (x : Int) := by omega
          have hy1 : (y : Int) < (n : Int) := by omega
          have hy0 : (0 : Int) ≤ (y : Int) := by omega
          have hj0 : (0 : Int) ≤ (j : Int) := by omega
          have hj1 : (j : Int) < ((i + 1 : Nat) : Int) := by omega
          have hj2 : ((j + 1 : Nat) : Int) < ((i + 1 : Nat) : Int) := by omega
          have hj3 : (0 : Int) < ((j + 1 : Nat) : Int) := by omega
          have hji : j < i := by omega
          have hj4 : (0 : Int) ≤ (j : Int) + 1 := by omega
          have hj5 : (j : Int) < (i : Int) + 1 := by omega
          have hw4 : IntKind.i64.wrap (j : Int) = (j : Int) := IntWalk.i64_in _ (by omega)
          have hw5 : IntKind.i64.wrap ((j : Int) + 1 - 1) = (j : Int) := by rw [show (j : Int) + 1 - 1 = (j : Int) by omega]; exact hw4
          have hw3 : IntKind.i64.wrap (((j + 1 : Nat) : Int) - 1) = (j : Int) := by rw [show ((j + 1 : Nat) : Int) - 1 = (j : Int) by omega]; exact IntWalk.i64_in _ (by omega)
          have x4 : wr.cell? ⟨b0, 4, none⟩ = some (.slice (some ⟨bg, og, none⟩) n c) := (blk_cell HQ3.out 4).trans rfl
          have lx := blk_lt HQ3.out
          clear hx hy hpx hpy
          go_upto_region 9 with fail
          have hSof : ∀ w', Below wr.heap.size wr w' → Below wr.heap.size wr w' ∧ w'.cell? ⟨b0, 4, none⟩ = some (.slice (some ⟨bg, og, none⟩) n c) ∧ b0 < w'.heap.size ∧ w'.cell? ⟨g, j, none⟩ = some (.int .i64 (x : Int)) ∧ w'.cell? ⟨g, j + 1, none⟩ = some (.int .i64 (y : Int)) ∧ g < w'.heap.size ∧ bg < w'.heap.size ∧ w'.cell? ⟨bg, og + x * 4, none⟩ = some (.int .i64 px.id) ∧ w'.cell? ⟨bg, og + x * 4 + 1, none⟩ = some (.int .i64 px.at_) ∧ w'.cell? ⟨bg, og + x * 4 + 2, none⟩ = some (.int .i64 px.size) ∧ w'.cell? ⟨bg, og + x * 4 + 3, none⟩ = some (.int .i64 px.quits) ∧ w'.cell? ⟨bg, og + y * 4, none⟩ = some (.int .i64 py.id) ∧ w'.cell? ⟨bg, og + y * 4 + 1, none⟩ = some (.int .i64 py.at_) ∧ w'.cell? ⟨bg, og + y * 4 + 2, none⟩ = some (.int .i64 py.size) ∧ w'.cell? ⟨bg, og + y * 4 + 3, none⟩ = some (.int .i64 py.quits) := fun w' hb => by
            have hQ := (hb.block _ (blk_lt HQ3.out)).trans HQ3.out
            refine ⟨hb, (blk_cell hQ 4).trans rfl, blk_lt hQ, (hb.cell (p := ⟨g, _, none⟩) ng).trans na, (hb.cell (p := ⟨g, _, none⟩) ng).trans nb, Nat.lt_of_lt_of_le ng hb.size, Nat.lt_of_lt_of_le hbg3 hb.size, ?_⟩
            exact ⟨(hb.cell (p := ⟨bg, _, none⟩) hbg3).trans d0, (hb.cell (p := ⟨bg, _, none⟩) hbg3).trans d1, (hb.cell (p := ⟨bg, _, none⟩) hbg3).trans d2, (hb.cell (p := ⟨bg, _, none⟩) hbg3).trans d3, (hb.cell (p := ⟨bg, _, none⟩) hbg3).trans e0, (hb.cell (p := ⟨bg, _, none⟩) hbg3).trans e1, (hb.cell (p := ⟨bg, _, none⟩) hbg3).trans e2, (hb.cell (p := ⟨bg, _, none⟩) hbg3).trans e3⟩
          go_cut [6, 7] from 26 to 42 (fun v6 v7 wx => ∃ g6 g7 : Nat, v6 = .pointer (some ⟨g6, 0, none⟩) ∧ v7 = .pointer (some ⟨g7, 0, none⟩) ∧ Hid (wx.heap[g6]? = some (.cells #[.int .i64 px.id, .int .i64 px.at_, .int .i64 px.size, .int .i64 px.quits] 42 (0, 0))) ∧ Hid (wx.heap[g7]? = some (.cells #[.int .i64 py.id, .int .i64 py.at_, .int .i64 py.size, .int .i64 py.quits] 42 (0, 0))) ∧ Hid (Below wr.heap.size wr wx))
          case first =>
            rename_i J0 K0 hJ0 hK0
            have hS : (fun w' => Below wr.heap.size wr w' ∧ w'.cell? ⟨b0, 4, none⟩ = some (.slice (some ⟨bg, og, none⟩) n c) ∧ b0 < w'.heap.size ∧ w'.cell? ⟨g, j, none⟩ = some (.int .i64 (x : Int)) ∧ w'.cell? ⟨g, j + 1, none⟩ = some (.int .i64 (y : Int)) ∧ g < w'.heap.size ∧ bg < w'.heap.size ∧ w'.cell? ⟨bg, og + x * 4, none⟩ = some (.int .i64 px.id) ∧ w'.cell? ⟨bg, og + x * 4 + 1, none⟩ = some (.int .i64 px.at_) ∧ w'.cell? ⟨bg, og + x * 4 + 2, none⟩ = some (.int .i64 px.size) ∧ w'.cell? ⟨bg, og + x * 4 + 3, none⟩ = some (.int .i64 px.quits) ∧ w'.cell? ⟨bg, og + y * 4, none⟩ = some (.int .i64 py.id) ∧ w'.cell? ⟨bg, og + y * 4 + 1, none⟩ = some (.int .i64 py.at_) ∧ w'.cell? ⟨bg, og + y * 4 + 2, none⟩ = some (.int .i64 py.size) ∧ w'.cell? ⟨bg, og + y * 4 + 3, none⟩ = some (.int .i64 py.quits)) wr := hSof _ (zbR _ _)
            (try dsimp only at hS)
            clear x4 lx
            refine wp_region_held_drew (S := (fun w' => Below wr.heap.size wr w' ∧ w'.cell? ⟨b0, 4, none⟩ = some (.slice (some ⟨bg, og, none⟩) n c) ∧ b0 < w'.heap.size ∧ w'.cell? ⟨g, j, none⟩ = some (.int .i64 (x : Int)) ∧ w'.cell? ⟨g, j + 1, none⟩ = some (.int .i64 (y : Int)) ∧ g < w'.heap.size ∧ bg < w'.heap.size ∧ w'.cell? ⟨bg, og + x * 4, none⟩ = some (.int .i64 px.id) ∧ w'.cell? ⟨bg, og + x * 4 + 1, none⟩ = some (.int .i64 px.at_) ∧ w'.cell? ⟨bg, og + x * 4 + 2, none⟩ = some (.int .i64 px.size) ∧ w'.cell? ⟨bg, og + x * 4 + 3, none⟩ = some (.int .i64 px.quits) ∧ w'.cell? ⟨bg, og + y * 4, none⟩ = some (.int .i64 py.id) ∧ w'.cell? ⟨bg, og + y * 4 + 1, none⟩ = some (.int .i64 py.at_) ∧ w'.cell? ⟨bg, og + y * 4 + 2, none⟩ = some (.int .i64 py.size) ∧ w'.cell? ⟨bg, og + y * 4 + 3, none⟩ = some (.int .i64 py.quits))) (by kernel_rfl) ?_ (fun hD0 => ?_)
            · (try dsimp only); first | assumption | exact hSof _ (zbD (zbR _ _))
            refine tW ?_ 0 rfl (by kernel_rfl) (fun _ _ _ h => h) (by rfl) (by assumption) ?_ ?_; rotate_left; (focus (intro w hSw; (try dsimp only at hSw); go_simp; try with_reducible rfl)); try simp only [Act.put, zl, z0, z1]
            refine tW ?_ 1 rfl (by kernel_rfl) (fun _ _ _ h => h) (by rfl) (by assumption) ?_ ?_; rotate_left; (focus (intro w hSw; (try dsimp only at hSw); go_simp; try with_reducible rfl)); try simp only [Act.put, zl, z0, z1]
            refine tW ?_ 2 rfl (by kernel_rfl) (fun _ _ _ h => h) (by rfl) (by assumption) ?_ ?_; rotate_left; (focus (intro w hSw; (try dsimp only at hSw); go_simp; try with_reducible rfl)); try simp only [Act.put, zl, z0, z1]
            refine tW ?_ 3 rfl (by kernel_rfl) (fun _ _ _ h => h) (by rfl) (by assumption) ?_ ?_; rotate_left; (focus (intro w hSw; (try dsimp only at hSw); go_simp; try with_reducible rfl)); try simp only [Act.put, zl, z0, z1]
            refine tW ?_ 4 rfl (by kernel_rfl) (fun _ _ _ h => h) (by rfl) (by assumption) ?_ ?_; rotate_left; (focus (intro w hSw; (try dsimp only at hSw); go_simp; try with_reducible rfl)); try simp only [Act.put, zl, z0, z1]
            refine tW ?_ 5 rfl (by kernel_rfl) (fun _ _ _ h => h) (by rfl) (by assumption) ?_ ?_; rotate_left; (focus (intro w hSw; (try dsimp only at hSw); go_simp; try with_reducible rfl)); try simp only [Act.put, zl, z0, z1]
            refine tW ?_ 6 rfl (by kernel_rfl) (fun _ _ _ h => h) (by rfl) (by assumption) ?_ ?_; rotate_left; (focus (intro w hSw; (try dsimp only at hSw); go_simp; try with_reducible rfl)); try simp only [Act.put, zl, z0, z1]
            refine tW ?_ 7 rfl (by kernel_rfl) (fun _ _ _ h => h) (by rfl) (by assumption) ?_ ?_; rotate_left; (focus (intro w hSw; (try dsimp only at hSw); go_simp; try with_reducible rfl)); try simp only [Act.put, zl, z0, z1]
            refine tW ?_ 8 rfl (by kernel_rfl) (fun _ _ _ h => h) (by rfl) (by assumption) ?_ ?_; rotate_left; (focus (intro w hSw; (try dsimp only at hSw); go_simp; try with_reducible rfl)); try simp only [Act.put, zl, z0, z1]
            refine tW ?_ 9 rfl (by kernel_rfl) (fun _ _ _ h => h) (by rfl) (by assumption) ?_ ?_; rotate_left; (focus (intro w hSw; (try dsimp only at hSw); go_simp; try with_reducible rfl)); try simp only [Act.put, zl, z0, z1]
            refine tW ?_ 10 rfl (by kernel_rfl) (fun _ _ _ h => h) (by rfl) (by assumption) ?_ ?_; rotate_left; (focus (intro w hSw; (try dsimp only at hSw); go_simp; try with_reducible rfl)); try simp only [Act.put, zl, z0, z1]
            refine tW ?_ 11 rfl (by kernel_rfl) (fun _ _ _ h => h) (by rfl) (by assumption) ?_ ?_; rotate_left; (focus (intro w hSw; (try dsimp only at hSw); go_simp; try with_reducible rfl)); try simp only [Act.put, zl, z0, z1]
            refine tW ?_ 12 rfl (by kernel_rfl) (fun _ _ _ h => h) (by rfl) (by assumption) ?_ ?_; rotate_left; (focus (intro w hSw; (try dsimp only at hSw); go_simp; try with_reducible rfl)); try simp only [Act.put, zl, z0, z1]
            refine tW ?_ 13 rfl (by kernel_rfl) (fun _ _ _ h => h) (by rfl) (by assumption) ?_ ?_; rotate_left; (focus (intro w hSw; (try dsimp only at hSw); go_simp; try with_reducible rfl)); try simp only [Act.put, zl, z0, z1]
            refine tW ?_ 14 rfl (by kernel_rfl) (fun _ _ _ h => h) (by rfl) (by assumption) ?_ ?_; rotate_left; (focus (intro w hSw; (try dsimp only at hSw); go_simp; try with_reducible rfl)); try simp only [Act.put, zl, z0, z1]
            refine tW ?_ 15 rfl (by kernel_rfl) (fun _ _ _ h => h) (by rfl) (by assumption) ?_ ?_; rotate_left; (focus (intro w hSw; (try dsimp only at hSw); go_simp; try with_reducible rfl)); try simp only [Act.put, zl, z0, z1]
            refine tW ?_ 16 rfl (by kernel_rfl) (fun _ _ _ h => h) (by rfl) (by assumption) ?_ ?_; rotate_left; (focus (intro w hSw; (try dsimp only at hSw); go_simp; try with_reducible rfl)); try simp only [Act.put, zl, z0, z1]
            refine wpAnyH_ready (rs := [17, 18]) (by kernel_rfl) (by simp) ?_; refine consL 17 rfl (fun K hK => ?_) ?_
            (go_simp; (first | refine capA (fun W0 hG hB hk hgr => ?_) | refine capAD (fun W0 hG hB hk hgr => ?_)); have hSn := hSof _ (by first | exact hB _ _ hD0.1 hD0.1.size | exact hB _ _ (zbR _ _) (Nat.le_refl _)); have HA6 := hide hG; have HA6L := hide hD0.1.size; (try have HNE := hide (Nat.ne_of_lt (blk_lt HA7.out))); (try replace HA7 := hide (hk _ _ HA7.out)); clear hG hB hk hgr; (try dsimp only at hSn))
            refine hK.out _ _ ?_ (fun hD1 => ?_)
            · (try dsimp only); first | assumption | exact hSof _ (zbD (zbR _ _))
            clear hK K hD0; try simp only [Act.put, zl, z0, z1]
            refine wpAnyH_ready (rs := [18]) (by kernel_rfl) (by simp) ?_; refine consL 18 rfl (fun K hK => ?_) AllReadyH.nil
            (go_simp; (first | refine capA (fun W0 hG hB hk hgr => ?_) | refine capAD (fun W0 hG hB hk hgr => ?_)); have hSn := hSof _ (by first | exact hB _ _ hD1.1 hD1.1.size | exact hB _ _ (zbR _ _) (Nat.le_refl _)); have HA7 := hide hG; have HA7L := hide hD1.1.size; (try have HNE := hide (Nat.ne_of_lt (blk_lt HA6.out))); (try replace HA6 := hide (hk _ _ HA6.out)); clear hG hB hk hgr; (try dsimp only at hSn))
            refine hK.out _ _ ?_ (fun hD2 => ?_)
            · (try dsimp only); first | assumption | exact hSof _ (zbD (zbR _ _))
            clear hK K hD1; try simp only [Act.put, zl, z0, z1]
            refine wpAnyH_ready (rs := [19]) (by kernel_rfl) (by simp) ?_; refine consL 19 rfl (fun K hK => ?_) AllReadyH.nil
            (refine step_row rfl 42 (.tmp 6) (.tmp 34) rfl _ #[.int .i64 px.id, .int .i64 px.at_, .int .i64 px.size, .int .i64 px.quits] rfl rfl 42 _ HA6.out partyRow rfl (by simp [Value.oneCell']) ?_; refine cap_gen (K := K) (fun W1 hW1 => ?_); have hSn := hSof W1 (by rw [hW1]; exact below_row hD2.1 HA6L.out _); replace HA6 := hide (setRow_new hW1 HA6.out); replace HA7 := hide (setRow_old hW1 (by have := HNE.out; omega) HA7.out); clear hW1; (try dsimp only at hSn))
            refine hK.out _ _ ?_ (fun hD3 => ?_)
            · (try dsimp only); first | assumption | exact hSof _ (zbD (zbR _ _))
            clear hK K hD2; try simp only [Act.put, zl, z0, z1]
            refine wpAnyH_ready (rs := [20]) (by kernel_rfl) (by simp) ?_; refine consL 20 rfl (fun K hK => ?_) AllReadyH.nil
            (refine step_row rfl 42 (.tmp 7) (.tmp 42) rfl _ #[.int .i64 py.id, .int .i64 py.at_, .int .i64 py.size, .int .i64 py.quits] rfl rfl 42 _ HA7.out partyRow rfl (by simp [Value.oneCell']) ?_; refine cap_gen (K := K) (fun W1 hW1 => ?_); have hSn := hSof W1 (by rw [hW1]; exact below_row hD3.1 HA7L.out _); replace HA7 := hide (setRow_new hW1 HA7.out); replace HA6 := hide (setRow_old hW1 (by have := HNE.out; omega) HA6.out); clear hW1; (try dsimp only at hSn))
            refine hK.out _ _ ?_ (fun hD4 => ?_)
            · (try dsimp only); first | assumption | exact hSof _ (zbD (zbR _ _))
            clear hK K hD3; try simp only [Act.put, zl, z0, z1]
            refine wpAnyH_done (by kernel_rfl) ?_ _
            rotate_left 1
            refine consL 18 rfl (fun K hK => ?_) AllReadyH.nil
            (go_simp; (first | refine capA (fun W0 hG hB hk hgr => ?_) | refine capAD (fun W0 hG hB hk hgr => ?_)); have hSn := hSof _ (by first | exact hB _ _ hD0.1 hD0.1.size | exact hB _ _ (zbR _ _) (Nat.le_refl _)); have HA7 := hide hG; have HA7L := hide hD0.1.size; (try have HNE := hide (Nat.ne_of_lt (blk_lt HA6.out))); (try replace HA6 := hide (hk _ _ HA6.out)); clear hG hB hk hgr; (try dsimp only at hSn))
            refine hK.out _ _ ?_ (fun hD1 => ?_)
            · (try dsimp only); first | assumption | exact hSof _ (zbD (zbR _ _))
            clear hK K hD0; try simp only [Act.put, zl, z0, z1]
            refine wpAnyH_ready (rs := [17]) (by kernel_rfl) (by simp) ?_; refine consL 17 rfl (fun K hK => ?_) AllReadyH.nil
            (go_simp; (first | refine capA (fun W0 hG hB hk hgr => ?_) | refine capAD (fun W0 hG hB hk hgr => ?_)); have hSn := hSof _ (by first | exact hB _ _ hD1.1 hD1.1.size | exact hB _ _ (zbR _ _) (Nat.le_refl _)); have HA6 := hide hG; have HA6L := hide hD1.1.size; (try have HNE := hide (Nat.ne_of_lt (blk_lt HA7.out))); (try replace HA7 := hide (hk _ _ HA7.out)); clear hG hB hk hgr; (try dsimp only at hSn))
            refine hK.out _ _ ?_ (fun hD2 => ?_)
            · (try dsimp only); first | assumption | exact hSof _ (zbD (zbR _ _))
            clear hK K hD1; try simp only [Act.put, zl, z0, z1]
            refine wpAnyH_ready (rs := [19]) (by kernel_rfl) (by simp) ?_; refine consL 19 rfl (fun K hK => ?_) AllReadyH.nil
            (refine step_row rfl 42 (.tmp 6) (.tmp 34) rfl _ #[.int .i64 px.id, .int .i64 px.at_, .int .i64 px.size, .int .i64 px.quits] rfl rfl 42 _ HA6.out partyRow rfl (by simp [Value.oneCell']) ?_; refine cap_gen (K := K) (fun W1 hW1 => ?_); have hSn := hSof W1 (by rw [hW1]; exact below_row hD2.1 HA6L.out _); replace HA6 := hide (setRow_new hW1 HA6.out); replace HA7 := hide (setRow_old hW1 (by have := HNE.out; omega) HA7.out); clear hW1; (try dsimp only at hSn))
            refine hK.out _ _ ?_ (fun hD3 => ?_)
            · (try dsimp only); first | assumption | exact hSof _ (zbD (zbR _ _))
            clear hK K hD2; try simp only [Act.put, zl, z0, z1]
            refine wpAnyH_ready (rs := [20]) (by kernel_rfl) (by simp) ?_; refine consL 20 rfl (fun K hK => ?_) AllReadyH.nil
            (refine step_row rfl 42 (.tmp 7) (.tmp 42) rfl _ #[.int .i64 py.id, .int .i64 py.at_, .int .i64 py.size, .int .i64 py.quits] rfl rfl 42 _ HA7.out partyRow rfl (by simp [Value.oneCell']) ?_; refine cap_gen (K := K) (fun W1 hW1 => ?_); have hSn := hSof W1 (by rw [hW1]; exact below_row hD3.1 HA7L.out _); replace HA7 := hide (setRow_new hW1 HA7.out); replace HA6 := hide (setRow_old hW1 (by have := HNE.out; omega) HA6.out); clear hW1; (try dsimp only at hSn))
            refine hK.out _ _ ?_ (fun hD4 => ?_)
            · (try dsimp only); first | assumption | exact hSof _ (zbD (zbR _ _))
            clear hK K hD3; try simp only [Act.put, zl, z0, z1]
            refine wpAnyH_done (by kernel_rfl) ?_ _
            all_goals
              (try dsimp only [Act.put, List.getElem_toArray, List.getElem_cons_succ, List.getElem_cons_zero])
              (try simp only [zl, z0, z1])
              (first | refine hK0 _ _ (Met.intro (hJ0 _ _ ?_)) | refine Met.intro (hJ0 _ _ ?_) | refine hJ0 _ _ ?_)
              (repeat apply Exists.intro)
              refine ⟨?rel, rfl⟩
              case rel => exact ⟨_, _, rfl, rfl, HA6, HA7, hide hSn.1⟩
          case rest =>
            obtain ⟨g6, g7, rfl, rfl, HA6, HA7, HB34⟩ := hcut
            obtain ⟨w4, hw4⟩ : ∃ q, wc = q := ⟨_, rfl⟩
            rw [hw4] at HA6 HA7 HB34 ⊢
            clear hw4 hSof x4 lx d0 d1 d2 d3 e0 e1 e2 e3
            have HB4 := hide (zbT HB3.out HB34.out HB3.out.size)
            have HO4 := hide (owns_below HO3.out HB34.out)
            have na := (HB34.out.cell (p := ⟨g, _, none⟩) ng).trans na
            have nb := (HB34.out.cell (p := ⟨g, _, none⟩) ng).trans nb
            have nf := (HB34.out.frozen (p := ⟨g, j, none⟩) ng).trans nf
            have ng := Nat.lt_of_lt_of_le ng HB34.out.size
            have a0 : w4.cell? ⟨g6, 0, none⟩ = some (.int .i64 px.id) := (blk_cell HA6.out 0).trans rfl
            have a1 : w4.cell? ⟨g6, 1, none⟩ = some (.int .i64 px.at_) := (blk_cell HA6.out 1).trans rfl
            have la := blk_lt HA6.out
            have b0' : w4.cell? ⟨g7, 0, none⟩ = some (.int .i64 py.id) := (blk_cell HA7.out 0).trans rfl
            have b1 : w4.cell? ⟨g7, 1, none⟩ = some (.int .i64 py.at_) := (blk_cell HA7.out 1).trans rfl
            have lb := blk_lt HA7.out
            have HDN := hide (fun (hl : G.lt px py = true) => HIN.out.done (fun j' x' y' e hx' hy' => by
              obtain rfl : j' = j := by omega
              rw [HX.out] at hx'
              rw [HY.out] at hy'
              cases hx'
              cases hy'
              rw [HPX.out, HPY.out]
              exact hl))
            by_cases c1 : px.at_ < py.at_
            · have hl := hide (show G.lt px py = true by unfold G.lt; simp [c1])
              go_wp2_with fail
              go_roundw
              case rel => exact ⟨i + 1, some ⟨g, 0, none⟩, c2, o2, by omega, by go_num, by go_num, hide (HDN.out hl.out), HO4, HB4⟩
              case measure => simp [intOf]; omega
            · have c1' : py.at_ ≤ px.at_ := by omega
              by_cases c2' : px.at_ = py.at_
              · have c2b : (px.at_ == py.at_) = true := by simpa using c2'
                by_cases c3 : px.id < py.id
                · have hl := hide (show G.lt px py = true by unfold G.lt; simp [c2', c3])
                  clear c1 c2'
                  go_wp2_with fail
                  go_roundw
                  case rel => exact ⟨i + 1, some ⟨g, 0, none⟩, c2, o2, by omega, by go_num, by go_num, hide (HDN.out hl.out), HO4, HB4⟩
                  case measure => simp [intOf]; omega
                · have hl := hide (show G.lt px py = false by unfold G.lt; simp [c2', c3])
                  have c3' : py.id ≤ px.id := by omega
                  clear c1 c2' c3
                  go_upto_region 11 with fail
                  clear a0 a1 la b0' b1 lb c1' c2b
                  refine wp_lastR ?_
                  refine wp_region_T_drew (S := (fun _ => Hid True)) 17 (by kernel_rfl) ?_ (fun hD0 => ?_)
                  · (try dsimp only); first | exact hide trivial
                  refine takeT (v := ?_) 0 rfl (by kernel_rfl) (by kernel_rfl) (by kernel_rfl) (by kernel_rfl) (fun _ _ _ h => h) (Or.inl ⟨by rfl, ?_⟩) (by assumption) ?_; rotate_left
                  · (intro w hSw; (try dsimp only at hSw); go_simp; try with_reducible rfl)
                  try simp only [Act.put, zl, z0, z1]
                  refine takeT (v := ?_) 1 rfl (by kernel_rfl) (by kernel_rfl) (by kernel_rfl) (by kernel_rfl) (fun _ _ _ h => h) (Or.inl ⟨by rfl, ?_⟩) (by assumption) ?_; rotate_left
                  · (intro w hSw; (try dsimp only at hSw); go_simp; try with_reducible rfl)
                  try simp only [Act.put, zl, z0, z1]
                  refine takeT (v := ?_) 2 rfl (by kernel_rfl) (by kernel_rfl) (by kernel_rfl) (by kernel_rfl) (fun _ _ _ h => h) (Or.inl ⟨by rfl, ?_⟩) (by assumption) ?_; rotate_left
                  · (intro w hSw; (try dsimp only at hSw); go_simp; try with_reducible rfl)
                  try simp only [Act.put, zl, z0, z1]
                  refine takeT (v := ?_) 3 rfl (by kernel_rfl) (by kernel_rfl) (by kernel_rfl) (by kernel_rfl) (fun _ _ _ h => h) (Or.inl ⟨by rfl, ?_⟩) (by assumption) ?_; rotate_left
                  · (intro w hSw; (try dsimp only at hSw); go_simp; try with_reducible rfl)
                  try simp only [Act.put, zl, z0, z1]
                  refine takeT (v := ?_) 4 rfl (by kernel_rfl) (by kernel_rfl) (by kernel_rfl) (by kernel_rfl) (fun _ _ _ h => h) (Or.inl ⟨by rfl, ?_⟩) (by assumption) ?_; rotate_left
                  · (intro w hSw; (try dsimp only at hSw); go_simp; try with_reducible rfl)
                  try simp only [Act.put, zl, z0, z1]
                  refine takeT (v := ?_) 5 rfl (by kernel_rfl) (by kernel_rfl) (by kernel_rfl) (by kernel_rfl) (fun _ _ _ h => h) (Or.inl ⟨by rfl, ?_⟩) (by assumption) ?_; rotate_left
                  · (intro w hSw; (try dsimp only at hSw); go_simp; try with_reducible rfl)
                  try simp only [Act.put, zl, z0, z1]
                  refine takeT (v := ?_) 6 rfl (by kernel_rfl) (by kernel_rfl) (by kernel_rfl) (by kernel_rfl) (fun _ _ _ h => h) (Or.inl ⟨by rfl, ?_⟩) (by assumption) ?_; rotate_left
                  · (intro w hSw; (try dsimp only at hSw); go_simp; try with_reducible rfl)
                  try simp only [Act.put, zl, z0, z1]
                  refine takeT (v := ?_) 7 rfl (by kernel_rfl) (by kernel_rfl) (by kernel_rfl) (by kernel_rfl) (fun _ _ _ h => h) (Or.inl ⟨by rfl, ?_⟩) (by assumption) ?_; rotate_left
                  · (intro w hSw; (try dsimp only at hSw); go_simp; try with_reducible rfl)
                  try simp only [Act.put, zl, z0, z1]
                  refine takeT (v := ?_) 9 rfl (by kernel_rfl) (by kernel_rfl) (by kernel_rfl) (by kernel_rfl) (fun _ _ _ h => h) (Or.inl ⟨by rfl, ?_⟩) (by assumption) ?_; rotate_left
                  · (intro w hSw; (try dsimp only at hSw); go_simp; try with_reducible rfl)
                  try simp only [Act.put, zl, z0, z1]
                  refine takeT (v := ?_) 10 rfl (by kernel_rfl) (by kernel_rfl) (by kernel_rfl) (by kernel_rfl) (fun _ _ _ h => h) (Or.inl ⟨by rfl, ?_⟩) (by assumption) ?_; rotate_left
                  · (intro w hSw; (try dsimp only at hSw); go_simp; try with_reducible rfl)
                  try simp only [Act.put, zl, z0, z1]
                  refine takeT (v := ?_) 11 rfl (by kernel_rfl) (by kernel_rfl) (by kernel_rfl) (by kernel_rfl) (fun _ _ _ h => h) (Or.inl ⟨by rfl, ?_⟩) (by assumption) ?_; rotate_left
                  · (intro w hSw; (try dsimp only at hSw); go_simp; try with_reducible rfl)
                  try simp only [Act.put, zl, z0, z1]
                  refine takeT (v := ?_) 12 rfl (by kernel_rfl) (by kernel_rfl) (by kernel_rfl) (by kernel_rfl) (fun _ _ _ h => h) (Or.inl ⟨by rfl, ?_⟩) (by assumption) ?_; rotate_left
                  · (intro w hSw; (try dsimp only at hSw); go_simp; try with_reducible rfl)
                  try simp only [Act.put, zl, z0, z1]
                  refine wpAnyT_ready (rs := [8, 13]) (by kernel_rfl) (by simp) ?_; refine consT 8 rfl (fun K hK => ?_) ?_; go_simp
                  refine hK.out _ _ ?_ (fun hD1 => ?_)
                  · (try dsimp only); first | exact hD0 | (first | exact hide trivial)
                  clear hK K hD0; try simp only [Act.put, zl, z0, z1]
                  refine wpAnyT_ready (rs := [13]) (by kernel_rfl) (by simp) ?_; refine consT 13 rfl (fun K hK => ?_) AllReadyT.nil; go_simp
                  refine hK.out _ _ ?_ (fun hD2 => ?_)
                  · (try dsimp only); first | exact hD1 | (first | exact hide trivial)
                  clear hK K hD1; try simp only [Act.put, zl, z0, z1]
                  refine takeT (v := ?_) 14 rfl (by kernel_rfl) (by kernel_rfl) (by kernel_rfl) (by kernel_rfl) (fun _ _ _ h => h) (Or.inl ⟨by rfl, ?_⟩) (by assumption) ?_; rotate_left
                  · (intro w hSw; (try dsimp only at hSw); go_simp; try with_reducible rfl)
                  try simp only [Act.put, zl, z0, z1]
                  refine wpAnyT_ready (rs := [15]) (by kernel_rfl) (by simp) ?_; refine consT 15 rfl (fun K hK => ?_) AllReadyT.nil
                  (go_simp; refine cap_gen (K := K) (fun W1 hW1 => ?_); have HO5 := hide (show W1.ownsRow w1.heap.size 3 1 (.slice (some ⟨g, 0, none⟩) (i + 1) c2) (i + 1) (flatI (ints (o2.set j y))) by rw [hW1]; exact own_setI (show w4.drew.ownsRow w1.heap.size 3 1 (.slice (some ⟨g, 0, none⟩) (i + 1) c2) (i + 1) (flatI (ints o2)) from HO4.out) j y); have hs5 := own_cellR HO5.out (ints_get (show (o2.set j y)[j + 1]? = some y by rw [List.getElem?_set, if_neg (by omega)]; exact HY.out)); have hs5a := hs5.1; have hs5b := hs5.2.1; have hs5c := hs5.2.2.1; have HG5 := hide (show w4.drew.grownBy W1 (some g) by rw [hW1]; exact set_grown _ ⟨g, j, none⟩ _); clear hW1 hs5 na nb nf ng)
                  refine hK.out _ _ ?_ (fun hD3 => ?_)
                  · (try dsimp only); first | exact hide trivial
                  clear hK K hD2; try simp only [Act.put, zl, z0, z1]
                  refine takeT (v := ?_) 16 rfl (by kernel_rfl) (by kernel_rfl) (by kernel_rfl) (by kernel_rfl) (fun _ _ _ h => h) (Or.inl ⟨by rfl, ?_⟩) (by assumption) ?_; rotate_left
                  · (intro w hSw; (try dsimp only at hSw); go_simp; try with_reducible rfl)
                  try simp only [Act.put, zl, z0, z1]
                  refine wpAnyT_ready (rs := [17]) (by kernel_rfl) (by simp) ?_
                  refine lastT rfl (fun K hK => ?_)
                  (try dsimp only at hD3)
                  (go_simp; refine cap_gen (K := K) (fun W2 hW2 => ?_); have HO6 := hide (show W2.ownsRow w1.heap.size 3 1 (.slice (some ⟨g, 0, none⟩) (i + 1) c2) (i + 1) (flatI (ints ((o2.set j y).set (j + 1) x))) by rw [hW2]; exact own_setI HO5.out (j + 1) x); have HG6 := hide (show w4.drew.grownBy W2 (some g) by rw [hW2]; exact gr_trans HG5.out (set_grown _ ⟨g, j + 1, none⟩ _)); clear hW2)
                  refine hK.out _ _ ?_
                  clear hK K
                  try simp only [Act.put, zl, z0, z1]
                  refine wpAnyT_done (by kernel_rfl) ?_ _
                  rotate_left 1
                  refine consT 13 rfl (fun K hK => ?_) AllReadyT.nil
                  go_simp
                  refine hK.out _ _ ?_ (fun hD1 => ?_)
                  · (try dsimp only); first | exact hD0 | (first | exact hide trivial)
                  clear hK K hD0; try simp only [Act.put, zl, z0, z1]
                  refine wpAnyT_ready (rs := [8]) (by kernel_rfl) (by simp) ?_; refine consT 8 rfl (fun K hK => ?_) AllReadyT.nil; go_simp
                  refine hK.out _ _ ?_ (fun hD2 => ?_)
                  · (try dsimp only); first | exact hD1 | (first | exact hide trivial)
                  clear hK K hD1; try simp only [Act.put, zl, z0, z1]
                  refine takeT (v := ?_) 14 rfl (by kernel_rfl) (by kernel_rfl) (by kernel_rfl) (by kernel_rfl) (fun _ _ _ h => h) (Or.inl ⟨by rfl, ?_⟩) (by assumption) ?_; rotate_left
                  · (intro w hSw; (try dsimp only at hSw); go_simp; try with_reducible rfl)
                  try simp only [Act.put, zl, z0, z1]
                  refine wpAnyT_ready (rs := [15]) (by kernel_rfl) (by simp) ?_; refine consT 15 rfl (fun K hK => ?_) AllReadyT.nil
                  (go_simp; refine cap_gen (K := K) (fun W1 hW1 => ?_); have HO5 := hide (show W1.ownsRow w1.heap.size 3 1 (.slice (some ⟨g, 0, none⟩) (i + 1) c2) (i + 1) (flatI (ints (o2.set j y))) by rw [hW1]; exact own_setI (show w4.drew.ownsRow w1.heap.size 3 1 (.slice (some ⟨g, 0, none⟩) (i + 1) c2) (i + 1) (flatI (ints o2)) from HO4.out) j y); have hs5 := own_cellR HO5.out (ints_get (show (o2.set j y)[j + 1]? = some y by rw [List.getElem?_set, if_neg (by omega)]; exact HY.out)); have hs5a := hs5.1; have hs5b := hs5.2.1; have hs5c := hs5.2.2.1; have HG5 := hide (show w4.drew.grownBy W1 (some g) by rw [hW1]; exact set_grown _ ⟨g, j, none⟩ _); clear hW1 hs5 na nb nf ng)
                  refine hK.out _ _ ?_ (fun hD3 => ?_)
                  · (try dsimp only); first | exact hide trivial
                  clear hK K hD2; try simp only [Act.put, zl, z0, z1]
                  refine takeT (v := ?_) 16 rfl (by kernel_rfl) (by kernel_rfl) (by kernel_rfl) (by kernel_rfl) (fun _ _ _ h => h) (Or.inl ⟨by rfl, ?_⟩) (by assumption) ?_; rotate_left
                  · (intro w hSw; (try dsimp only at hSw); go_simp; try with_reducible rfl)
                  try simp only [Act.put, zl, z0, z1]
                  refine wpAnyT_ready (rs := [17]) (by kernel_rfl) (by simp) ?_
                  refine lastT rfl (fun K hK => ?_)
                  (try dsimp only at hD3)
                  (go_simp; refine cap_gen (K := K) (fun W2 hW2 => ?_); have HO6 := hide (show W2.ownsRow w1.heap.size 3 1 (.slice (some ⟨g, 0, none⟩) (i + 1) c2) (i + 1) (flatI (ints ((o2.set j y).set (j + 1) x))) by rw [hW2]; exact own_setI HO5.out (j + 1) x); have HG6 := hide (show w4.drew.grownBy W2 (some g) by rw [hW2]; exact gr_trans HG5.out (set_grown _ ⟨g, j + 1, none⟩ _)); clear hW2)
                  refine hK.out _ _ ?_
                  clear hK K
                  try simp only [Act.put, zl, z0, z1]
                  refine wpAnyT_done (by kernel_rfl) ?_ _
                  all_goals focus
                    (try dsimp only [Exit.inBlock, Exit.then])
                    have HB6 := hide (zbT (show Below w1.heap.size w1 w4.drew from zbD HB4.out) (grown_below (B := w1.heap.size) HG6.out (show w1.heap.size ≤ w4.drew.heap.size from HB4.out.size) (fun q hq => by have h1 := Option.some.inj hq; have h2 := (HO4.out.lt g rfl).1; omega)) (Nat.le_refl _))
                    go_wp2_with fail
                    go_roundw
                    case rel => exact ⟨j, (o2.set j y).set (j + 1) x, by go_num, hide (HIN.out.swap HX.out HY.out (by rw [HPX.out, HPY.out]; exact hl.out)), HO6, HB6⟩
                    case measure => simp [intOf]
              · have c2b : (px.at_ == py.at_) = false := by simpa using c2'
                have hl := hide (show G.lt px py = false by unfold G.lt; simp [c1, c2'])
                clear c1 c2'
                go_upto_region 11 with fail
                clear a0 a1 la b0' b1 lb c1' c2b
                refine wp_lastR ?_
                refine wp_region_T_drew (S := (fun _ => Hid True)) 17 (by kernel_rfl) ?_ (fun hD0 => ?_)
                · (try dsimp only); first | exact hide trivial
                refine takeT (v := ?_) 0 rfl (by kernel_rfl) (by kernel_rfl) (by kernel_rfl) (by kernel_rfl) (fun _ _ _ h => h) (Or.inl ⟨by rfl, ?_⟩) (by assumption) ?_; rotate_left
                · (intro w hSw; (try dsimp only at hSw); go_simp; try with_reducible rfl)
                try simp only [Act.put, zl, z0, z1]
                refine takeT (v := ?_) 1 rfl (by kernel_rfl) (by kernel_rfl) (by kernel_rfl) (by kernel_rfl) (fun _ _ _ h => h) (Or.inl ⟨by rfl, ?_⟩) (by assumption) ?_; rotate_left
                · (intro w hSw; (try dsimp only at hSw); go_simp; try with_reducible rfl)
                try simp only [Act.put, zl, z0, z1]
                refine takeT (v := ?_) 2 rfl (by kernel_rfl) (by kernel_rfl) (by kernel_rfl) (by kernel_rfl) (fun _ _ _ h => h) (Or.inl ⟨by rfl, ?_⟩) (by assumption) ?_; rotate_left
                · (intro w hSw; (try dsimp only at hSw); go_simp; try with_reducible rfl)
                try simp only [Act.put, zl, z0, z1]
                refine takeT (v := ?_) 3 rfl (by kernel_rfl) (by kernel_rfl) (by kernel_rfl) (by kernel_rfl) (fun _ _ _ h => h) (Or.inl ⟨by rfl, ?_⟩) (by assumption) ?_; rotate_left
                · (intro w hSw; (try dsimp only at hSw); go_simp; try with_reducible rfl)
                try simp only [Act.put, zl, z0, z1]
                refine takeT (v := ?_) 4 rfl (by kernel_rfl) (by kernel_rfl) (by kernel_rfl) (by kernel_rfl) (fun _ _ _ h => h) (Or.inl ⟨by rfl, ?_⟩) (by assumption) ?_; rotate_left
                · (intro w hSw; (try dsimp only at hSw); go_simp; try with_reducible rfl)
                try simp only [Act.put, zl, z0, z1]
                refine takeT (v := ?_) 5 rfl (by kernel_rfl) (by kernel_rfl) (by kernel_rfl) (by kernel_rfl) (fun _ _ _ h => h) (Or.inl ⟨by rfl, ?_⟩) (by assumption) ?_; rotate_left
                · (intro w hSw; (try dsimp only at hSw); go_simp; try with_reducible rfl)
                try simp only [Act.put, zl, z0, z1]
                refine takeT (v := ?_) 6 rfl (by kernel_rfl) (by kernel_rfl) (by kernel_rfl) (by kernel_rfl) (fun _ _ _ h => h) (Or.inl ⟨by rfl, ?_⟩) (by assumption) ?_; rotate_left
                · (intro w hSw; (try dsimp only at hSw); go_simp; try with_reducible rfl)
                try simp only [Act.put, zl, z0, z1]
                refine takeT (v := ?_) 7 rfl (by kernel_rfl) (by kernel_rfl) (by kernel_rfl) (by kernel_rfl) (fun _ _ _ h => h) (Or.inl ⟨by rfl, ?_⟩) (by assumption) ?_; rotate_left
                · (intro w hSw; (try dsimp only at hSw); go_simp; try with_reducible rfl)
                try simp only [Act.put, zl, z0, z1]
                refine takeT (v := ?_) 9 rfl (by kernel_rfl) (by kernel_rfl) (by kernel_rfl) (by kernel_rfl) (fun _ _ _ h => h) (Or.inl ⟨by rfl, ?_⟩) (by assumption) ?_; rotate_left
                · (intro w hSw; (try dsimp only at hSw); go_simp; try with_reducible rfl)
                try simp only [Act.put, zl, z0, z1]
                refine takeT (v := ?_) 10 rfl (by kernel_rfl) (by kernel_rfl) (by kernel_rfl) (by kernel_rfl) (fun _ _ _ h => h) (Or.inl ⟨by rfl, ?_⟩) (by assumption) ?_; rotate_left
                · (intro w hSw; (try dsimp only at hSw); go_simp; try with_reducible rfl)
                try simp only [Act.put, zl, z0, z1]
                refine takeT (v := ?_) 11 rfl (by kernel_rfl) (by kernel_rfl) (by kernel_rfl) (by kernel_rfl) (fun _ _ _ h => h) (Or.inl ⟨by rfl, ?_⟩) (by assumption) ?_; rotate_left
                · (intro w hSw; (try dsimp only at hSw); go_simp; try with_reducible rfl)
                try simp only [Act.put, zl, z0, z1]
                refine takeT (v := ?_) 12 rfl (by kernel_rfl) (by kernel_rfl) (by kernel_rfl) (by kernel_rfl) (fun _ _ _ h => h) (Or.inl ⟨by rfl, ?_⟩) (by assumption) ?_; rotate_left
                · (intro w hSw; (try dsimp only at hSw); go_simp; try with_reducible rfl)
                try simp only [Act.put, zl, z0, z1]
                refine wpAnyT_ready (rs := [8, 13]) (by kernel_rfl) (by simp) ?_; refine consT 8 rfl (fun K hK => ?_) ?_; go_simp
                refine hK.out _ _ ?_ (fun hD1 => ?_)
                · (try dsimp only); first | exact hD0 | (first | exact hide trivial)
                clear hK K hD0; try simp only [Act.put, zl, z0, z1]
                refine wpAnyT_ready (rs := [13]) (by kernel_rfl) (by simp) ?_; refine consT 13 rfl (fun K hK => ?_) AllReadyT.nil; go_simp
                refine hK.out _ _ ?_ (fun hD2 => ?_)
                · (try dsimp only); first | exact hD1 | (first | exact hide trivial)
                clear hK K hD1; try simp only [Act.put, zl, z0, z1]
                refine takeT (v := ?_) 14 rfl (by kernel_rfl) (by kernel_rfl) (by kernel_rfl) (by kernel_rfl) (fun _ _ _ h => h) (Or.inl ⟨by rfl, ?_⟩) (by assumption) ?_; rotate_left
                · (intro w hSw; (try dsimp only at hSw); go_simp; try with_reducible rfl)
                try simp only [Act.put, zl, z0, z1]
                refine wpAnyT_ready (rs := [15]) (by kernel_rfl) (by simp) ?_; refine consT 15 rfl (fun K hK => ?_) AllReadyT.nil
                (go_simp; refine cap_gen (K := K) (fun W1 hW1 => ?_); have HO5 := hide (show W1.ownsRow w1.heap.size 3 1 (.slice (some ⟨g, 0, none⟩) (i + 1) c2) (i + 1) (flatI (ints (o2.set j y))) by rw [hW1]; exact own_setI (show w4.drew.ownsRow w1.heap.size 3 1 (.slice (some ⟨g, 0, none⟩) (i + 1) c2) (i + 1) (flatI (ints o2)) from HO4.out) j y); have hs5 := own_cellR HO5.out (ints_get (show (o2.set j y)[j + 1]? = some y by rw [List.getElem?_set, if_neg (by omega)]; exact HY.out)); have hs5a := hs5.1; have hs5b := hs5.2.1; have hs5c := hs5.2.2.1; have HG5 := hide (show w4.drew.grownBy W1 (some g) by rw [hW1]; exact set_grown _ ⟨g, j, none⟩ _); clear hW1 hs5 na nb nf ng)
                refine hK.out _ _ ?_ (fun hD3 => ?_)
                · (try dsimp only); first | exact hide trivial
                clear hK K hD2; try simp only [Act.put, zl, z0, z1]
                refine takeT (v := ?_) 16 rfl (by kernel_rfl) (by kernel_rfl) (by kernel_rfl) (by kernel_rfl) (fun _ _ _ h => h) (Or.inl ⟨by rfl, ?_⟩) (by assumption) ?_; rotate_left
                · (intro w hSw; (try dsimp only at hSw); go_simp; try with_reducible rfl)
                try simp only [Act.put, zl, z0, z1]
                refine wpAnyT_ready (rs := [17]) (by kernel_rfl) (by simp) ?_
                refine lastT rfl (fun K hK => ?_)
                (try dsimp only at hD3)
                (go_simp; refine cap_gen (K := K) (fun W2 hW2 => ?_); have HO6 := hide (show W2.ownsRow w1.heap.size 3 1 (.slice (some ⟨g, 0, none⟩) (i + 1) c2) (i + 1) (flatI (ints ((o2.set j y).set (j + 1) x))) by rw [hW2]; exact own_setI HO5.out (j + 1) x); have HG6 := hide (show w4.drew.grownBy W2 (some g) by rw [hW2]; exact gr_trans HG5.out (set_grown _ ⟨g, j + 1, none⟩ _)); clear hW2)
                refine hK.out _ _ ?_
                clear hK K
                try simp only [Act.put, zl, z0, z1]
                refine wpAnyT_done (by kernel_rfl) ?_ _
                rotate_left 1
                refine consT 13 rfl (fun K hK => ?_) AllReadyT.nil
                go_simp
                refine hK.out _ _ ?_ (fun hD1 => ?_)
                · (try dsimp only); first | exact hD0 | (first | exact hide trivial)
                clear hK K hD0; try simp only [Act.put, zl, z0, z1]
                refine wpAnyT_ready (rs := [8]) (by kernel_rfl) (by simp) ?_; refine consT 8 rfl (fun K hK => ?_) AllReadyT.nil; go_simp
                refine hK.out _ _ ?_ (fun hD2 => ?_)
                · (try dsimp only); first | exact hD1 | (first | exact hide trivial)
                clear hK K hD1; try simp only [Act.put, zl, z0, z1]
                refine takeT (v := ?_) 14 rfl (by kernel_rfl) (by kernel_rfl) (by kernel_rfl) (by kernel_rfl) (fun _ _ _ h => h) (Or.inl ⟨by rfl, ?_⟩) (by assumption) ?_; rotate_left
                · (intro w hSw; (try dsimp only at hSw); go_simp; try with_reducible rfl)
                try simp only [Act.put, zl, z0, z1]
                refine wpAnyT_ready (rs := [15]) (by kernel_rfl) (by simp) ?_; refine consT 15 rfl (fun K hK => ?_) AllReadyT.nil
                (go_simp; refine cap_gen (K := K) (fun W1 hW1 => ?_); have HO5 := hide (show W1.ownsRow w1.heap.size 3 1 (.slice (some ⟨g, 0, none⟩) (i + 1) c2) (i + 1) (flatI (ints (o2.set j y))) by rw [hW1]; exact own_setI (show w4.drew.ownsRow w1.heap.size 3 1 (.slice (some ⟨g, 0, none⟩) (i + 1) c2) (i + 1) (flatI (ints o2)) from HO4.out) j y); have hs5 := own_cellR HO5.out (ints_get (show (o2.set j y)[j + 1]? = some y by rw [List.getElem?_set, if_neg (by omega)]; exact HY.out)); have hs5a := hs5.1; have hs5b := hs5.2.1; have hs5c := hs5.2.2.1; have HG5 := hide (show w4.drew.grownBy W1 (some g) by rw [hW1]; exact set_grown _ ⟨g, j, none⟩ _); clear hW1 hs5 na nb nf ng)
                refine hK.out _ _ ?_ (fun hD3 => ?_)
                · (try dsimp only); first | exact hide trivial
                clear hK K hD2; try simp only [Act.put, zl, z0, z1]
                refine takeT (v := ?_) 16 rfl (by kernel_rfl) (by kernel_rfl) (by kernel_rfl) (by kernel_rfl) (fun _ _ _ h => h) (Or.inl ⟨by rfl, ?_⟩) (by assumption) ?_; rotate_left
                · (intro w hSw; (try dsimp only at hSw); go_simp; try with_reducible rfl)
                try simp only [Act.put, zl, z0, z1]
                refine wpAnyT_ready (rs := [17]) (by kernel_rfl) (by simp) ?_
                refine lastT rfl (fun K hK => ?_)
                (try dsimp only at hD3)
                (go_simp; refine cap_gen (K := K) (fun W2 hW2 => ?_); have HO6 := hide (show W2.ownsRow w1.heap.size 3 1 (.slice (some ⟨g, 0, none⟩) (i + 1) c2) (i + 1) (flatI (ints ((o2.set j y).set (j + 1) x))) by rw [hW2]; exact own_setI HO5.out (j + 1) x); have HG6 := hide (show w4.drew.grownBy W2 (some g) by rw [hW2]; exact gr_trans HG5.out (set_grown _ ⟨g, j + 1, none⟩ _)); clear hW2)
                refine hK.out _ _ ?_
                clear hK K
                try simp only [Act.put, zl, z0, z1]
                refine wpAnyT_done (by kernel_rfl) ?_ _
                all_goals focus
                  (try dsimp only [Exit.inBlock, Exit.then])
                  have HB6 := hide (zbT (show Below w1.heap.size w1 w4.drew from zbD HB4.out) (grown_below (B := w1.heap.size) HG6.out (show w1.heap.size ≤ w4.drew.heap.size from HB4.out.size) (fun q hq => by have h1 := Option.some.inj hq; have h2 := (HO4.out.lt g rfl).1; omega)) (Nat.le_refl _))
                  go_wp2_with fail
                  go_roundw
                  case rel => exact ⟨j, (o2.set j y).set (j + 1) x, by go_num, hide (HIN.out.swap HX.out HY.out (by rw [HPX.out, HPY.out]; exact hl.out)), HO6, HB6⟩
                  case measure => simp [intOf]
    · have hin : i = n := by omega
      subst hin
      go_wp2_with fail
      go_ret
      exact ⟨A1, c1, o, rfl, HOD.out, owns_RdI HOr.out (by rw [ints_len, HOD.out.len]), zbT HB1.out HBr.out HB1.out.size⟩
end Go.Proofs.Ytlpjkolocgkcpaa

namespace Go.Proofs.Ytlpjkolocgkcpaa
open Go.RowKit
attribute [local go_sem ↓] Go.wp_at_zero Go.wp_at_succ

theorem TgN.idx {q : G.Qu} {n : Nat} {Fn : Int → Int} {kn : Int → Bool} (h : TgN q.gs n Fn kn) (hn : q.gs.length = n) {id z : Int} {b : Bool} (h1 : b = true → 0 ≤ id ∧ id ≤ 999 ∧ z = Fn id ∧ kn id = true) (h2 : b = false → 0 ≤ id → id ≤ 999 → kn id = false) :
    (b = false → G.idxOf q id = none) ∧ (b = true → ∃ gi : Nat, G.idxOf q id = some gi ∧ z = (gi : Int) ∧ gi < n) := by
  have ht : q.gs.take n = q.gs := List.take_of_length_le (by omega)
  constructor
  · intro hb
    unfold G.idxOf
    rw [List.findIdx?_eq_none_iff]
    intro p hp
    cases he : (p.id == id) with
    | false => rfl
    | true =>
      have e : p.id = id := by simpa using he
      have hm : id ∈ (q.gs.take n).map (·.id) := by rw [ht]; exact List.mem_map.2 ⟨p, hp, e⟩
      have hr := h.2.1 id hm
      have hk := h2 hb hr.1 hr.2
      rw [h.1 id hr.1 hr.2] at hk
      have : ((q.gs.take n).map (·.id)).contains id = true := by simpa using hm
      rw [this] at hk
      cases hk
  · intro hb
    obtain ⟨r0, r1, hz, hk⟩ := h1 hb
    rw [h.1 id r0 r1, ht] at hk
    obtain ⟨p, hp, e⟩ := List.mem_map.1 (by simpa using hk : id ∈ q.gs.map (·.id))
    have hs : (q.gs.findIdx? (fun p => p.id == id)).isSome = true := by
      rw [List.findIdx?_isSome, List.any_eq_true]
      exact ⟨p, hp, by simpa using e⟩
    obtain ⟨gi, hgi⟩ := Option.isSome_iff_exists.1 hs
    have hgi2 := hgi
    rw [List.findIdx?_eq_some_iff_getElem] at hgi2
    obtain ⟨hl, hpg, _⟩ := hgi2
    refine ⟨gi, hgi, ?_, by omega⟩
    have := h.2.2 gi _ (by omega) (List.getElem?_eq_getElem hl)
    rw [show q.gs[gi].id = id by simpa using hpg] at this
    rw [hz, this]
theorem LineAt.keepR {w w' : World} {q : G.Qu} {A : Option Addr} {n c : Nat} {F : Option Addr} {m d : Nat} {O : Option Addr} {co : Nat} {ord : List Nat} {b1 : Nat} (h : LineAt w q A n c F m d O co ord) (hg : w.grownBy w' (some b1)) (hne : ∀ b i, (A = some ⟨b, i, none⟩ ∨ F = some ⟨b, i, none⟩ ∨ O = some ⟨b, i, none⟩) → b ≠ b1) : LineAt w' q A n c F m d O co ord := by
  have hc : ∀ (b i j : Nat), b < w.heap.size → b ≠ b1 → w'.cell? ⟨b, j, none⟩ = w.cell? ⟨b, j, none⟩ := fun b _ j hb hn => gr_cellS hg hb (fun e => hn (Option.some.inj e)) j
  refine ⟨h.v, h.gl, h.fl, h.ol, fun k p hk => ?_, fun k p hk => ?_, fun k p hk => ?_, h.fs, h.os, h.op⟩
  · obtain ⟨b, i, e, hb, c0, c1, c2, c3⟩ := h.rg k p hk
    have hn := hne b i (.inl e)
    exact ⟨b, i, e, Nat.lt_of_lt_of_le hb hg.size, (hc b i _ hb hn).trans c0, (hc b i _ hb hn).trans c1, (hc b i _ hb hn).trans c2, (hc b i _ hb hn).trans c3⟩
  · obtain ⟨b, i, e, hb, c0, c1⟩ := h.rf k p hk
    have hn := hne b i (.inr (.inl e))
    exact ⟨b, i, e, Nat.lt_of_lt_of_le hb hg.size, (hc b i _ hb hn).trans c0, (hc b i _ hb hn).trans c1⟩
  · obtain ⟨b, i, e, hb, c0⟩ := h.ro k p hk
    have hn := hne b i (.inr (.inr e))
    exact ⟨b, i, e, Nat.lt_of_lt_of_le hb hg.size, (hc b i _ hb hn).trans c0⟩
def ForPost (q : G.Qu) (id : Int) (A : Option Addr) (n c m : Nat) (w : World) (e : Ending) (w' : World) : Prop :=
  Below w.heap.size w w' ∧ (G.valid q = false → e = .returned (.tuple #[.agg #[.int .i64 0, .int .i64 0, .int .i64 0, .int .i64 0, .slice none 0 0, .slice none 0 0, .map none, .slice none 0 0], .int .i64 0, .int .i64 110])) ∧
  (G.valid q = true → (G.idxOf q id = none → e = .returned (.tuple #[.agg #[.int .i64 0, .int .i64 0, .int .i64 0, .int .i64 0, .slice none 0 0, .slice none 0 0, .map none, .slice none 0 0], .int .i64 0, .int .i64 1])) ∧
    ∀ gi, G.idxOf q id = some gi → ∃ (F2 : Option Addr) (d2 : Nat) (fs2 : List G.Fr) (g : Nat) (O : Option Addr) (co : Nat) (ord : List Nat),
      e = .returned (.tuple #[.agg #[.int .i64 q.opn, .int .i64 q.lo, .int .i64 q.hi, .int .i64 q.seats, .slice A n c, .slice F2 m d2, .map (some g), .slice O n co], .int .i64 (gi : Int), .int .i64 0]) ∧ fs2.Perm q.fs ∧ LineAt w' { q with fs := fs2 } A n c F2 m d2 O co ord)

set_option maxHeartbeats 6400000 in
set_option maxRecDepth 100000 in
theorem openFor_any (q : G.Qu) (id : Int) (A : Option Addr) (n c : Nat) (F : Option Addr) (m d : Nat) (w : World) (h : QIn w q A n c F m d) (hid : (Lit.int .i64 id).wf = true) :
    Calls Try.prog 43 #[.agg #[.int .i64 q.opn, .int .i64 q.lo, .int .i64 q.hi, .int .i64 q.seats, .slice A n c, .slice F m d], .int .i64 id] w (ForPost q id A n c m w) := by
  have HI := hide h
  have HID := hide hid
  clear h hid
  go_enter Try.func43, Try.ntmps43
  go_upto_region 1 with fail
  refine cap_w (M := Code.wp _ _ _ _) _ (fun w1 hw1 => ?_)
  have HB1 := hide (show Below w.heap.size w w1 by rw [hw1]; (repeat' first | exact zbR _ _ | assumption | refine zbD ?_ | refine zbA ?_ ?_ _ | refine zbS ?_ ?_ _ | refine zbT ?_ (by assumption) ?_ | (simp; done) | (simp; omega) | omega))
  have HQ := hide (show w1.heap[w.heap.size]? = some (.cells #[.int .i64 q.opn, .int .i64 q.lo, .int .i64 q.hi, .int .i64 q.seats, .slice A n c, .slice F m d] 27 (0, 0)) by
    rw [hw1]; exact (Below.heap_alloc _ _ _ (by simp)).trans (World.alloc_heap_new _ _))
  have HZ := hide (show w1.heap[w.heap.size + 1]? = some (.cells #[.int .i64 0, .int .i64 0, .int .i64 0, .int .i64 0, .slice none 0 0, .slice none 0 0, .map none, .slice none 0 0] 67 (0, 0)) by
    rw [hw1]; exact alloc_new_at (by simp))
  clear hw1
  obtain ⟨b1, hb1⟩ : ∃ x, w.heap.size + 1 = x := ⟨_, rfl⟩
  rw [hb1] at HZ ⊢
  obtain ⟨b0, hb0⟩ : ∃ x, w.heap.size = x := ⟨_, rfl⟩
  have HBB := hide (show w.heap.size ≤ b1 by omega)
  have HE := hide (show w.heap.size = b0 ∧ b0 < b1 by omega)
  rw [hb0] at HQ ⊢
  clear hb1 hb0
  have HI1 := hide (HI.out.below HB1.out)
  have q0 : w1.cell? ⟨b0, 0, none⟩ = some (.int .i64 q.opn) := (blk_cell HQ.out 0).trans rfl
  have q1 : w1.cell? ⟨b0, 1, none⟩ = some (.int .i64 q.lo) := (blk_cell HQ.out 1).trans rfl
  have q2 : w1.cell? ⟨b0, 2, none⟩ = some (.int .i64 q.hi) := (blk_cell HQ.out 2).trans rfl
  have q3 : w1.cell? ⟨b0, 3, none⟩ = some (.int .i64 q.seats) := (blk_cell HQ.out 3).trans rfl
  have q4 : w1.cell? ⟨b0, 4, none⟩ = some (.slice A n c) := (blk_cell HQ.out 4).trans rfl
  have q5 : w1.cell? ⟨b0, 5, none⟩ = some (.slice F m d) := (blk_cell HQ.out 5).trans rfl
  have lq := blk_lt HQ.out
  cases hv : G.valid q
  · have HV := hide hv
    clear hv
    go_wp2_with (first | (go_at_call 36; (with_reducible refine (open_in q A n c F m d _ HI1.out).mono ?_); rintro e w2 ⟨hb2, hno, _⟩; obtain rfl := hno HV.out; have HB2 := hide (zbT HB1.out hb2 HB1.out.size); have HZ2 := bkT hb2 HZ; clear hno hb2 q0 q1 q2 q3 q4 q5 lq) | (refine wpList_store_row rfl 67 _ _ rfl b1 _ rfl rfl 67 _ HZ2.out lnRow rfl (by simp [Value.oneCell']) ?_; refine cap_w (M := wpList _ _ _ _ _) _ (fun w3 hw3 => ?_); have HR3 := hide (show w3.heap[b1]? = some (.cells #[.int .i64 0, .int .i64 0, .int .i64 0, .int .i64 0, .slice none 0 0, .slice none 0 0, .map none, .slice none 0 0] 67 (0, 0)) by rw [hw3]; exact setRow_heap _ _ _ _ _ _ HZ2.out); have HG3 := hide (show w2.grownBy w3 (some b1) by rw [hw3]; exact setRow_grown _ _ _); have HB3 := hide (show Below w.heap.size w w3 by rw [hw3]; exact below_row HB2.out HBB.out _); clear hw3 HZ2) | (refine wpList_store_row rfl 67 _ _ rfl b1 _ rfl rfl 67 _ HR3.out lnRow rfl (by simp [Value.oneCell']) ?_))
    refine cap_w (M := bodyPost _ _ _ _ _) _ (fun W9 hW9 => ?_)
    have HR9 := hide (show W9.heap[b1]? = some (.cells #[.int .i64 0, .int .i64 0, .int .i64 0, .int .i64 0, .slice none 0 0, .slice none 0 0, .map none, .slice none 0 0] 67 (0, 0)) by rw [hW9]; exact setRow_heap _ _ _ _ _ _ HR3.out)
    have HG9 := hide (show w3.grownBy W9 (some b1) by rw [hW9]; exact setRow_grown _ _ _)
    have HB9 := hide (show Below w.heap.size w W9 by rw [hW9]; exact below_row HB3.out HBB.out _)
    clear hW9
    have s0 : W9.cell? ⟨b1, 0, none⟩ = some (.int .i64 0) := (blk_cell HR9.out 0).trans rfl
    have s1 : W9.cell? ⟨b1, 1, none⟩ = some (.int .i64 0) := (blk_cell HR9.out 1).trans rfl
    have s2 : W9.cell? ⟨b1, 2, none⟩ = some (.int .i64 0) := (blk_cell HR9.out 2).trans rfl
    have s3 : W9.cell? ⟨b1, 3, none⟩ = some (.int .i64 0) := (blk_cell HR9.out 3).trans rfl
    have s4 : W9.cell? ⟨b1, 4, none⟩ = some (.slice none 0 0) := (blk_cell HR9.out 4).trans rfl
    have s5 : W9.cell? ⟨b1, 5, none⟩ = some (.slice none 0 0) := (blk_cell HR9.out 5).trans rfl
    have s6 : W9.cell? ⟨b1, 6, none⟩ = some (.map none) := (blk_cell HR9.out 6).trans rfl
    have s7 : W9.cell? ⟨b1, 7, none⟩ = some (.slice none 0 0) := (blk_cell HR9.out 7).trans rfl
    refine bodyPost_ret (v := .tuple #[.agg #[.int .i64 0, .int .i64 0, .int .i64 0, .int .i64 0, .slice none 0 0, .slice none 0 0, .map none, .slice none 0 0], .int .i64 0, .int .i64 110]) (by simp [results, Try.results43, go_sem, s0, s1, s2, s3, s4, s5, s6, s7]) rfl ?_
    exact ⟨HB9.out, fun _ => rfl, fun h => by rw [HV.out] at h; cases h⟩
  · have HV := hide hv
    clear hv
    go_upto_region 2 with (first | (go_at_call 36; (with_reducible refine (open_in q A n c F m d _ HI1.out).mono ?_); rintro e w2 ⟨hb2, _, hyes⟩; obtain ⟨F2, d2, fs2, g, O, co, ord, Fn, kn, rfl, hpf, hL, hM, hT, hgs, hfb, hob⟩ := hyes HV.out; have HGS := hide hgs; have HFB := hide hfb; have HOB := hide hob; have HB2 := hide (zbT HB1.out hb2 HB1.out.size); have HZ2 := bkT hb2 HZ; have HPF := hide hpf; have HL := hide hL; have HM := hide hM; have HT := hide hT; clear hyes hb2 hpf hL hM hT hgs hfb hob q0 q1 q2 q3 q4 q5 lq) | (refine wpList_store_row rfl 67 _ _ rfl b1 _ rfl rfl 67 _ HZ2.out lnRow rfl (by simp [Value.oneCell']) ?_; refine cap_w (M := wpList _ _ _ _ _) _ (fun w3 hw3 => ?_); have HR3 := hide (show w3.heap[b1]? = some (.cells #[.int .i64 q.opn, .int .i64 q.lo, .int .i64 q.hi, .int .i64 q.seats, .slice A n c, .slice F2 m d2, .map (some g), .slice O n co] 67 (0, 0)) by rw [hw3]; exact setRow_heap _ _ _ _ _ _ HZ2.out); have HG3 := hide (show w2.grownBy w3 (some b1) by rw [hw3]; exact setRow_grown _ _ _); have HB3 := hide (show Below w.heap.size w w3 by rw [hw3]; exact below_row HB2.out HBB.out _); clear hw3 HZ2))
    have HLT := hide (blk_lt HZ.out)
    have HM3 := hide (HM.out.kept HG3.out (fun e => by have h5 := Option.some.inj e; have := HGS.out; have := HLT.out; omega))
    have HNE := hide (show ∀ b i, (A = some ⟨b, i, none⟩ ∨ F2 = some ⟨b, i, none⟩ ∨ O = some ⟨b, i, none⟩) → b ≠ b1 from fun b i h => by
      rcases h with h | h | h
      · have := HI.out.a b i h; have := HBB.out; have := HE.out; omega
      · have := HFB.out b i h; have := HLT.out; omega
      · have := HOB.out b i h; have := HLT.out; omega)
    obtain ⟨z, bo, hlk0, h1, h2⟩ := MapK.lookOk_wf Try.underlying65 zeroI HM3.out HID.out
    have hlk : (Instr.lookup 65 (.map (some g)) (.int .i64 id) true).run Try.prog w3 = .ok (.tuple #[.int .i64 z, .bool bo]) w3 := hlk0
    obtain ⟨hx1, hx2⟩ := TgN.idx HT.out HI.out.gl h1 h2
    have r0 : w3.cell? ⟨b1, 0, none⟩ = some (.int .i64 q.opn) := (blk_cell HR3.out 0).trans rfl
    have r1 : w3.cell? ⟨b1, 1, none⟩ = some (.int .i64 q.lo) := (blk_cell HR3.out 1).trans rfl
    have r2 : w3.cell? ⟨b1, 2, none⟩ = some (.int .i64 q.hi) := (blk_cell HR3.out 2).trans rfl
    have r3 : w3.cell? ⟨b1, 3, none⟩ = some (.int .i64 q.seats) := (blk_cell HR3.out 3).trans rfl
    have r4 : w3.cell? ⟨b1, 4, none⟩ = some (.slice A n c) := (blk_cell HR3.out 4).trans rfl
    have r5 : w3.cell? ⟨b1, 5, none⟩ = some (.slice F2 m d2) := (blk_cell HR3.out 5).trans rfl
    have r6 : w3.cell? ⟨b1, 6, none⟩ = some (.map (some g)) := (blk_cell HR3.out 6).trans rfl
    have r7 : w3.cell? ⟨b1, 7, none⟩ = some (.slice O n co) := (blk_cell HR3.out 7).trans rfl
    have lr := blk_lt HR3.out
    clear hlk0 h1 h2
    cases bo
    · have HX := hide (hx1 rfl)
      clear hx1 hx2
      go_wp2_with (refine wpList_store_row rfl 67 _ _ rfl b1 _ rfl rfl 67 _ HR3.out lnRow rfl (by simp [Value.oneCell']) ?_)
      refine cap_w (M := bodyPost _ _ _ _ _) _ (fun W9 hW9 => ?_)
      have HR9 := hide (show W9.heap[b1]? = some (.cells #[.int .i64 0, .int .i64 0, .int .i64 0, .int .i64 0, .slice none 0 0, .slice none 0 0, .map none, .slice none 0 0] 67 (0, 0)) by rw [hW9]; exact setRow_heap _ _ _ _ _ _ HR3.out)
      have HG9 := hide (show w3.grownBy W9 (some b1) by rw [hW9]; exact setRow_grown _ _ _)
      have HB9 := hide (show Below w.heap.size w W9 by rw [hW9]; exact below_row HB3.out HBB.out _)
      clear hW9
      have s0 : W9.cell? ⟨b1, 0, none⟩ = some (.int .i64 0) := (blk_cell HR9.out 0).trans rfl
      have s1 : W9.cell? ⟨b1, 1, none⟩ = some (.int .i64 0) := (blk_cell HR9.out 1).trans rfl
      have s2 : W9.cell? ⟨b1, 2, none⟩ = some (.int .i64 0) := (blk_cell HR9.out 2).trans rfl
      have s3 : W9.cell? ⟨b1, 3, none⟩ = some (.int .i64 0) := (blk_cell HR9.out 3).trans rfl
      have s4 : W9.cell? ⟨b1, 4, none⟩ = some (.slice none 0 0) := (blk_cell HR9.out 4).trans rfl
      have s5 : W9.cell? ⟨b1, 5, none⟩ = some (.slice none 0 0) := (blk_cell HR9.out 5).trans rfl
      have s6 : W9.cell? ⟨b1, 6, none⟩ = some (.map none) := (blk_cell HR9.out 6).trans rfl
      have s7 : W9.cell? ⟨b1, 7, none⟩ = some (.slice none 0 0) := (blk_cell HR9.out 7).trans rfl
      refine bodyPost_ret (v := .tuple #[.agg #[.int .i64 0, .int .i64 0, .int .i64 0, .int .i64 0, .slice none 0 0, .slice none 0 0, .map none, .slice none 0 0], .int .i64 0, .int .i64 1]) (by simp [results, Try.results43, go_sem, s0, s1, s2, s3, s4, s5, s6, s7]) rfl ?_
      exact ⟨HB9.out, fun h => (by rw [HV.out] at h; cases h), fun _ => ⟨fun _ => rfl, fun i hi => (by rw [HX.out] at hi; cases hi)⟩⟩
    · obtain ⟨gi, hgi, hz, _⟩ := hx2 rfl
      have HX := hide hgi
      subst hz
      clear hx1 hx2 hgi
      go_wp2_with (refine wpList_store_row rfl 67 _ _ rfl b1 _ rfl rfl 67 _ HR3.out lnRow rfl (by simp [Value.oneCell']) ?_)
      refine cap_w (M := bodyPost _ _ _ _ _) _ (fun W9 hW9 => ?_)
      have HR9 := hide (show W9.heap[b1]? = some (.cells #[.int .i64 q.opn, .int .i64 q.lo, .int .i64 q.hi, .int .i64 q.seats, .slice A n c, .slice F2 m d2, .map (some g), .slice O n co] 67 (0, 0)) by rw [hW9]; exact setRow_heap _ _ _ _ _ _ HR3.out)
      have HG9 := hide (show w3.grownBy W9 (some b1) by rw [hW9]; exact setRow_grown _ _ _)
      have HB9 := hide (show Below w.heap.size w W9 by rw [hW9]; exact below_row HB3.out HBB.out _)
      clear hW9
      have s0 : W9.cell? ⟨b1, 0, none⟩ = some (.int .i64 q.opn) := (blk_cell HR9.out 0).trans rfl
      have s1 : W9.cell? ⟨b1, 1, none⟩ = some (.int .i64 q.lo) := (blk_cell HR9.out 1).trans rfl
      have s2 : W9.cell? ⟨b1, 2, none⟩ = some (.int .i64 q.hi) := (blk_cell HR9.out 2).trans rfl
      have s3 : W9.cell? ⟨b1, 3, none⟩ = some (.int .i64 q.seats) := (blk_cell HR9.out 3).trans rfl
      have s4 : W9.cell? ⟨b1, 4, none⟩ = some (.slice A n c) := (blk_cell HR9.out 4).trans rfl
      have s5 : W9.cell? ⟨b1, 5, none⟩ = some (.slice F2 m d2) := (blk_cell HR9.out 5).trans rfl
      have s6 : W9.cell? ⟨b1, 6, none⟩ = some (.map (some g)) := (blk_cell HR9.out 6).trans rfl
      have s7 : W9.cell? ⟨b1, 7, none⟩ = some (.slice O n co) := (blk_cell HR9.out 7).trans rfl
      refine bodyPost_ret (v := .tuple #[.agg #[.int .i64 q.opn, .int .i64 q.lo, .int .i64 q.hi, .int .i64 q.seats, .slice A n c, .slice F2 m d2, .map (some g), .slice O n co], .int .i64 (gi : Int), .int .i64 0]) (by simp [results, Try.results43, go_sem, s0, s1, s2, s3, s4, s5, s6, s7]) rfl ?_
      refine ⟨HB9.out, fun h => (by rw [HV.out] at h; cases h), fun _ => ⟨fun h => (by rw [HX.out] at h; cases h), fun i hi => ?_⟩⟩
      rw [HX.out] at hi
      cases hi
      refine ⟨F2, d2, fs2, g, O, co, ord, rfl, HPF.out, ?_⟩
      exact HL.out.keepR (HG3.out.andThen HG9.out (fun y hy => .inr hy)) HNE.out
end Go.Proofs.Ytlpjkolocgkcpaa

namespace Go.Proofs.Ytlpjkolocgkcpaa
open Go.RowKit
attribute [local go_sem ↓] Go.wp_at_zero Go.wp_at_succ

theorem spRow : (Try.prog.info? 23).map (·.size) = some 2 := by kernel_rfl

end Go.Proofs.Ytlpjkolocgkcpaa
