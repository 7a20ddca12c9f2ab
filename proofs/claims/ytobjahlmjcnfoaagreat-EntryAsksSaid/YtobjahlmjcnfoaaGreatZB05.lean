/-
  Part of a claim's texts: contracts of the program's functions and the plain functions that they compute, in build order.
-/
import Derived.BigQuiet
import Derived.Test.YtobjahlmjcnfoaaGreatZB02
import Derived.Test.YtobjahlmjcnfoaaGreatZB04
namespace Go.Proofs.YtobjahlmjcnfoaaGreat
namespace E

def insI (le : Int → Int → Bool) (x : Int) : List Int → List Int
  | [] => [x]
  | y :: r => if le x y then x :: y :: r else y :: insI le x r
def isort (le : Int → Int → Bool) : List Int → List Int
  | [] => []
  | x :: r => insI le x (isort le r)
theorem insI_perm (le : Int → Int → Bool) (x : Int) : ∀ l, (insI le x l).Perm (x :: l)
  | [] => List.Perm.refl _
  | y :: r => by
    unfold insI
    split
    · exact List.Perm.refl _
    · exact ((insI_perm le x r).cons y).trans (List.Perm.swap x y r)
theorem isort_perm (le : Int → Int → Bool) : ∀ l, (isort le l).Perm l
  | [] => List.Perm.refl _
  | x :: r => (insI_perm le x _).trans ((isort_perm le r).cons x)
theorem insI_sorted {le : Int → Int → Bool} (ht : ∀ a b c, le a b = true → le b c = true → le a c = true) (hl : ∀ a b, (le a b || le b a) = true) (x : Int) : ∀ l, l.Pairwise (fun a b => le a b = true) → (insI le x l).Pairwise (fun a b => le a b = true)
  | [], _ => by simp [insI]
  | y :: r, h => by
    obtain ⟨h1, h2⟩ := List.pairwise_cons.1 h
    unfold insI
    split
    · rename_i hxy
      refine List.pairwise_cons.2 ⟨fun z hz => ?_, h⟩
      rcases List.mem_cons.1 hz with e | e
      · exact e ▸ hxy
      · exact ht _ _ _ hxy (h1 z e)
    · rename_i hxy
      refine List.pairwise_cons.2 ⟨fun z hz => ?_, insI_sorted ht hl x r h2⟩
      rcases List.mem_cons.1 ((insI_perm le x r).mem_iff.1 hz) with e | e
      · subst e
        have := hl z y
        rw [Bool.or_eq_true] at this
        exact this.resolve_left hxy
      · exact h1 z e
theorem isort_sorted {le : Int → Int → Bool} (ht : ∀ a b c, le a b = true → le b c = true → le a c = true) (hl : ∀ a b, (le a b || le b a) = true) : ∀ l, (isort le l).Pairwise (fun a b => le a b = true)
  | [] => List.Pairwise.nil
  | x :: r => insI_sorted ht hl x _ (isort_sorted ht hl r)

def St.orderI (s : St) : List Int := isort s.leP (s.known.filter (fun k => (s.pl k).entry))
def St.altsI (s : St) : List Int := s.orderI.filter (fun k => !s.main.contains k)
def St.settleI (s : St) (lt : Bool) : St :=
  let m := s.main.filter (fun k => lt && (s.pl k).entry)
  { s with main := St.fill s lt ({ s with main := m }.altsI) m (s.guardsOf m) }
def St.takeI (s : St) (x : Nt) : St := (s.said x).settleI (late s.f x.hour)
def St.whereI (s : St) (k : Int) : Int × Int :=
  if 0 ≤ idx s.main k then (1, idx s.main k + 1) else if 0 ≤ idx s.cards k then (2, idx s.cards k + 1) else if 0 ≤ idx s.altsI k then (3, idx s.altsI k + 1) else (0, 0)
def St.needsI (h k : Int) : Nat → Int → St → Option Int
  | 0, _, _ => none
  | n + 1, q, s => if s.main.contains k then some q else if s.main = [] then none else St.needsI h k n (q + 1) (s.takeI ⟨0, h, 4, s.quitter k, 0⟩)
def St.whenI (k : Int) : St → List Nt → Option Int
  | _, [] => none
  | s, x :: r => if moreB x r = false ∧ (((s.takeI x).whereI k).1 = 1 ∨ ((s.takeI x).whereI k).1 = 2) then some x.hour else St.whenI k (s.takeI x) r

theorem orderI_eq {s : St} (h : StOk s) : s.orderI = s.order := by
  refine order_eq h (isort_perm _ _) ?_
  refine List.Pairwise.imp (fun {a b} hab => ?_) (isort_sorted (leP_trans s) (leP_total s) _)
  unfold St.leP at hab
  exact of_decide_eq_true hab
theorem altsI_eq {s : St} (h : StOk s) : s.altsI = s.alts := by
  unfold St.altsI St.alts
  rw [orderI_eq h]
theorem settleI_eq {s : St} (h : StOk s) (lt : Bool) : s.settleI lt = s.settle lt := by
  have h2 : StOk { s with main := s.main.filter (fun k => lt && (s.pl k).entry) } := ⟨h.known, h.range, h.zero, h.turn, h.apart, fun k hk => h.main k (List.mem_filter.1 hk).1, h.cards⟩
  unfold St.settleI St.settle
  dsimp only
  rw [altsI_eq h2]
theorem takeI_eq {s : St} (h : StOk s) (x : Nt) (h0 : 0 ≤ x.player ∧ x.player ≤ 999) (hT : 0 ≤ s.turns) : s.takeI x = s.take x := settleI_eq (said_ok h x h0 hT).1 _
theorem foldI_eq : ∀ (l : List Nt) (s : St), StOk s → 0 ≤ s.turns → (∀ x ∈ l, 0 ≤ x.player ∧ x.player ≤ 999) → l.foldl St.takeI s = l.foldl St.take s
  | [], _, _, _, _ => rfl
  | x :: r, s, h, hT, hp => by
    have h1 := hp x (List.mem_cons_self ..)
    rw [List.foldl_cons, List.foldl_cons, takeI_eq h x h1 hT]
    exact foldI_eq r _ (take_ok h x h1 hT).1 (take_ok h x h1 hT).2 (fun z hz => hp z (List.mem_cons_of_mem _ hz))
theorem fold_ok : ∀ (l : List Nt) (s : St), StOk s → 0 ≤ s.turns → (∀ x ∈ l, 0 ≤ x.player ∧ x.player ≤ 999) → StOk (l.foldl St.take s) ∧ 0 ≤ (l.foldl St.take s).turns
  | [], _, h, hT, _ => ⟨h, hT⟩
  | x :: r, s, h, hT, hp => by
    have h1 := hp x (List.mem_cons_self ..)
    exact fold_ok r _ (take_ok h x h1 hT).1 (take_ok h x h1 hT).2 (fun z hz => hp z (List.mem_cons_of_mem _ hz))
def atI (f : Fd) (h : Int) (l : List Nt) : St := (l.filter (fun x => decide (x.hour ≤ h))).foldl St.takeI (St.new f)
theorem atI_eq (f : Fd) (h : Int) {l : List Nt} (hp : ∀ x ∈ l, 0 ≤ x.player ∧ x.player ≤ 999) : atI f h l = atL f h l := foldI_eq _ _ (new_ok f) (by simp [St.new]) (fun x hx => hp x (List.mem_filter.1 hx).1)
theorem atL_ok (f : Fd) (h : Int) {l : List Nt} (hp : ∀ x ∈ l, 0 ≤ x.player ∧ x.player ≤ 999) : StOk (atL f h l) ∧ 0 ≤ (atL f h l).turns := fold_ok _ _ (new_ok f) (by simp [St.new]) (fun x hx => hp x (List.mem_filter.1 hx).1)
theorem whereI_eq {s : St} (h : StOk s) (k : Int) : s.whereI k = s.where_ k := by
  unfold St.whereI St.where_
  rw [altsI_eq h]
theorem needsI_eq (h k : Int) : ∀ (n : Nat) (q : Int) (s : St), StOk s → 0 ≤ s.turns → St.needsI h k n q s = St.needs h k n q s
  | 0, _, _, _, _ => by rw [St.needsI, St.needs]
  | n + 1, q, s, ho, hT => by
    rw [St.needsI, St.needs]
    split
    · rfl
    · split
      · rfl
      · rename_i hne
        have hr := ho.range _ (ho.main _ (quitter_mem s k hne))
        rw [takeI_eq ho _ hr hT]
        exact needsI_eq h k n _ _ (take_ok ho _ hr hT).1 (take_ok ho _ hr hT).2
theorem whenI_eq (k : Int) : ∀ (l : List Nt) (s : St), StOk s → 0 ≤ s.turns → (∀ x ∈ l, 0 ≤ x.player ∧ x.player ≤ 999) → St.whenI k s l = St.when k s l
  | [], _, _, _, _ => rfl
  | x :: r, s, h, hT, hp => by
    have h1 := hp x (List.mem_cons_self ..)
    have h2 := take_ok h x h1 hT
    rw [St.whenI, when_step, takeI_eq h x h1 hT, whereI_eq h2.1, whenI_eq k r _ h2.1 h2.2 (fun z hz => hp z (List.mem_cons_of_mem _ hz))]

theorem ex_players : ∀ x ∈ exL, 0 ≤ x.player ∧ x.player ≤ 999 := by decide +kernel
theorem ex_sorted : exL.Pairwise (fun x y => leN x y = true) := by
  have : ∀ l : List Nt, (l.Pairwise (fun x y => leN x y = true)) → l.Pairwise (fun x y => leN x y = true) := fun _ h => h
  decide +kernel
theorem ex_diffs : diffs exL = some exL := by
  have h : diff [] exL = some exL := by decide +kernel
  unfold diffs
  rw [if_neg (by decide), h]
  show some (exL.mergeSort leN) = some exL
  rw [List.mergeSort_of_pairwise ex_sorted]
theorem ex_main : (atL exF 12 exL).main = [9, 8, 5] := by rw [← atI_eq exF 12 ex_players]; decide +kernel
theorem ex_cards : (atL exF 12 exL).cards = [7] := by rw [← atI_eq exF 12 ex_players]; decide +kernel
theorem ex_alts : (atL exF 12 exL).alts = [6, 4] := by rw [← altsI_eq (atL_ok exF 12 ex_players).1, ← atI_eq exF 12 ex_players]; decide +kernel
theorem ex_needs : St.needs 10 4 61 0 (atL exF 10 exL) = some 2 := by
  have h := atL_ok exF 10 ex_players
  rw [← needsI_eq _ _ _ _ _ h.1 h.2, ← atI_eq exF 10 ex_players]; decide +kernel
theorem ex_when : St.when 4 (St.new exF) exL = some 15 := by
  rw [← whenI_eq 4 exL (St.new exF) (new_ok exF) (by simp [St.new]) ex_players]; decide +kernel
theorem ex_err (h p : Int) (hh : 0 ≤ h ∧ h ≤ 9999) (hp : 0 ≤ p ∧ p ≤ 999) : errE exF exL h p = 0 := by
  have hc : checkE exF exL = 0 := by
    unfold checkE
    rw [ex_diffs]
    decide +kernel
  unfold errE
  rw [if_neg (by rw [hc]; simp), if_pos ⟨by unfold within; simp [hh.1, hh.2], by unfold within; simp [hp.1, hp.2]⟩]
theorem ex_wf : ∀ x ∈ exL, (Lit.int .i64 x.id).wf = true := by decide +kernel
end E
end Go.Proofs.YtobjahlmjcnfoaaGreat

namespace Go.Proofs.YtobjahlmjcnfoaaGreat
open Go.RowKit
attribute [local go_sem ↓] Go.wp_at_zero Go.wp_at_succ

set_option maxHeartbeats 4000000 in
theorem sameInts_eq (A1 A2 : Option Addr) (n c1 c2 : Nat) (xs : List Int) (w : World) (hn : xs.length = n) (hr1 : RdI w w.heap.size A1 xs) (hr2 : RdI w w.heap.size A2 xs) (hm : n ≤ 1000000) :
    Calls Tryz.prog 14 #[.slice A1 n c1, .slice A2 n c2] w fun e w' => e = .returned (.bool true) ∧ Below w.heap.size w w' := by
  have HN := hide hn
  have HR1 := hide hr1
  have HR2 := hide hr2
  clear hn hr1 hr2
  go_enter Tryz.func14, Tryz.ntmps14
  go_wp2_with fail
  go_loopw [5] (fun i wr => ∃ k : Nat, k ≤ n ∧ i = .int .i64 k ∧ Below w.heap.size w wr) (fun i _ => n - (intOf i).toNat)
  case atStart => exact ⟨0, by omega, rfl, by (repeat' first | exact zbR _ _ | assumption | refine zbD ?_ | refine zbA ?_ ?_ _ | refine zbS ?_ ?_ _ | refine zbT ?_ (by assumption) ?_ | (simp; done) | (simp; omega) | omega)⟩
  case round =>
    obtain ⟨k, hk, rfl, hB⟩ := hrel
    by_cases hlt : k < n
    · obtain ⟨p, hp'⟩ : ∃ q, xs[k]? = some q := ⟨_, List.getElem?_eq_getElem (by have := HN.out; omega)⟩
      obtain ⟨b, o, hA, hbB, c0⟩ := (HR1.out.below hB) k p hp'
      obtain ⟨b2, o2, hA2, hbB2, d0⟩ := (HR2.out.below hB) k p hp'
      subst hA hA2
      clear hp'
      have hlt' : (k : Int) < (n : Int) := by omega
      have hk0 : (0 : Int) ≤ (k : Int) := by omega
      go_wp2_with fail
      go_quiet (fail)
      go_wp2_with fail
      go_roundw
      case rel => exact ⟨k + 1, by omega, by go_num, below_drewN hB _⟩
      case measure => simp [intOf]; omega
    · have hkn : k = n := by omega
      subst hkn
      go_wp2_with fail
      go_ret
      exact ⟨rfl, hB⟩

theorem same1 (A : Option Addr) (c : Nat) (x : Int) (W : World) (q : Nat) (hq : W.heap[q]? = some (.cells #[.int .i64 x] 3 (0, 0))) (hr : RdI W W.heap.size A [x]) :
    Calls Tryz.prog 14 #[.slice A 1 c, .slice (some ⟨q, 0, none⟩) 1 1] W fun e w' => e = .returned (.bool true) ∧ Below W.heap.size W w' :=
  sameInts_eq A (some ⟨q, 0, none⟩) 1 c 1 [x] W rfl hr (rdI_one hq) (by omega)
theorem same2 (A : Option Addr) (c : Nat) (x y : Int) (W : World) (q : Nat) (hq : W.heap[q]? = some (.cells #[.int .i64 x, .int .i64 y] 3 (0, 0))) (hr : RdI W W.heap.size A [x, y]) :
    Calls Tryz.prog 14 #[.slice A 2 c, .slice (some ⟨q, 0, none⟩) 2 2] W fun e w' => e = .returned (.bool true) ∧ Below W.heap.size W w' :=
  sameInts_eq A (some ⟨q, 0, none⟩) 2 c 2 [x, y] W rfl hr (rdI_two hq) (by omega)
theorem same3 (A : Option Addr) (c : Nat) (x y z : Int) (W : World) (q : Nat) (hq : W.heap[q]? = some (.cells #[.int .i64 x, .int .i64 y, .int .i64 z] 3 (0, 0))) (hr : RdI W W.heap.size A [x, y, z]) :
    Calls Tryz.prog 14 #[.slice A 3 c, .slice (some ⟨q, 0, none⟩) 3 3] W fun e w' => e = .returned (.bool true) ∧ Below W.heap.size W w' :=
  sameInts_eq A (some ⟨q, 0, none⟩) 3 c 3 [x, y, z] W rfl hr (rdI_three hq) (by omega)
theorem list_ex (A : Option Addr) (w : World) (hr : RdN w w.heap.size A E.exL) :
    Calls Tryz.prog 13 #[.agg #[.int .i64 3, .int .i64 1, .int .i64 1, .int .i64 10, .int .i64 20], .slice A 11 11, .int .i64 12] w fun e w' => ∃ A1 c1 A2 c2 A3 c3 P, e = .returned (.tuple #[.agg #[.slice A1 3 c1, .slice A2 1 c2, .slice A3 2 c3, .int .i64 P], .int .i64 0]) ∧ RdI w' w'.heap.size A1 [9, 8, 5] ∧ RdI w' w'.heap.size A2 [7] ∧ RdI w' w'.heap.size A3 [6, 4] ∧ Below w.heap.size w w' := by
  refine (List_any E.exF A 11 11 E.exL 12 w rfl hr E.ex_wf (by omega)).mono ?_
  rintro e w' ⟨(⟨h0, _⟩ | ⟨_, d, A1, c1, A2, c2, A3, c3, hd, rfl, h1, h2, h3⟩), hb⟩
  · exact absurd (E.ex_err 12 0 (by omega) (by omega)) h0
  · have e0 : d = E.exL := by rw [E.ex_diffs] at hd; exact (Option.some.inj hd).symm
    subst e0
    rw [show E.atL E.exF 12 E.exL = E.atL E.exF 12 E.exL from rfl] at h1
    have r1 := owns_RdI h1 rfl
    have r2 := owns_RdI h2 rfl
    have r3 := owns_RdI h3 rfl
    rw [E.ex_main] at r1
    rw [E.ex_cards] at r2
    rw [E.ex_alts] at r3
    exact ⟨A1, c1, A2, c2, A3, c3, _, by rw [E.ex_main, E.ex_cards, E.ex_alts]; rfl, r1, r2, r3, hb⟩
theorem needs_ex (A : Option Addr) (w : World) (hr : RdN w w.heap.size A E.exL) :
    Calls Tryz.prog 8 #[.agg #[.int .i64 3, .int .i64 1, .int .i64 1, .int .i64 10, .int .i64 20], .slice A 11 11, .int .i64 10, .int .i64 4] w fun e w' => e = .returned (.tuple #[.int .i64 2, .int .i64 0]) ∧ Below w.heap.size w w' := by
  refine (Needs_any E.exF A 11 11 E.exL 10 4 w rfl hr E.ex_wf (by omega)).mono ?_
  rintro e w' ⟨rfl, hb⟩
  refine ⟨?_, hb⟩
  unfold NeedsPost needsV
  rw [if_pos (E.ex_err 10 4 (by omega) (by omega)), E.ex_diffs]
  dsimp only
  rw [E.ex_needs]
theorem when_ex (A : Option Addr) (w : World) (hr : RdN w w.heap.size A E.exL) :
    Calls Tryz.prog 10 #[.agg #[.int .i64 3, .int .i64 1, .int .i64 1, .int .i64 10, .int .i64 20], .slice A 11 11, .int .i64 4] w fun e w' => e = .returned (.tuple #[.int .i64 15, .int .i64 0]) ∧ Below w.heap.size w w' := by
  refine (When_any E.exF A 11 11 E.exL 4 w rfl hr E.ex_wf (by omega)).mono ?_
  rintro e w' ⟨rfl, hb⟩
  refine ⟨?_, hb⟩
  unfold WhenPost whenV
  rw [if_pos (E.ex_err 0 4 (by omega) (by omega)), E.ex_diffs]
  dsimp only
  rw [E.ex_when]

set_option maxHeartbeats 6400000 in
set_option maxRecDepth 100000 in
theorem works_any (w : World) : Calls Tryz.prog 5 #[] w fun e w' => e = .returned (.bool true) ∧ Below w.heap.size w w' := by
  go_enter Tryz.func5, Tryz.ntmps5
  go_wp2_with (first
    | (go_at_call 12; refine (Example_any _).mono ?_; rintro e w1 ⟨A, rfl, hr1, hb1⟩; have HR1 := hide hr1; have HB1 := hide hb1; clear hr1 hb1)
    | (go_at_call 13; refine (list_ex A _ ((HR1.out.below (by (repeat' first | exact zbR _ _ | assumption | refine zbD ?_ | refine zbA ?_ ?_ _ | refine zbS ?_ ?_ _ | refine zbT ?_ (by assumption) ?_ | (simp; done) | (simp; omega) | omega))).mono (by simp))).mono ?_; rintro e w2 ⟨A1, c1, A2, c2, A3, c3, P, rfl, hl1, hl2, hl3, hb2⟩; have HL1 := hide hl1; have HL2 := hide hl2; have HL3 := hide hl3; have HB2 := hide (zbT (show Below w1.heap.size w1 _ by (repeat' first | exact zbR _ _ | assumption | refine zbD ?_ | refine zbA ?_ ?_ _ | refine zbS ?_ ?_ _ | refine zbT ?_ (by assumption) ?_ | (simp; done) | (simp; omega) | omega)) hb2 (by simp)); have HF2 := hide ((hb2.block w1.heap.size (by simp)).trans (World.alloc_heap_new _ _)); have f0 : w2.cell? ⟨w1.heap.size, 0, none⟩ = some (.int .i64 3) := (blk_cell HF2.out 0).trans rfl; have f1 : w2.cell? ⟨w1.heap.size, 1, none⟩ = some (.int .i64 1) := (blk_cell HF2.out 1).trans rfl; have f2 : w2.cell? ⟨w1.heap.size, 2, none⟩ = some (.int .i64 1) := (blk_cell HF2.out 2).trans rfl; have f3 : w2.cell? ⟨w1.heap.size, 3, none⟩ = some (.int .i64 10) := (blk_cell HF2.out 3).trans rfl; have f4 : w2.cell? ⟨w1.heap.size, 4, none⟩ = some (.int .i64 20) := (blk_cell HF2.out 4).trans rfl; have l2 := blk_lt HF2.out; clear hl1 hl2 hl3 hb2)
    | (go_at_call 8; refine (needs_ex A _ (((HR1.out.below HB2.out).below (show Below w1.heap.size w2 _ by have := HB2.out.size; (repeat' first | exact zbR _ _ | assumption | refine zbD ?_ | refine zbA ?_ ?_ _ | refine zbS ?_ ?_ _ | refine zbT ?_ (by assumption) ?_ | (simp; done) | (simp; omega) | omega))).mono (by have := HB2.out.size; simp; omega))).mono ?_; rintro e w3 ⟨rfl, hb3⟩; have HB23 := hide (zbT (show Below w2.heap.size w2 _ by (repeat' first | exact zbR _ _ | assumption | refine zbD ?_ | refine zbA ?_ ?_ _ | refine zbS ?_ ?_ _ | refine zbT ?_ (by assumption) ?_ | (simp; done) | (simp; omega) | omega)) hb3 (by simp)); have HE3 := hide ((hb3.block w2.heap.size (by simp)).trans (World.alloc_heap_new w2 (.cells #[.slice A1 3 c1, .slice A2 1 c2, .slice A3 2 c3, .int .i64 P] 38))); have HF3 := hide ((HB23.out.block w1.heap.size (blk_lt HF2.out)).trans HF2.out); have g0 : w3.cell? ⟨w1.heap.size, 0, none⟩ = some (.int .i64 3) := (blk_cell HF3.out 0).trans rfl; have g1 : w3.cell? ⟨w1.heap.size, 1, none⟩ = some (.int .i64 1) := (blk_cell HF3.out 1).trans rfl; have g2 : w3.cell? ⟨w1.heap.size, 2, none⟩ = some (.int .i64 1) := (blk_cell HF3.out 2).trans rfl; have g3 : w3.cell? ⟨w1.heap.size, 3, none⟩ = some (.int .i64 10) := (blk_cell HF3.out 3).trans rfl; have g4 : w3.cell? ⟨w1.heap.size, 4, none⟩ = some (.int .i64 20) := (blk_cell HF3.out 4).trans rfl; have l3 := blk_lt HF3.out; clear hb3)
    | (go_at_call 10; refine (when_ex A _ (((HR1.out.below HB2.out).below (HB23.out.mono HB2.out.size)).mono (Nat.le_trans HB2.out.size HB23.out.size))).mono ?_; rintro e w4 ⟨rfl, hb4⟩; have HB24 := hide (zbT HB23.out hb4 HB23.out.size); have HE4 := hide ((hb4.block w2.heap.size (blk_lt HE3.out)).trans HE3.out); have e0 : w4.cell? ⟨w2.heap.size, 0, none⟩ = some (.slice A1 3 c1) := (blk_cell HE4.out 0).trans rfl; have l4 := blk_lt HE4.out; clear hb4)
    | (go_at_call 14; with_reducible refine (same3 A1 c1 9 8 5 _ _ (World.alloc_heap_new _ _) ?hr).mono ?_; (case hr => exact ((HL1.out.below HB24.out).below (show Below w2.heap.size w4 _ by have := HB24.out.size; (repeat' first | exact zbR _ _ | assumption | refine zbD ?_ | refine zbA ?_ ?_ _ | refine zbS ?_ ?_ _ | refine zbT ?_ (by assumption) ?_ | (simp; done) | (simp; omega) | omega))).mono (by have := HB24.out.size; simp; omega)); rintro e w5 ⟨rfl, hb9⟩; have HB25 := hide (zbT (HB24.out.trans (show Below w2.heap.size w4 _ by have := HB24.out.size; (repeat' first | exact zbR _ _ | assumption | refine zbD ?_ | refine zbA ?_ ?_ _ | refine zbS ?_ ?_ _ | refine zbT ?_ (by assumption) ?_ | (simp; done) | (simp; omega) | omega))) hb9 (by have := HB24.out.size; simp; omega)); have HE5 := hide ((hb9.block w2.heap.size (by have := blk_lt HE4.out; simp; omega)).trans ((Below.heap_alloc _ _ _ (blk_lt HE4.out)).trans HE4.out)); have e1 : w5.cell? ⟨w2.heap.size, 1, none⟩ = some (.slice A2 1 c2) := (blk_cell HE5.out 1).trans rfl; have l5 := blk_lt HE5.out; clear hb9)
    | (go_at_call 14; with_reducible refine (same1 A2 c2 7 _ _ (World.alloc_heap_new _ _) ?hr).mono ?_; (case hr => exact ((HL2.out.below HB25.out).below (show Below w2.heap.size w5 _ by have := HB25.out.size; (repeat' first | exact zbR _ _ | assumption | refine zbD ?_ | refine zbA ?_ ?_ _ | refine zbS ?_ ?_ _ | refine zbT ?_ (by assumption) ?_ | (simp; done) | (simp; omega) | omega))).mono (by have := HB25.out.size; simp; omega)); rintro e w6 ⟨rfl, hb9⟩; have HB26 := hide (zbT (HB25.out.trans (show Below w2.heap.size w5 _ by have := HB25.out.size; (repeat' first | exact zbR _ _ | assumption | refine zbD ?_ | refine zbA ?_ ?_ _ | refine zbS ?_ ?_ _ | refine zbT ?_ (by assumption) ?_ | (simp; done) | (simp; omega) | omega))) hb9 (by have := HB25.out.size; simp; omega)); have HE6 := hide ((hb9.block w2.heap.size (by have := blk_lt HE5.out; simp; omega)).trans ((Below.heap_alloc _ _ _ (blk_lt HE5.out)).trans HE5.out)); have e2 : w6.cell? ⟨w2.heap.size, 2, none⟩ = some (.slice A3 2 c3) := (blk_cell HE6.out 2).trans rfl; have l6 := blk_lt HE6.out; clear hb9)
    | (go_at_call 14; with_reducible refine (same2 A3 c3 6 4 _ _ (World.alloc_heap_new _ _) ?hr).mono ?_; (case hr => exact ((HL3.out.below HB26.out).below (show Below w2.heap.size w6 _ by have := HB26.out.size; (repeat' first | exact zbR _ _ | assumption | refine zbD ?_ | refine zbA ?_ ?_ _ | refine zbS ?_ ?_ _ | refine zbT ?_ (by assumption) ?_ | (simp; done) | (simp; omega) | omega))).mono (by have := HB26.out.size; simp; omega)); rintro e w7 ⟨rfl, hb9⟩; have HB27 := hide (zbT (HB26.out.trans (show Below w2.heap.size w6 _ by have := HB26.out.size; (repeat' first | exact zbR _ _ | assumption | refine zbD ?_ | refine zbA ?_ ?_ _ | refine zbS ?_ ?_ _ | refine zbT ?_ (by assumption) ?_ | (simp; done) | (simp; omega) | omega))) hb9 (by have := HB26.out.size; simp; omega)); clear hb9))
  go_ret
  exact ⟨rfl, HB1.out.trans ((HB2.out.trans (HB27.out.mono HB2.out.size)).mono HB1.out.size)⟩

end Go.Proofs.YtobjahlmjcnfoaaGreat

namespace Go.Proofs.YtobjahlmjcnfoaaGreat
namespace E

def inB (s : St) (y : Int) : Prop := (s.where_ y).1 = 1 ∨ (s.where_ y).1 = 2
theorem new_where (f : Fd) (y : Int) : ¬ inB (St.new f) y := by
  have e : (St.new f).alts = [] := by
    unfold St.alts St.order St.new
    simp
  unfold inB St.where_
  rw [e]
  simp [St.new, idx]

theorem filter_pre {a r : List Nt} {h : Int} (h1 : ∀ z ∈ a, z.hour ≤ h) (h2 : ∀ z ∈ r, h < z.hour) : (a ++ r).filter (fun x => decide (x.hour ≤ h)) = a := by
  rw [List.filter_append, List.filter_eq_self.2 (fun z hz => by simpa using h1 z hz), List.filter_eq_nil_iff.2 (fun z hz => by have := h2 z hz; simp; omega), List.append_nil]
theorem atL_pre (f : Fd) {a r : List Nt} {h : Int} (h1 : ∀ z ∈ a, z.hour ≤ h) (h2 : ∀ z ∈ r, h < z.hour) : atL f h (a ++ r) = a.foldl St.take (St.new f) := by
  unfold atL
  rw [filter_pre h1 h2]
theorem more_false {x : Nt} {r : List Nt} (hs : (x :: r).Pairwise (fun a b => a.hour ≤ b.hour)) (hm : moreB x r = false) : ∀ z ∈ r, x.hour < z.hour := by
  intro z hz
  match r, hm, hz, hs with
  | z0 :: r', hm, hz, hs =>
    obtain ⟨h1, h2⟩ := List.pairwise_cons.1 hs
    obtain ⟨h3, _⟩ := List.pairwise_cons.1 h2
    have h4 : z0.hour ≠ x.hour := of_decide_eq_false hm
    have h5 := h1 z0 (List.mem_cons_self ..)
    rcases List.mem_cons.1 hz with e | e
    · subst e; omega
    · have := h3 z e; omega
theorem more_gap {x : Nt} {r : List Nt} {h : Int} (hx : x.hour ≤ h) (hr : ∀ z ∈ r, h < z.hour) : moreB x r = false := by
  match r, hr with
  | [], _ => rfl
  | z0 :: _, hr =>
    have := hr z0 (List.mem_cons_self ..)
    exact decide_eq_false (by omega)

theorem when_spec (f : Fd) (y : Int) (d : List Nt) (hs : d.Pairwise (fun a b => a.hour ≤ b.hour)) : ∀ (r a : List Nt), d = a ++ r → (∀ h, (∀ z ∈ r, h < z.hour) → ¬ inB (atL f h d) y) →
    (St.when y (a.foldl St.take (St.new f)) r = none → ∀ h, ¬ inB (atL f h d) y) ∧
    (∀ t, St.when y (a.foldl St.take (St.new f)) r = some t → (∃ x ∈ r, x.hour = t) ∧ inB (atL f t d) y ∧ ∀ h, h < t → ¬ inB (atL f h d) y)
  | [], a, hd, H => ⟨fun _ h => H h (fun z hz => by cases hz), fun t ht => by cases ht⟩
  | x :: r, a, hd, H => by
    have hd1 : d = (a ++ [x]) ++ r := by rw [hd]; simp
    have hs2 : (a ++ x :: r).Pairwise (fun a b => a.hour ≤ b.hour) := hd ▸ hs
    obtain ⟨_, hsr, hax⟩ := List.pairwise_append.1 hs2
    have hle : ∀ z ∈ a ++ [x], z.hour ≤ x.hour := by
      intro z hz
      rcases List.mem_append.1 hz with e | e
      · exact hax z e x (List.mem_cons_self ..)
      · simp at e; subst e; exact Int.le_refl _
    have hfold : (a ++ [x]).foldl St.take (St.new f) = (a.foldl St.take (St.new f)).take x := by rw [List.foldl_append]; rfl
    have hge : ∀ z ∈ x :: r, x.hour ≤ z.hour := by
      intro z hz
      rcases List.mem_cons.1 hz with e | e
      · subst e; exact Int.le_refl _
      · exact (List.pairwise_cons.1 hsr).1 z e
    by_cases hc : moreB x r = false ∧ (((a.foldl St.take (St.new f)).take x).where_ y |>.1) = 1 ∨ moreB x r = false ∧ (((a.foldl St.take (St.new f)).take x).where_ y |>.1) = 2
    · have hc' : moreB x r = false ∧ ((((a.foldl St.take (St.new f)).take x).where_ y).1 = 1 ∨ (((a.foldl St.take (St.new f)).take x).where_ y).1 = 2) := by
        rcases hc with ⟨h1, h2⟩ | ⟨h1, h2⟩
        · exact ⟨h1, .inl h2⟩
        · exact ⟨h1, .inr h2⟩
      rw [when_step, if_pos hc']
      refine ⟨fun h => (by cases h), fun t ht => ?_⟩
      have ht := Option.some.inj ht
      subst ht
      refine ⟨⟨x, List.mem_cons_self .., rfl⟩, ?_, fun h hh => H h (fun z hz => Int.lt_of_lt_of_le hh (hge z hz))⟩
      rw [hd1, atL_pre f hle (more_false hsr hc'.1), hfold]
      exact hc'.2
    · have hc' : ¬ (moreB x r = false ∧ ((((a.foldl St.take (St.new f)).take x).where_ y).1 = 1 ∨ (((a.foldl St.take (St.new f)).take x).where_ y).1 = 2)) := by
        rintro ⟨h1, h2 | h2⟩
        · exact hc (.inl ⟨h1, h2⟩)
        · exact hc (.inr ⟨h1, h2⟩)
      rw [when_step, if_neg hc']
      have ih := when_spec f y d hs r (a ++ [x]) hd1 (fun h hr => by
        rcases Int.lt_or_le h x.hour with h1 | h1
        · exact H h (fun z hz => Int.lt_of_lt_of_le h1 (hge z hz))
        · have e : atL f h d = (a.foldl St.take (St.new f)).take x := by rw [hd1, atL_pre f (fun z hz => Int.le_trans (hle z hz) h1) hr, hfold]
          rw [e]
          exact fun hin => hc' ⟨more_gap h1 hr, hin⟩)
      rw [hfold] at ih
      exact ⟨ih.1, fun t ht => by
        obtain ⟨⟨z, hz, e⟩, h2⟩ := ih.2 t ht
        exact ⟨⟨z, List.mem_cons_of_mem _ hz, e⟩, h2⟩⟩

theorem taken_hours {d : List Nt} (h : Taken d) : d.Pairwise (fun a b => a.hour ≤ b.hour) :=
  List.Pairwise.imp (fun {a b} hab => by rw [leN_iff] at hab; omega) h.sorted
theorem when_first (f : Fd) (y : Int) {d : List Nt} (h : Taken d) :
    (St.when y (St.new f) d = none → ∀ t, ¬ inB (atL f t d) y) ∧ (∀ t, St.when y (St.new f) d = some t → (∃ x ∈ d, x.hour = t) ∧ inB (atL f t d) y ∧ ∀ u, u < t → ¬ inB (atL f u d) y) :=
  when_spec f y d (taken_hours h) d [] rfl (fun t ht => by
    have : atL f t d = St.new f := by
      have := atL_pre f (a := []) (r := d) (h := t) (fun z hz => by cases hz) ht
      exact this
    rw [this]
    exact new_where f y)
theorem valid_hour {x : Nt} (h : validNotice x = true) : 0 ≤ x.hour ∧ x.hour ≤ 9999 := by
  unfold validNotice within at h
  simp only [Bool.and_eq_true, decide_eq_true_eq] at h
  omega
theorem check_diffs {f : Fd} {l : List Nt} (hc : checkE f l = 0) : ∃ d, diffs l = some d := by
  unfold checkE at hc
  split at hc
  · cases hd : diffs l with
    | none => rw [hd] at hc; cases hc
    | some d => exact ⟨d, rfl⟩
  · cases hc
end E
end Go.Proofs.YtobjahlmjcnfoaaGreat

namespace Go.Proofs.YtobjahlmjcnfoaaGreat
namespace E

def St.greedy (s : St) : List Int := St.fill s false s.order [] 0
theorem fill_keep {s : St} (lt : Bool) {m : Int} : ∀ (l acc : List Int) (g : Int), m ∈ acc → m ∈ s.fill lt l acc g
  | [], _, _, h => h
  | a :: r, acc, g, h => by
    unfold St.fill
    split
    · exact fill_keep lt r _ _ (List.mem_append_left _ h)
    · exact fill_keep lt r _ _ h
theorem fill_congr {s u : St} (hp : u.f.places = s.f.places) (hg : u.f.guards = s.f.guards) (hk : ∀ k, (u.pl k).grd = (s.pl k).grd) : ∀ (l acc : List Int) (g : Int), u.fill false l acc g = s.fill false l acc g
  | [], _, _ => rfl
  | a :: r, acc, g => by
    unfold St.fill
    rw [hp, hg, hk a]
    simp only [or_true, true_and]
    rw [fill_congr hp hg hk r, fill_congr hp hg hk r]
theorem one_bd (b : Bool) : 0 ≤ one b ∧ one b ≤ 1 := by unfold one; split <;> omega

theorem fill_drop (s : St) (r0 m : Int) (hm : m ≠ r0) : ∀ (l acc1 acc2 : List Int) (g1 g2 : Int), (s.f.places ≤ (acc1.length : Int) ∨ (g2 ≤ g1 ∧ acc2.length ≤ acc1.length ∧ g1 - g2 ≤ (acc1.length : Int) - (acc2.length : Int))) → (m ∈ acc1 → m ∈ acc2) → m ∈ s.fill false l acc1 g1 → m ∈ s.fill false (l.filter fun k => k != r0) acc2 g2
  | [], acc1, acc2, g1, g2, _, ha, h => ha h
  | a :: r, acc1, acc2, g1, g2, hi, ha, h => by
    have hb := one_bd (s.pl a).grd
    unfold St.fill at h
    simp only [or_true, true_and] at h
    by_cases e : a = r0
    · subst e
      have hf : (a :: r).filter (fun k => k != a) = r.filter (fun k => k != a) := by simp
      rw [hf]
      split at h
      · refine fill_drop s a m hm r (acc1 ++ [a]) acc2 _ g2 ?_ (fun hx => ?_) h
        · rw [List.length_append]
          simp only [List.length_singleton]
          rcases hi with hi | hi
          · left; push_cast; omega
          · right; refine ⟨by omega, by omega, by push_cast; omega⟩
        · rcases List.mem_append.1 hx with hx | hx
          · exact ha hx
          · simp at hx; exact absurd hx hm
      · exact fill_drop s a m hm r acc1 acc2 g1 g2 hi ha h
    · have hf : (a :: r).filter (fun k => k != r0) = a :: r.filter (fun k => k != r0) := by simp [e]
      rw [hf]
      unfold St.fill
      simp only [or_true, true_and]
      split at h
      · rename_i hc
        have hi' : g2 ≤ g1 ∧ acc2.length ≤ acc1.length ∧ g1 - g2 ≤ (acc1.length : Int) - (acc2.length : Int) := by
          rcases hi with hi | hi
          · omega
          · exact hi
        rw [if_pos ⟨by omega, hc.2.imp (fun h => by omega) id⟩]
        refine fill_drop s r0 m hm r (acc1 ++ [a]) (acc2 ++ [a]) _ _ (.inr ?_) (fun hx => ?_) h
        · rw [List.length_append, List.length_append]
          simp only [List.length_singleton]
          refine ⟨by omega, by omega, by push_cast; omega⟩
        · rcases List.mem_append.1 hx with hx | hx
          · exact List.mem_append_left _ (ha hx)
          · exact List.mem_append_right _ hx
      · rename_i hc
        by_cases hfull : s.f.places ≤ (acc1.length : Int)
        · split
          · exact fill_drop s r0 m hm r acc1 (acc2 ++ [a]) g1 _ (.inl hfull) (fun hx => List.mem_append_left _ (ha hx)) h
          · exact fill_drop s r0 m hm r acc1 acc2 g1 g2 (.inl hfull) ha h
        · have hi' : g2 ≤ g1 ∧ acc2.length ≤ acc1.length ∧ g1 - g2 ≤ (acc1.length : Int) - (acc2.length : Int) := hi.resolve_left hfull
          have hg : ¬ (g1 < s.f.guards ∨ (s.pl a).grd = false) := fun hh => hc ⟨by omega, hh⟩
          have hg1 : s.f.guards ≤ g1 := by
            rcases Int.lt_or_le g1 s.f.guards with h1 | h1
            · exact absurd (.inl h1) hg
            · exact h1
          have hgr : (s.pl a).grd = true := by
            cases hq : (s.pl a).grd with
            | true => rfl
            | false => exact absurd (.inr hq) hg
          split
          · rename_i hc2
            have h2 : g2 < s.f.guards := hc2.2.resolve_right (by rw [hgr]; simp)
            have h1' : one (s.pl a).grd = 1 := by rw [hgr]; rfl
            refine fill_drop s r0 m hm r acc1 (acc2 ++ [a]) g1 _ (.inr ?_) (fun hx => List.mem_append_left _ (ha hx)) h
            rw [List.length_append, h1']
            simp only [List.length_singleton]
            refine ⟨by omega, by omega, by push_cast; omega⟩
          · exact fill_drop s r0 m hm r acc1 acc2 g1 g2 (.inr hi') ha h

structure Late (s u : St) (x : Nt) : Prop where
  ent : ∀ k, (u.pl k).ent = (s.pl k).ent
  rank : ∀ k, (u.pl k).rank = (s.pl k).rank
  turn : ∀ k, (u.pl k).turn = (s.pl k).turn
  grd : ∀ k, (u.pl k).grd = (s.pl k).grd
  other : ∀ k, k ≠ x.player → u.pl k = s.pl k
  quit : ∀ k, (u.pl k).quit = ((s.pl k).quit || (decide (x.kind = 4) && decide (k = x.player)))
  card : ∀ k, (s.pl k).card = true → (u.pl k).card = true
  known : ∀ k, k ∈ u.known ↔ k ∈ s.known ∨ k = x.player
  main : u.main = s.main
  guards : u.f.guards = s.f.guards
  close : u.f.close = s.f.close
  freeze : u.f.freeze = s.f.freeze
  places : late s.f x.hour = false → u.f.places = s.f.places

theorem put_known {s : St} {k : Int} {p : Pl} (j : Int) : j ∈ (s.put k p).known ↔ j ∈ s.known ∨ j = k := by
  unfold St.put
  by_cases e : k ∈ s.known
  · simp only [if_pos e]
    exact ⟨.inl, fun h => h.elim id (fun h => h ▸ e)⟩
  · simp [if_neg e]
theorem put_late {s s0 : St} {x : Nt} {p : Pl} (hp : s0.pl = s.pl) (hk : s0.known = s.known) (hm : s0.main = s.main) (h1 : p.ent = (s.pl x.player).ent) (h2 : p.rank = (s.pl x.player).rank) (h3 : p.turn = (s.pl x.player).turn) (h4 : p.grd = (s.pl x.player).grd) (h5 : p.quit = ((s.pl x.player).quit || decide (x.kind = 4))) (h6 : (s.pl x.player).card = true → p.card = true)
    (h7 : s0.f.guards = s.f.guards) (h8 : s0.f.close = s.f.close) (h9 : s0.f.freeze = s.f.freeze) (h10 : late s.f x.hour = false → s0.f.places = s.f.places) : Late s (s0.put x.player p) x := by
  have e : ∀ k, (s0.put x.player p).pl k = if k = x.player then p else s.pl k := fun k => by unfold St.put; rw [hp]
  refine ⟨fun k => ?_, fun k => ?_, fun k => ?_, fun k => ?_, fun k hk' => ?_, fun k => ?_, fun k hc => ?_, fun k => ?_, hm, h7, h8, h9, h10⟩
  · rw [e]; split; (rename_i h; rw [h, h1]); rfl
  · rw [e]; split; (rename_i h; rw [h, h2]); rfl
  · rw [e]; split; (rename_i h; rw [h, h3]); rfl
  · rw [e]; split; (rename_i h; rw [h, h4]); rfl
  · rw [e, if_neg hk']
  · rw [e]
    by_cases h : k = x.player
    · rw [if_pos h, h5, h]; simp
    · rw [if_neg h]; simp [h]
  · rw [e]; split; (rename_i h; rw [h] at hc; exact h6 hc); exact hc
  · rw [put_known, hk]
theorem said_lateS (s : St) (x : Nt) (hc : s.f.close < x.hour) : Late s (s.said x) x := by
  unfold St.said
  dsimp only
  by_cases k12 : x.kind = 1 ∨ x.kind = 2
  · have hk4 : decide (x.kind = 4) = false := by rcases k12 with e | e <;> rw [e] <;> rfl
    rw [if_pos k12, if_neg (by rintro ⟨h1, _⟩; omega)]
    exact put_late rfl rfl rfl rfl rfl rfl rfl (by rw [hk4]; simp) id rfl rfl rfl (fun _ => rfl)
  · rw [if_neg k12]
    by_cases k3 : x.kind = 3
    · have hk4 : decide (x.kind = 4) = false := by rw [k3]; rfl
      rw [if_pos k3]
      split
      · exact put_late rfl rfl rfl rfl rfl rfl rfl (by rw [hk4]; simp) (fun _ => rfl) rfl rfl rfl (fun _ => rfl)
      · exact put_late rfl rfl rfl rfl rfl rfl rfl (by rw [hk4]; simp) id rfl rfl rfl (fun _ => rfl)
    · rw [if_neg k3]
      by_cases k4 : x.kind = 4
      · rw [if_pos k4]
        by_cases hcond : late s.f x.hour = true ∧ (s.pl x.player).card = true ∧ (s.pl x.player).quit = false
        · rw [if_pos hcond]
          exact put_late rfl rfl rfl rfl rfl rfl rfl (by rw [k4]; simp) id rfl rfl rfl (fun h => by rw [hcond.1] at h; cases h)
        · rw [if_neg hcond]
          exact put_late rfl rfl rfl rfl rfl rfl rfl (by rw [k4]; simp) id rfl rfl rfl (fun _ => rfl)
      · have hk4 : decide (x.kind = 4) = false := decide_eq_false k4
        rw [if_neg k4]
        split
        · exact put_late rfl rfl rfl rfl rfl rfl rfl (by rw [hk4]; simp) id rfl rfl rfl (fun _ => rfl)
        · exact put_late rfl rfl rfl rfl rfl rfl rfl (by rw [hk4]; simp) id rfl rfl rfl (fun _ => rfl)

theorem entry_down {s u : St} {x : Nt} (h : Late s u x) {k : Int} (he : (u.pl k).entry = true) : (s.pl k).entry = true := by
  unfold Pl.entry at *
  simp only [Bool.and_eq_true, Bool.not_eq_true'] at *
  obtain ⟨⟨h1, h2⟩, h3⟩ := he
  refine ⟨⟨by rw [← h.ent]; exact h1, ?_⟩, ?_⟩
  · have := h.quit k
    rw [h2] at this
    cases hq : (s.pl k).quit with
    | false => rfl
    | true => rw [hq] at this; simp at this
  · cases hq : (s.pl k).card with
    | false => rfl
    | true => rw [h.card k hq] at h3; cases h3
theorem late_order {s u : St} {x : Nt} (hs : StOk s) (hu : StOk u) (h : Late s u x) : u.order = s.order.filter (fun k => (u.pl k).entry) := by
  symm
  refine order_eq hu ?_ ?_
  · refine (List.perm_ext_iff_of_nodup ((order_nodup hs).filter _) (hu.known.filter _)).2 (fun k => ?_)
    rw [List.mem_filter, List.mem_filter, order_mem, h.known]
    constructor
    · rintro ⟨⟨h1, _⟩, h2⟩; exact ⟨.inl h1, h2⟩
    · rintro ⟨h1, h2⟩
      have h3 := entry_down h h2
      refine ⟨⟨?_, h3⟩, h2⟩
      by_cases hk : k ∈ s.known
      · exact hk
      · rw [hs.zero k hk] at h3; cases h3
  · refine List.Pairwise.sublist List.filter_sublist ?_
    have ho := List.pairwise_mergeSort (le := s.leP) (leP_trans s) (leP_total s) (s.known.filter (fun k => (s.pl k).entry))
    refine List.Pairwise.imp (fun {a b} hab => ?_) ho
    unfold St.leP at hab
    have := of_decide_eq_true hab
    unfold cmpP at this ⊢
    rw [h.rank, h.rank, h.turn, h.turn]
    exact this
theorem settle_early (u : St) : (u.settle false).main = u.greedy := by
  unfold St.settle St.greedy
  dsimp only
  have e1 : u.main.filter (fun k => false && (u.pl k).entry) = [] := by simp
  rw [e1]
  have e2 : ({ u with main := [] } : St).alts = u.order := by
    unfold St.alts
    show (St.order u).filter _ = _
    simp
  rw [e2]
  rfl

theorem greedy_take (s : St) (x : Nt) : (s.take x).greedy = (s.said x).greedy := by
  unfold St.greedy
  exact fill_congr (s := s.said x) (u := s.take x) rfl rfl (fun _ => rfl) _ _ _

theorem stay_step {s : St} (hs : StOk s) (hT : 0 ≤ s.turns) (x : Nt) (hx : 0 ≤ x.player ∧ x.player ≤ 999) (hc : s.f.close < x.hour) (hg : late s.f x.hour = false → s.main = s.greedy) {m : Int} (hm : m ∈ s.main) (he : ((s.said x).pl m).entry = true) : m ∈ (s.take x).main := by
  have hL := said_lateS s x hc
  have hu := (said_ok hs x hx hT).1
  unfold St.take
  cases hlt : late s.f x.hour with
  | true =>
    unfold St.settle
    dsimp only
    refine fill_keep _ _ _ _ (List.mem_filter.2 ⟨by rw [hL.main]; exact hm, by simpa using he⟩)
  | false =>
    rw [settle_early]
    unfold St.greedy
    rw [fill_congr (hL.places hlt) hL.guards hL.grd, late_order hs hu hL]
    have hm' : m ∈ s.fill false s.order [] 0 := by have := hg hlt; rw [this] at hm; exact hm
    by_cases hp : ((s.said x).pl x.player).entry = true
    · have : s.order.filter (fun k => ((s.said x).pl k).entry) = s.order := by
        rw [List.filter_eq_self]
        intro k hk
        by_cases e : k = x.player
        · rw [e]; exact hp
        · rw [hL.other k e]; exact (order_mem.1 hk).2
      rw [this]
      exact hm'
    · have hne : m ≠ x.player := fun e => hp (e ▸ he)
      have : s.order.filter (fun k => ((s.said x).pl k).entry) = s.order.filter (fun k => k != x.player) := by
        refine List.filter_congr (fun k hk => ?_)
        by_cases e : k = x.player
        · subst e
          have : ((s.said x).pl x.player).entry = false := by simpa using hp
          rw [this]; simp
        · rw [hL.other k e, (order_mem.1 hk).2]; simp [e]
      rw [this]
      exact fill_drop s x.player m hne s.order [] [] 0 0 (.inr ⟨by omega, by omega, by omega⟩) id hm'

theorem main_entry (s : St) (x : Nt) : ∀ k ∈ (s.take x).main, ((s.take x).pl k).entry = true := by
  intro k hk
  have : ∀ (l acc : List Int) (g : Int) (lt : Bool), (∀ k ∈ l, ((s.said x).pl k).entry = true) → (∀ k ∈ acc, ((s.said x).pl k).entry = true) → ∀ k ∈ (s.said x).fill lt l acc g, ((s.said x).pl k).entry = true := fun l acc g lt h1 h2 => fill_known lt (fun k => ((s.said x).pl k).entry = true) l acc g h1 h2
  refine this _ _ _ _ (fun j hj => ?_) (fun j hj => ?_) k hk
  · have := (List.mem_filter.1 hj).1
    exact (order_mem.1 this).2
  · have := (List.mem_filter.1 hj).2
    simp only [Bool.and_eq_true] at this
    exact this.2

def CardsOk (s : St) : Prop := ∀ k, k ∈ s.cards ↔ (s.pl k).card = true ∧ (s.pl k).quit = false
theorem cards_new (f : Fd) : CardsOk (St.new f) := fun k => by simp [St.new, Pl.zero]
theorem cards_said {s : St} (h : CardsOk s) (x : Nt) : CardsOk (s.said x) := by
  have put : ∀ (s0 : St) (p : Pl), s0.pl = s.pl → s0.cards = s.cards → p.card = (s.pl x.player).card → p.quit = (s.pl x.player).quit → CardsOk (s0.put x.player p) := by
    intro s0 p h1 h2 h3 h4 k
    have e : (s0.put x.player p).pl k = if k = x.player then p else s.pl k := by unfold St.put; rw [h1]
    have e2 : (s0.put x.player p).cards = s.cards := h2
    rw [e, e2, h k]
    split
    · rename_i hk; rw [hk, h3, h4]
    · rfl
  unfold St.said
  dsimp only
  split
  · split
    · exact put _ _ rfl rfl rfl rfl
    · exact put _ _ rfl rfl rfl rfl
  · split
    · split
      · rename_i hc
        intro k
        show k ∈ s.cards ++ [x.player] ↔ _
        have e : (({ s with cards := s.cards ++ [x.player] } : St).put x.player { s.pl x.player with card := true }).pl k = if k = x.player then { s.pl x.player with card := true } else s.pl k := rfl
        rw [e, List.mem_append, List.mem_singleton, h k]
        split
        · rename_i hk; subst hk; simp [hc.2.2.1]
        · rename_i hk; simp [hk]
      · exact put _ _ rfl rfl rfl rfl
    · split
      · intro k
        show k ∈ s.cards.filter (fun k => k != x.player) ↔ _
        rw [List.mem_filter, h k]
        show _ ↔ (if k = x.player then ({ s.pl x.player with quit := true } : Pl) else s.pl k).card = true ∧ (if k = x.player then ({ s.pl x.player with quit := true } : Pl) else s.pl k).quit = false
        by_cases hk : k = x.player
        · simp [hk]
        · simp [hk]
      · split
        · exact put _ _ rfl rfl rfl rfl
        · exact put _ _ rfl rfl rfl rfl
theorem cards_take {s : St} (h : CardsOk s) (x : Nt) : CardsOk (s.take x) := cards_said h x

theorem said_fd (s : St) (x : Nt) : (s.said x).f.close = s.f.close := by
  unfold St.said
  dsimp only
  repeat' split
  all_goals (first | rfl | (simp only [St.put]; split <;> rfl))

structure Way (s : St) (m : Int) : Prop where
  ok : StOk s
  turns : 0 ≤ s.turns
  ent : (s.pl m).ent = true
  iff : m ∈ s.main ↔ (s.pl m).entry = true

theorem way_step {s : St} {m : Int} (h : Way s m) (x : Nt) (hx : 0 ≤ x.player ∧ x.player ≤ 999) (hc : s.f.close < x.hour) (hg : late s.f x.hour = false → s.main = s.greedy) : Way (s.take x) m ∧ ((s.take x).pl m).quit = ((s.pl m).quit || (decide (x.kind = 4) && decide (m = x.player))) := by
  have hL := said_lateS s x hc
  refine ⟨⟨(take_ok h.ok x hx h.turns).1, (take_ok h.ok x hx h.turns).2, (hL.ent m).trans h.ent, fun hm => main_entry s x m hm, fun he => ?_⟩, hL.quit m⟩
  exact stay_step h.ok h.turns x hx hc hg (h.iff.2 (entry_down hL he)) he

theorem way_fold {m : Int} (c z : Int) : ∀ (r : List Nt) (s : St), Way s m → s.f.close = c → s.f.freeze = z → (∀ x ∈ r, 0 ≤ x.player ∧ x.player ≤ 999) → (∀ x ∈ r, c < x.hour) → r.Pairwise (fun a b => a.hour ≤ b.hour) → ((∃ x ∈ r, x.hour ≤ z) → s.main = s.greedy) →
    Way (r.foldl St.take s) m ∧ (((r.foldl St.take s).pl m).quit = true ↔ (s.pl m).quit = true ∨ ∃ x ∈ r, x.kind = 4 ∧ x.player = m)
  | [], s, h, _, _, _, _, _, _ => ⟨h, by simp⟩
  | x :: r, s, h, h1, h2, hp, hc, hs, hg => by
    have hx := hp x (List.mem_cons_self ..)
    have hcx := hc x (List.mem_cons_self ..)
    obtain ⟨hs1, hs2⟩ := List.pairwise_cons.1 hs
    obtain ⟨hw, hq⟩ := way_step h x hx (by rw [h1]; exact hcx) (fun hl => hg ⟨x, List.mem_cons_self .., by unfold late at hl; have := of_decide_eq_false hl; rw [h2] at this; omega⟩)
    have ih := way_fold c z r (s.take x) hw ((said_fd s x).trans h1) ((said_freeze s x).trans h2) (fun y hy => hp y (List.mem_cons_of_mem _ hy)) (fun y hy => hc y (List.mem_cons_of_mem _ hy)) hs2 (fun ⟨y, hy, hyz⟩ => by
      have hxz : x.hour ≤ z := Int.le_trans (hs1 y hy) hyz
      have hl : late s.f x.hour = false := by unfold late; rw [h2]; exact decide_eq_false (by omega)
      show ((s.said x).settle (late s.f x.hour)).main = _
      rw [hl, settle_early, greedy_take])
    refine ⟨ih.1, ih.2.trans ?_⟩
    rw [hq]
    simp only [Bool.or_eq_true, Bool.and_eq_true, decide_eq_true_eq, List.mem_cons]
    constructor
    · rintro ((h3 | ⟨h3, h4⟩) | ⟨y, hy, h3⟩)
      · exact .inl h3
      · exact .inr ⟨x, .inl rfl, h3, h4.symm⟩
      · exact .inr ⟨y, .inr hy, h3⟩
    · rintro (h3 | ⟨y, rfl | hy, h3, h4⟩)
      · exact .inl (.inl h3)
      · exact .inl (.inr ⟨h3, h4.symm⟩)
      · exact .inr ⟨y, hy, h3, h4⟩

theorem cards_fold : ∀ (r : List Nt) (s : St), CardsOk s → CardsOk (r.foldl St.take s)
  | [], _, h => h
  | x :: r, _, h => cards_fold r _ (cards_take h x)
theorem fold_fd : ∀ (r : List Nt) (s : St), (r.foldl St.take s).f.close = s.f.close ∧ (r.foldl St.take s).f.freeze = s.f.freeze
  | [], _ => ⟨rfl, rfl⟩
  | x :: r, s => by
    obtain ⟨h1, h2⟩ := fold_fd r (s.take x)
    exact ⟨h1.trans (said_fd s x), h2.trans (said_freeze s x)⟩
theorem fold_main : ∀ (r : List Nt) (s : St), (∀ k ∈ s.main, (s.pl k).entry = true) → ∀ k ∈ (r.foldl St.take s).main, ((r.foldl St.take s).pl k).entry = true
  | [], _, h => h
  | x :: r, s, _ => fold_main r _ (main_entry s x)
theorem fold_greedy (z : Int) : ∀ (r : List Nt) (s : St), s.f.freeze = z → (∀ x ∈ r, x.hour ≤ z) → s.main = s.greedy → (r.foldl St.take s).main = (r.foldl St.take s).greedy
  | [], _, _, _, h => h
  | x :: r, s, hz, hr, h => by
    refine fold_greedy z r (s.take x) ((said_freeze s x).trans hz) (fun y hy => hr y (List.mem_cons_of_mem _ hy)) ?_
    have hl : late s.f x.hour = false := by unfold late; rw [hz]; have := hr x (List.mem_cons_self ..); exact decide_eq_false (by omega)
    show ((s.said x).settle (late s.f x.hour)).main = _
    rw [hl, settle_early, greedy_take]
theorem greedy_new (f : Fd) : (St.new f).main = (St.new f).greedy := by
  unfold St.greedy St.order St.new
  simp [St.fill]
theorem filter_split {h1 h2 : Int} (h12 : h1 ≤ h2) : ∀ (d : List Nt), d.Pairwise (fun a b => a.hour ≤ b.hour) → d.filter (fun x => decide (x.hour ≤ h2)) = d.filter (fun x => decide (x.hour ≤ h1)) ++ d.filter (fun x => decide (h1 < x.hour) && decide (x.hour ≤ h2))
  | [], _ => rfl
  | x :: r, hs => by
    obtain ⟨hs1, hs2⟩ := List.pairwise_cons.1 hs
    by_cases e : x.hour ≤ h1
    · have e2 : x.hour ≤ h2 := by omega
      rw [List.filter_cons_of_pos (by simpa using e2), List.filter_cons_of_pos (by simpa using e), List.filter_cons_of_neg (by simp; omega), List.cons_append, filter_split h12 r hs2]
    · have e1 : r.filter (fun x => decide (x.hour ≤ h1)) = [] := List.filter_eq_nil_iff.2 (fun y hy => by have := hs1 y hy; simp; omega)
      rw [List.filter_cons_of_neg (l := r) (p := fun x => decide (x.hour ≤ h1)) (by simpa using e), e1, List.nil_append]
      refine List.filter_congr (fun y hy => ?_)
      have hy1 : h1 < y.hour := by
        rcases List.mem_cons.1 hy with h | h
        · subst h; omega
        · have := hs1 y h; omega
      simp [hy1]

theorem stays {f : Fd} {d : List Nt} (ht : Taken d) {h1 h2 : Int} (hc : f.close ≤ h1) (h12 : h1 ≤ h2) {m : Int} (hm : m ∈ (atL f h1 d).main) :
    m ∈ (atL f h2 d).main ↔ ¬ (m ∈ (atL f h2 d).cards ∨ ∃ x ∈ d, x.player = m ∧ x.kind = 4 ∧ h1 < x.hour ∧ x.hour ≤ h2) := by
  have hp : ∀ x ∈ d, 0 ≤ x.player ∧ x.player ≤ 999 := fun x hx => valid_player (ht.valid x hx)
  have hs := taken_hours ht
  obtain ⟨hok, hT⟩ := atL_ok f h1 hp
  have hfd := fold_fd (d.filter (fun x => decide (x.hour ≤ h1))) (St.new f)
  have hent := fold_main (d.filter (fun x => decide (x.hour ≤ h1))) (St.new f) (fun k hk => by cases hk) m hm
  have e2 : atL f h2 d = (d.filter (fun x => decide (h1 < x.hour) && decide (x.hour ≤ h2))).foldl St.take (atL f h1 d) := by
    unfold atL
    rw [filter_split h12 d hs, List.foldl_append]
  have hway : Way (atL f h1 d) m := ⟨hok, hT, entry_ent hent, fun _ => hent, fun _ => hm⟩
  have hmem : ∀ x, x ∈ d.filter (fun x => decide (h1 < x.hour) && decide (x.hour ≤ h2)) ↔ x ∈ d ∧ h1 < x.hour ∧ x.hour ≤ h2 := fun x => by simp [List.mem_filter]
  have hf := way_fold f.close f.freeze _ (atL f h1 d) hway hfd.1 hfd.2 (fun x hx => hp x ((hmem x).1 hx).1) (fun x hx => by have := ((hmem x).1 hx).2.1; omega) (List.Pairwise.sublist List.filter_sublist hs) (fun ⟨y, hy, hyz⟩ => by
    refine fold_greedy f.freeze _ (St.new f) rfl (fun x hx => ?_) (greedy_new f)
    have h3 := ((hmem y).1 hy).2.1
    have h4 := (List.mem_filter.1 hx).2
    simp at h4
    omega)
  rw [← e2] at hf
  have hcd : CardsOk (atL f h2 d) := cards_fold _ _ (cards_new f)
  obtain ⟨hw, hq⟩ := hf
  have hq0 : ((atL f h1 d).pl m).quit = false := by
    unfold Pl.entry at hent
    simp only [Bool.and_eq_true, Bool.not_eq_true'] at hent
    exact hent.1.2
  have hq' : ((atL f h2 d).pl m).quit = true ↔ ∃ x ∈ d, x.player = m ∧ x.kind = 4 ∧ h1 < x.hour ∧ x.hour ≤ h2 := by
    rw [hq, hq0]
    constructor
    · rintro (h | ⟨x, hx, h3, h4⟩)
      · cases h
      · exact ⟨x, ((hmem x).1 hx).1, h4, h3, ((hmem x).1 hx).2⟩
    · rintro ⟨x, hx, h3, h4, h5⟩
      exact .inr ⟨x, (hmem x).2 ⟨hx, h5⟩, h4, h3⟩
  rw [← hq', hcd m, hw.iff]
  unfold Pl.entry
  rw [hw.ent]
  cases ((atL f h2 d).pl m).quit <;> cases ((atL f h2 d).pl m).card <;> simp
end E
end Go.Proofs.YtobjahlmjcnfoaaGreat

namespace Go.Proofs.YtobjahlmjcnfoaaGreat
open Go.RowKit
attribute [local go_sem ↓] Go.wp_at_zero Go.wp_at_succ

def E.farB (n : Nat) : Bool := (decide (20 < n) && decide (n ≤ 60)) || decide (100 < n)
theorem Far_any (A : Option Addr) (n c : Nat) (w : World) (hm : n ≤ 1000000) :
    Calls Tryz.prog 4 #[.slice A n c] w fun e w' => e = .returned (.bool (E.farB n)) ∧ w = w' := by
  by_cases h1 : 20 < n
  · by_cases h2 : n ≤ 60
    · have e : E.farB n = true := by unfold E.farB; rw [decide_eq_true h1, decide_eq_true h2]; rfl
      have i1 : (20 : Int) < (n : Int) := by omega
      have i2 : (n : Int) ≤ 60 := by omega
      rw [e]
      clear h1 h2 e
      go_enter Tryz.func4, Tryz.ntmps4
      go_wp2
      go_ret
      exact ⟨rfl, rfl⟩
    · have i1 : (20 : Int) < (n : Int) := by omega
      have i2 : ¬ (n : Int) ≤ 60 := by omega
      by_cases h3 : 100 < n
      · have e : E.farB n = true := by unfold E.farB; rw [decide_eq_true h3]; simp
        have i3 : (100 : Int) < (n : Int) := by omega
        rw [e]
        clear h1 h2 h3 e
        go_enter Tryz.func4, Tryz.ntmps4
        go_wp2
        go_ret
        exact ⟨rfl, rfl⟩
      · have e : E.farB n = false := by unfold E.farB; rw [decide_eq_false h3, decide_eq_false h2]; simp
        have i3 : ¬ (100 : Int) < (n : Int) := by omega
        rw [e]
        clear h1 h2 h3 e
        go_enter Tryz.func4, Tryz.ntmps4
        go_wp2
        go_ret
        exact ⟨rfl, rfl⟩
  · have e : E.farB n = false := by unfold E.farB; rw [decide_eq_false h1, decide_eq_false (by omega : ¬ 100 < n)]; rfl
    have i1 : ¬ (20 : Int) < (n : Int) := by omega
    have i3 : ¬ (100 : Int) < (n : Int) := by omega
    rw [e]
    clear h1 e
    go_enter Tryz.func4, Tryz.ntmps4
    go_wp2
    go_ret
    exact ⟨rfl, rfl⟩
end Go.Proofs.YtobjahlmjcnfoaaGreat

namespace Go.Proofs.YtobjahlmjcnfoaaGreat
open Go.RowKit
attribute [local go_sem ↓] Go.wp_at_zero Go.wp_at_succ

namespace E
theorem fold_bd : ∀ (l : List Nt) (s : St) (k : Nat), Bd k s → Bd (k + l.length) (l.foldl St.take s)
  | [], _, _, h => h
  | x :: r, s, k, h => by
    have := fold_bd r (s.take x) (k + 1) (take_bd h x)
    rw [List.length_cons]
    rw [show k + 1 + r.length = k + (r.length + 1) by omega] at this
    exact this
end E
end Go.Proofs.YtobjahlmjcnfoaaGreat

namespace Go.Proofs.YtobjahlmjcnfoaaGreat
namespace E

def entQ (f : Fd) (h p : Int) (x : Nt) : Bool := decide (x.player = p) && (decide (x.kind = 1) || decide (x.kind = 2)) && decide (x.hour ≤ h) && decide (x.hour ≤ f.close)
def entStep (f : Fd) (h p : Int) (a x : Nt) : Nt := if entQ f h p x = true ∧ (x.hour < a.hour ∨ x.hour = a.hour ∧ x.id < a.id) then x else a
def entZ : Nt := ⟨0, 10000, 0, 0, 0⟩
def entF (f : Fd) (h p : Int) (l : List Nt) : Nt := l.foldl (entStep f h p) entZ

def tri (p : Pl) : Bool × Bool × Int := (p.ent, p.grd, p.rank)
theorem entF_spec (f : Fd) (h p : Int) : ∀ (l : List Nt) (a : Nt), let r := l.foldl (entStep f h p) a
    (r = a ∨ (r ∈ l ∧ entQ f h p r = true)) ∧ (r.hour < a.hour ∨ r.hour = a.hour ∧ r.id ≤ a.id) ∧ ∀ y ∈ l, entQ f h p y = true → (r.hour < y.hour ∨ r.hour = y.hour ∧ r.id ≤ y.id)
  | [], a => ⟨.inl rfl, .inr ⟨rfl, Int.le_refl _⟩, fun y hy => by cases hy⟩
  | x :: l, a => by
    have ih := entF_spec f h p l (entStep f h p a x)
    dsimp only at ih ⊢
    rw [List.foldl_cons]
    obtain ⟨h1, h2, h3⟩ := ih
    have hs : (entStep f h p a x = x ∧ entQ f h p x = true ∧ (x.hour < a.hour ∨ x.hour = a.hour ∧ x.id < a.id)) ∨ (entStep f h p a x = a ∧ (entQ f h p x = true → a.hour < x.hour ∨ a.hour = x.hour ∧ a.id ≤ x.id)) := by
      unfold entStep
      by_cases e : entQ f h p x = true ∧ (x.hour < a.hour ∨ x.hour = a.hour ∧ x.id < a.id)
      · rw [if_pos e]; exact .inl ⟨rfl, e.1, e.2⟩
      · rw [if_neg e]
        refine .inr ⟨rfl, fun hq => ?_⟩
        have : ¬ (x.hour < a.hour ∨ x.hour = a.hour ∧ x.id < a.id) := fun h => e ⟨hq, h⟩
        omega
    generalize l.foldl (entStep f h p) (entStep f h p a x) = R at h1 h2 h3 ⊢
    refine ⟨?_, ?_, ?_⟩
    · rcases h1 with h1 | h1
      · rcases hs with hs | hs
        · exact .inr ⟨by rw [h1, hs.1]; exact List.mem_cons_self .., by rw [h1, hs.1]; exact hs.2.1⟩
        · exact .inl (h1.trans hs.1)
      · exact .inr ⟨List.mem_cons_of_mem _ h1.1, h1.2⟩
    · rcases hs with hs | hs
      · rw [hs.1] at h2; have := hs.2.2; omega
      · rw [hs.1] at h2; exact h2
    · intro y hy hq
      rcases List.mem_cons.1 hy with e | hy
      · subst e
        rcases hs with hs | hs
        · rw [hs.1] at h2; exact h2
        · rw [hs.1] at h2; have := hs.2 hq; omega
      · exact h3 y hy hq

theorem entF_find {l d : List Nt} (ht : Taken d) (hm : ∀ y, y ∈ d ↔ y ∈ l) (f : Fd) (h p : Int) :
    (d.find? (entQ f h p) = none ∧ entF f h p l = entZ) ∨ ∃ x ∈ l, d.find? (entQ f h p) = some x ∧ entF f h p l = x ∧ entQ f h p x = true := by
  obtain ⟨h1, h2, h3⟩ := entF_spec f h p l entZ
  change (entF f h p l = entZ ∨ (entF f h p l ∈ l ∧ entQ f h p (entF f h p l) = true)) at h1
  change ((entF f h p l).hour < entZ.hour ∨ (entF f h p l).hour = entZ.hour ∧ (entF f h p l).id ≤ entZ.id) at h2
  change (∀ y ∈ l, entQ f h p y = true → ((entF f h p l).hour < y.hour ∨ (entF f h p l).hour = y.hour ∧ (entF f h p l).id ≤ y.id)) at h3
  cases hf : d.find? (entQ f h p) with
  | none =>
    left
    refine ⟨rfl, ?_⟩
    rcases h1 with h1 | h1
    · exact h1
    · have := List.find?_eq_none.1 hf _ ((hm _).2 h1.1)
      exact absurd h1.2 this
  | some x =>
    right
    have hx := List.mem_of_find?_eq_some hf
    have hq := List.find?_some hf
    refine ⟨x, (hm x).1 hx, rfl, ?_, hq⟩
    have hle := h3 x ((hm x).1 hx) hq
    rcases h1 with h1 | h1
    · exfalso
      have := (valid_hour (ht.valid x hx)).2
      rw [h1] at hle
      unfold entZ at hle
      simp only at hle
      omega
    · obtain ⟨a1, b1, hd, hno⟩ := (List.find?_eq_some_iff_append.1 hf).2
      have hr : entF f h p l ∈ d := (hm _).2 h1.1
      have hord : leN x (entF f h p l) = true := by
        have hs := ht.sorted
        have hr' := hr
        rw [hd] at hr' hs
        rcases List.mem_append.1 hr' with h4 | h4
        · have := hno _ h4
          rw [h1.2] at this
          exact absurd this (by decide)
        · rcases List.mem_cons.1 h4 with h4 | h4
          · rw [h4]; exact (leN_iff _ _).2 (.inr ⟨rfl, Int.le_refl _⟩)
          · exact (List.pairwise_cons.1 (List.pairwise_append.1 hs).2.1).1 _ h4
      have := (leN_iff _ _).1 hord
      exact ids_inj ht.ids _ hr _ hx (by omega)

theorem tri_said (s : St) (x : Nt) (p : Int) : tri ((s.said x).pl p) = if x.player = p ∧ (x.kind = 1 ∨ x.kind = 2) ∧ x.hour ≤ s.f.close ∧ (s.pl p).ent = false then (true, decide (x.kind = 2), x.rank) else tri (s.pl p) := by
  have put : ∀ (s0 : St) (q : Pl), (s0.put x.player q).pl p = if p = x.player then q else s0.pl p := fun _ _ => rfl
  unfold St.said
  dsimp only
  by_cases hp : p = x.player
  · subst hp
    split
    · rename_i hk
      split
      · rename_i hc
        rw [put, if_pos rfl, if_pos ⟨rfl, hk, hc.1, hc.2⟩]; rfl
      · rename_i hc
        rw [put, if_pos rfl, if_neg (fun h => hc ⟨h.2.2.1, h.2.2.2⟩)]
    · rename_i hk
      rw [if_neg (c := x.player = x.player ∧ (x.kind = 1 ∨ x.kind = 2) ∧ x.hour ≤ s.f.close ∧ (s.pl x.player).ent = false) (fun h => hk h.2.1)]
      repeat' split
      all_goals (rw [put, if_pos rfl]; try rfl)
  · rw [if_neg (c := x.player = p ∧ _) (fun h => hp h.1.symm)]
    repeat' split
    all_goals rw [put, if_neg hp]

theorem tri_fold (f : Fd) (h p : Int) : ∀ (r : List Nt) (s : St), s.f.close = f.close → (∀ x ∈ r, x.hour ≤ h) → tri ((r.foldl St.take s).pl p) = if (s.pl p).ent then tri (s.pl p) else match r.find? (entQ f h p) with | some x => (true, decide (x.kind = 2), x.rank) | none => tri (s.pl p)
  | [], s, _, _ => by simp
  | x :: r, s, hc, hr => by
    have ih := tri_fold f h p r (s.take x) ((said_fd s x).trans hc) (fun y hy => hr y (List.mem_cons_of_mem _ hy))
    rw [List.foldl_cons, ih]
    have e1 : tri ((s.take x).pl p) = tri ((s.said x).pl p) := rfl
    have e2 : ((s.take x).pl p).ent = (tri ((s.said x).pl p)).1 := rfl
    rw [e1, e2, tri_said]
    have hx := hr x (List.mem_cons_self ..)
    cases he : (s.pl p).ent with
    | true =>
      rw [if_neg (c := x.player = p ∧ _) (fun h => by simp at h)]
      have : (tri (s.pl p)).1 = true := he
      rw [this]; rfl
    | false =>
      by_cases hq : x.player = p ∧ (x.kind = 1 ∨ x.kind = 2) ∧ x.hour ≤ s.f.close
      · rw [if_pos (c := x.player = p ∧ _) ⟨hq.1, hq.2.1, hq.2.2, rfl⟩]
        have : entQ f h p x = true := by
          unfold entQ
          have h1 := hq.2.2
          rw [hc] at h1
          simp [hq.1, hq.2.1, hx, h1]
        rw [List.find?_cons_of_pos this]; rfl
      · rw [if_neg (c := x.player = p ∧ _) (fun h => hq ⟨h.1, h.2.1, h.2.2.1⟩)]
        have : ¬ entQ f h p x = true := by
          unfold entQ
          intro h1
          simp only [Bool.and_eq_true, Bool.or_eq_true, decide_eq_true_eq] at h1
          exact hq ⟨h1.1.1.1, h1.1.1.2, by rw [hc]; exact h1.2⟩
        rw [List.find?_cons_of_neg this]
        have : (tri (s.pl p)).1 = false := he
        rw [this]

theorem find_filter {a : List Nt} (q p : Nt → Bool) (hqp : ∀ x, q x = true → p x = true) : (a.filter p).find? q = a.find? q := by
  induction a with
  | nil => rfl
  | cons x r ih =>
    by_cases hp : p x = true
    · rw [List.filter_cons_of_pos hp, List.find?_cons, List.find?_cons, ih]
    · rw [List.filter_cons_of_neg hp, ih, List.find?_cons_of_neg (fun h => hp (hqp x h))]

theorem entered_eq {l d : List Nt} (hd : diffs l = some d) (f : Fd) (h p : Int) :
    tri ((atL f h d).pl p) = (decide ((entF f h p l).hour ≤ 9999), decide ((entF f h p l).kind = 2), (entF f h p l).rank) := by
  obtain ⟨_, ht, hm⟩ := diffs_spec hd
  have h1 := tri_fold f h p (d.filter (fun x => decide (x.hour ≤ h))) (St.new f) rfl (fun x hx => by have := (List.mem_filter.1 hx).2; simpa using this)
  have e : (d.filter (fun x => decide (x.hour ≤ h))).find? (entQ f h p) = d.find? (entQ f h p) := find_filter _ _ (fun x hx => by
    unfold entQ at hx
    simp only [Bool.and_eq_true] at hx
    exact hx.1.2)
  rw [e] at h1
  have h2 : ((St.new f).pl p).ent = false := rfl
  rw [h2] at h1
  change tri ((atL f h d).pl p) = _ at h1
  rw [h1]
  rcases entF_find ht hm f h p with ⟨h3, h4⟩ | ⟨x, hx, h3, h4, _⟩
  · rw [h3, h4]; rfl
  · have hv := (valid_hour (ht.valid x ((hm x).2 hx))).2
    rw [h3, h4, decide_eq_true hv]; rfl
end E
end Go.Proofs.YtobjahlmjcnfoaaGreat

namespace Go.Proofs.YtobjahlmjcnfoaaGreat
namespace E

theorem guardsOf_app (s : St) (l m : List Int) : s.guardsOf (l ++ m) = s.guardsOf l + s.guardsOf m := by
  unfold St.guardsOf
  rw [List.map_append, List.sum_append]
theorem guardsOf_one (s : St) (k : Int) : s.guardsOf [k] = one (s.pl k).grd := by simp [St.guardsOf]
theorem fill_full {s : St} (lt : Bool) : ∀ (l acc : List Int) (g : Int), s.f.places ≤ (acc.length : Int) → s.fill lt l acc g = acc
  | [], _, _, _ => rfl
  | a :: r, acc, g, h => by
    unfold St.fill
    rw [if_neg (fun hc => by have := hc.1; omega)]
    exact fill_full lt r acc g h
theorem fill_guards {s : St} (lt : Bool) : ∀ (l acc : List Int) (g : Int), s.guardsOf acc ≤ s.guardsOf (s.fill lt l acc g)
  | [], _, _ => Int.le_refl _
  | a :: r, acc, g => by
    unfold St.fill
    split
    · have h1 := fill_guards (s := s) lt r (acc ++ [a]) (g + one (s.pl a).grd)
      have h2 := one_bd (s.pl a).grd
      rw [guardsOf_app, guardsOf_one] at h1
      omega
    · exact fill_guards lt r acc g

theorem fill_pass {s : St} (lt : Bool) {o : Int} : ∀ (l acc : List Int) (g : Int), g = s.guardsOf acc → o ∈ l → o ∉ s.fill lt l acc g →
    (s.f.places ≤ ((s.fill lt l acc g).length : Int) ∧ ∃ l1 l2, l = l1 ++ o :: l2 ∧ ∀ k ∈ s.fill lt l acc g, k ∈ acc ∨ k ∈ l1) ∨ (lt = true ∧ (s.pl o).sgn = false) ∨ ((s.pl o).grd = true ∧ s.f.guards ≤ s.guardsOf (s.fill lt l acc g))
  | [], _, _, _, h, _ => by cases h
  | a :: r, acc, g, hg, ho, hn => by
    unfold St.fill at hn ⊢
    by_cases hc : (acc.length : Int) < s.f.places ∧ ((s.pl a).sgn = true ∨ lt = false) ∧ (g < s.f.guards ∨ (s.pl a).grd = false)
    · rw [if_pos hc] at hn ⊢
      have hno : o ≠ a := fun e => hn (fill_keep lt r _ _ (by rw [e]; simp))
      have hor : o ∈ r := (List.mem_cons.1 ho).resolve_left hno
      rcases fill_pass lt r (acc ++ [a]) (g + one (s.pl a).grd) (by rw [guardsOf_app, guardsOf_one, hg]) hor hn with ⟨h1, l1, l2, h2, h3⟩ | h1
      · refine .inl ⟨h1, a :: l1, l2, by rw [h2]; rfl, fun k hk => ?_⟩
        rcases h3 k hk with h4 | h4
        · rcases List.mem_append.1 h4 with h5 | h5
          · exact .inl h5
          · right; simp at h5; rw [h5]; exact List.mem_cons_self ..
        · exact .inr (List.mem_cons_of_mem _ h4)
      · exact .inr h1
    · rw [if_neg hc] at hn ⊢
      by_cases e : o = a
      · subst e
        by_cases h1 : (acc.length : Int) < s.f.places
        · by_cases h2 : (s.pl o).sgn = true ∨ lt = false
          · have h3 : ¬ (g < s.f.guards ∨ (s.pl o).grd = false) := fun h => hc ⟨h1, h2, h⟩
            have h4 : (s.pl o).grd = true := by
              cases h : (s.pl o).grd with
              | true => rfl
              | false => exact absurd (.inr h) h3
            have h5 : ¬ g < s.f.guards := fun h => h3 (.inl h)
            have h6 := fill_guards (s := s) lt r acc g
            exact .inr (.inr ⟨h4, by omega⟩)
          · refine .inr (.inl ⟨?_, ?_⟩)
            · cases h : lt with
              | true => rfl
              | false => exact absurd (.inr h) h2
            · cases h : (s.pl o).sgn with
              | false => rfl
              | true => exact absurd (.inl h) h2
        · rw [fill_full lt r acc g (by omega)]
          exact .inl ⟨by omega, [], r, rfl, fun k hk => .inl hk⟩
      · have hor : o ∈ r := (List.mem_cons.1 ho).resolve_left e
        rcases fill_pass lt r acc g hg hor hn with ⟨h1, l1, l2, h2, h3⟩ | h1
        · refine .inl ⟨h1, a :: l1, l2, by rw [h2]; rfl, fun k hk => ?_⟩
          exact (h3 k hk).imp id (fun h4 => List.mem_cons_of_mem _ h4)
        · exact .inr h1

theorem alts_mem {s : St} {o : Int} : o ∈ s.alts ↔ o ∈ s.order ∧ o ∉ s.main := by
  unfold St.alts
  rw [List.mem_filter]
  simp

theorem right_late {s : St} {x : Nt} (hl : late s.f x.hour = true) {o : Int} (ho : o ∈ (s.take x).alts) (hs : ((s.take x).pl o).sgn = true) :
    (s.take x).f.places ≤ ((s.take x).main.length : Int) ∨ (((s.take x).pl o).grd = true ∧ (s.take x).f.guards ≤ (s.take x).guardsOf (s.take x).main) := by
  obtain ⟨h1, h2⟩ := alts_mem.1 ho
  have key : ∀ (u : St), o ∈ (u.settle true).order → o ∉ (u.settle true).main → ((u.settle true).pl o).sgn = true → (u.settle true).f.places ≤ ((u.settle true).main.length : Int) ∨ (((u.settle true).pl o).grd = true ∧ (u.settle true).f.guards ≤ (u.settle true).guardsOf (u.settle true).main) := by
    intro u h1 h2 hs
    have hm : o ∉ u.main.filter (fun k => true && (u.pl k).entry) := fun h => h2 (fill_keep _ _ _ _ h)
    have hin : o ∈ ({ u with main := u.main.filter (fun k => true && (u.pl k).entry) } : St).alts := alts_mem.2 ⟨h1, hm⟩
    rcases fill_pass (s := u) true _ _ _ rfl hin h2 with h3 | h3 | h3
    · exact .inl h3.1
    · have : (u.pl o).sgn = true := hs
      rw [h3.2] at this; cases this
    · exact .inr h3
  unfold St.take at h1 h2 hs ⊢
  rw [hl] at h1 h2 hs ⊢
  exact key _ h1 h2 hs

theorem right_early {s : St} (hm : s.main = s.greedy) {o : Int} (ho : o ∈ s.alts) :
    (s.f.places ≤ (s.main.length : Int) ∧ ∀ k ∈ s.main, 0 ≤ cmpP (s.pl o) (s.pl k)) ∨ ((s.pl o).grd = true ∧ s.f.guards ≤ s.guardsOf s.main) := by
  obtain ⟨h1, h2⟩ := alts_mem.1 ho
  rw [hm] at h2 ⊢
  unfold St.greedy at h2 ⊢
  rcases fill_pass (s := s) false s.order [] 0 (by simp [St.guardsOf]) h1 h2 with ⟨h3, l1, l2, h4, h5⟩ | h3 | h3
  · refine .inl ⟨h3, fun k hk => ?_⟩
    have hk1 : k ∈ l1 := (h5 k hk).resolve_left (by simp)
    have hs := List.pairwise_mergeSort (le := s.leP) (leP_trans s) (leP_total s) (s.known.filter fun k => (s.pl k).entry)
    change s.order.Pairwise _ at hs
    rw [h4] at hs
    have := (List.pairwise_append.1 hs).2.2 k hk1 o (List.mem_cons_self ..)
    unfold St.leP at this
    exact of_decide_eq_true this
  · cases h3.1
  · exact .inr h3

theorem cmpP_rank {p q : Pl} (h : 0 ≤ cmpP p q) : ¬ (0 < p.rank ∧ (q.rank = 0 ∨ p.rank < q.rank)) := by
  rintro ⟨h1, h2⟩
  unfold cmpP at h
  have e1 : (p.rank == 0) = false := by rw [beq_eq_false_iff_ne]; omega
  rw [e1] at h
  by_cases hq : q.rank = 0
  · have e2 : (q.rank == 0) = true := by rw [hq]; rfl
    rw [e2] at h
    simp [one, orL, cmp] at h
  · have e2 : (q.rank == 0) = false := by rw [beq_eq_false_iff_ne]; exact hq
    rw [e2] at h
    have h3 : p.rank < q.rank := h2.resolve_left hq
    simp [one, orL, cmp, h3] at h

theorem sgn_said (s : St) (x : Nt) (p : Int) : ((s.said x).pl p).sgn = ((s.pl p).sgn || (decide (x.kind = 5) && decide (x.player = p))) := by
  have put : ∀ (s0 : St) (q : Pl), (s0.put x.player q).pl p = if p = x.player then q else s0.pl p := fun _ _ => rfl
  unfold St.said
  dsimp only
  by_cases hp : p = x.player
  · subst hp
    repeat' split
    all_goals (rw [put, if_pos rfl])
    all_goals first
      | (rename_i h _; have h5 : ¬ x.kind = 5 := (by omega); simp [h5]; done)
      | (rename_i h; have h5 : ¬ x.kind = 5 := (by omega); simp [h5]; done)
      | (rename_i h; simp [h]; done)
  · have e : decide (x.player = p) = false := decide_eq_false (fun h => hp h.symm)
    rw [e, Bool.and_false, Bool.or_false]
    repeat' split
    all_goals rw [put, if_neg hp]
theorem sgn_fold (p : Int) : ∀ (r : List Nt) (s : St), ((r.foldl St.take s).pl p).sgn = true ↔ (s.pl p).sgn = true ∨ ∃ x ∈ r, x.kind = 5 ∧ x.player = p
  | [], s => by simp
  | x :: r, s => by
    have e : ((s.take x).pl p).sgn = ((s.said x).pl p).sgn := rfl
    rw [List.foldl_cons, sgn_fold p r, e, sgn_said]
    simp only [Bool.or_eq_true, Bool.and_eq_true, decide_eq_true_eq, List.mem_cons]
    constructor
    · rintro ((h | h) | ⟨y, hy, h⟩)
      · exact .inl h
      · exact .inr ⟨x, .inl rfl, h⟩
      · exact .inr ⟨y, .inr hy, h⟩
    · rintro (h | ⟨y, rfl | hy, h⟩)
      · exact .inl (.inl h)
      · exact .inl (.inr h)
      · exact .inr ⟨y, hy, h⟩
theorem said_guards (s : St) (x : Nt) : (s.said x).f.guards = s.f.guards := by
  unfold St.said
  dsimp only
  repeat' split
  all_goals (first | rfl | (simp only [St.put]; split <;> rfl))
theorem fold_guards : ∀ (r : List Nt) (s : St), (r.foldl St.take s).f.guards = s.f.guards
  | [], _ => rfl
  | x :: r, s => (fold_guards r (s.take x)).trans (said_guards s x)

theorem right {f : Fd} {l d : List Nt} (hd : diffs l = some d) (h : Int) {o : Int} (ho : o ∈ (atL f h d).alts) (hb : ¬ ((entF f h o l).kind = 2 ∧ f.guards ≤ (atL f h d).guardsOf (atL f h d).main)) :
    (h ≤ f.freeze → (atL f h d).f.places ≤ ((atL f h d).main.length : Int) ∧ ∀ k ∈ (atL f h d).main, ¬ (0 < (entF f h o l).rank ∧ ((entF f h k l).rank = 0 ∨ (entF f h o l).rank < (entF f h k l).rank))) ∧
    (f.freeze < h → (∃ x ∈ l, f.freeze < x.hour ∧ x.hour ≤ h) → (∃ x ∈ l, x.kind = 5 ∧ x.player = o ∧ x.hour ≤ h) → (atL f h d).f.places ≤ ((atL f h d).main.length : Int)) := by
  obtain ⟨_, ht, hm⟩ := diffs_spec hd
  have hg : (atL f h d).f.guards = f.guards := fold_guards _ _
  have hgr : ∀ k, ((atL f h d).pl k).grd = decide ((entF f h k l).kind = 2) := fun k => congrArg (fun t => t.2.1) (entered_eq hd f h k)
  have hrk : ∀ k, ((atL f h d).pl k).rank = (entF f h k l).rank := fun k => congrArg (fun t => t.2.2) (entered_eq hd f h k)
  have hnb : ¬ (((atL f h d).pl o).grd = true ∧ (atL f h d).f.guards ≤ (atL f h d).guardsOf (atL f h d).main) := fun hh => hb ⟨by have := hh.1; rw [hgr] at this; exact of_decide_eq_true this, by have := hh.2; rw [hg] at this; exact this⟩
  refine ⟨fun hz => ?_, fun hz ⟨x, hx, hx1, hx2⟩ ⟨y, hy, hy1, hy2, hy3⟩ => ?_⟩
  · have hgreedy : (atL f h d).main = (atL f h d).greedy := fold_greedy f.freeze _ (St.new f) rfl (fun x hx => by have := (List.mem_filter.1 hx).2; simp at this; omega) (greedy_new f)
    rcases right_early hgreedy ho with ⟨h1, h2⟩ | h1
    · refine ⟨h1, fun k hk => ?_⟩
      have := cmpP_rank (h2 k hk)
      rw [hrk, hrk] at this
      exact this
    · exact absurd h1 hnb
  · obtain ⟨r, z, hr⟩ : ∃ r z, d.filter (fun x => decide (x.hour ≤ h)) = r ++ [z] := by
      have hmem : x ∈ d.filter (fun x => decide (x.hour ≤ h)) := List.mem_filter.2 ⟨(hm x).2 hx, by simpa using hx2⟩
      have hne : d.filter (fun x => decide (x.hour ≤ h)) ≠ [] := List.ne_nil_of_mem hmem
      exact ⟨_, _, (List.dropLast_concat_getLast hne).symm⟩
    have hz2 : f.freeze < z.hour := by
      have hmem : x ∈ r ++ [z] := by rw [← hr]; exact List.mem_filter.2 ⟨(hm x).2 hx, by simpa using hx2⟩
      have hs : (r ++ [z]).Pairwise (fun a b => a.hour ≤ b.hour) := by rw [← hr]; exact List.Pairwise.sublist List.filter_sublist (taken_hours ht)
      rcases List.mem_append.1 hmem with h1 | h1
      · have := (List.pairwise_append.1 hs).2.2 x h1 z (by simp)
        omega
      · simp at h1; rw [← h1]; exact hx1
    have hat : atL f h d = (r.foldl St.take (St.new f)).take z := by
      unfold atL
      rw [hr, List.foldl_append]
      rfl
    have hfz := (fold_fd r (St.new f)).2
    have hlate : late (r.foldl St.take (St.new f)).f z.hour = true := by
      unfold late
      rw [hfz]
      exact decide_eq_true hz2
    have hsg : ((atL f h d).pl o).sgn = true := (sgn_fold o _ (St.new f)).2 (.inr ⟨y, List.mem_filter.2 ⟨(hm y).2 hy, by simpa using hy3⟩, hy1, hy2⟩)
    rw [hat] at ho hsg hnb ⊢
    rcases right_late hlate ho hsg with h1 | h1
    · exact h1
    · exact absurd h1 hnb
end E
end Go.Proofs.YtobjahlmjcnfoaaGreat

namespace Go.Proofs.YtobjahlmjcnfoaaGreat
namespace E

theorem fill_nodup {s : St} (lt : Bool) : ∀ (l acc : List Int) (g : Int), (acc ++ l).Nodup → (s.fill lt l acc g).Nodup
  | [], acc, _, h => by simpa [St.fill] using h
  | a :: r, acc, g, h => by
    unfold St.fill
    split
    · exact fill_nodup lt r (acc ++ [a]) _ (by simpa using h)
    · exact fill_nodup lt r acc g (List.Nodup.sublist (List.Sublist.append_left (List.sublist_cons_self a r) acc) h)
theorem fill_grd {s : St} (lt : Bool) : ∀ (l acc : List Int) (g : Int), g = s.guardsOf acc → s.guardsOf acc ≤ s.f.guards → s.guardsOf (s.fill lt l acc g) ≤ s.f.guards
  | [], acc, _, _, h => h
  | a :: r, acc, g, hg, h => by
    unfold St.fill
    split
    · rename_i hc
      refine fill_grd lt r (acc ++ [a]) _ (by rw [guardsOf_app, guardsOf_one, hg]) ?_
      rw [guardsOf_app, guardsOf_one]
      rcases hc.2.2 with h1 | h1
      · have := one_bd (s.pl a).grd; omega
      · rw [h1]; show _ + (0 : Int) ≤ _; omega
    · exact fill_grd lt r acc g hg h
theorem fill_room {s : St} (lt : Bool) : ∀ (l acc : List Int) (g : Int), (acc.length : Int) ≤ s.f.places → ((s.fill lt l acc g).length : Int) ≤ s.f.places
  | [], acc, _, h => h
  | a :: r, acc, g, h => by
    unfold St.fill
    split
    · rename_i hc
      exact fill_room lt r (acc ++ [a]) _ (by rw [List.length_append, List.length_singleton]; push_cast; omega)
    · exact fill_room lt r acc g h
theorem guardsOf_filter (s : St) (p : Int → Bool) : ∀ (l : List Int), s.guardsOf (l.filter p) ≤ s.guardsOf l
  | [] => Int.le_refl _
  | a :: r => by
    have ih := guardsOf_filter s p r
    have h1 := one_bd (s.pl a).grd
    have e : s.guardsOf (a :: r) = one (s.pl a).grd + s.guardsOf r := by simp [St.guardsOf]
    by_cases h : p a = true
    · rw [List.filter_cons_of_pos h]
      have e2 : s.guardsOf (a :: r.filter p) = one (s.pl a).grd + s.guardsOf (r.filter p) := by simp [St.guardsOf]
      omega
    · rw [List.filter_cons_of_neg h]; omega
theorem guardsOf_congr {s u : St} : ∀ (l : List Int), (∀ k ∈ l, (u.pl k).grd = (s.pl k).grd) → u.guardsOf l = s.guardsOf l := by
  intro l h
  unfold St.guardsOf
  congr 1
  exact List.map_congr_left (fun k hk => by rw [h k hk])

structure Plc (s : St) : Prop where
  room : (s.main.length : Int) ≤ s.f.places
  wilds : (s.cards.length : Int) ≤ s.f.wilds
  mnd : s.main.Nodup
  cnd : s.cards.Nodup
  cards : CardsOk s
  ment : ∀ k ∈ s.main, (s.pl k).entry = true
  guards : s.guardsOf s.main ≤ s.f.guards
  g0 : 0 ≤ s.f.guards
  cf : s.f.close ≤ s.f.freeze

theorem said_wilds (s : St) (x : Nt) : (s.said x).f.wilds = s.f.wilds := by
  unfold St.said
  dsimp only
  repeat' split
  all_goals (first | rfl | (simp only [St.put]; split <;> rfl))
theorem said_main (s : St) (x : Nt) : (s.said x).main = s.main := by
  unfold St.said
  dsimp only
  repeat' split
  all_goals rfl
theorem said_places (s : St) (x : Nt) : s.f.places ≤ (s.said x).f.places := by
  unfold St.said
  dsimp only
  repeat' split
  all_goals first
    | exact Int.le_refl _
    | (show _ ≤ s.f.places + 1; omega)
theorem said_cards {s : St} (h : CardsOk s) (x : Nt) (hn : s.cards.Nodup) (hl : (s.cards.length : Int) ≤ s.f.wilds) : (s.said x).cards.Nodup ∧ ((s.said x).cards.length : Int) ≤ s.f.wilds := by
  unfold St.said
  dsimp only
  repeat' split
  all_goals first
    | exact ⟨hn, hl⟩
    | (rename_i hc
       refine ⟨?_, ?_⟩
       · show (s.cards ++ [x.player]).Nodup
         rw [List.nodup_append]
         refine ⟨hn, by simp, fun a ha b hb e => ?_⟩
         simp only [List.mem_singleton] at hb
         rw [e, hb] at ha
         have := ((h x.player).1 ha).1
         rw [hc.2.1] at this; cases this
       · show (((s.cards ++ [x.player]).length : Nat) : Int) ≤ _
         rw [List.length_append, List.length_singleton]; push_cast; have := hc.2.2.2; omega)
    | exact ⟨List.Nodup.sublist List.filter_sublist hn, Int.le_trans (by show (((s.cards.filter _).length : Nat) : Int) ≤ _; exact Int.ofNat_le.2 (List.length_filter_le _ _)) hl⟩

theorem plc_new {f : Fd} (h : validField f = true) : Plc (St.new f) := by
  have := valid_places h
  unfold validField at h
  simp only [Bool.and_eq_true] at h
  unfold within at h
  simp only [Bool.and_eq_true, decide_eq_true_eq] at h
  refine ⟨?_, ?_, List.nodup_nil, List.nodup_nil, cards_new f, (fun k hk => by cases hk), ?_, ?_, ?_⟩
  · show ((0 : Nat) : Int) ≤ f.places; omega
  · show ((0 : Nat) : Int) ≤ f.wilds; omega
  · show (0 : Int) ≤ f.guards; omega
  · show (0 : Int) ≤ f.guards; omega
  · show f.close ≤ f.freeze; omega
theorem plc_take {s : St} (hs : StOk s) (hT : 0 ≤ s.turns) (h : Plc s) (x : Nt) (hx : 0 ≤ x.player ∧ x.player ≤ 999) : Plc (s.take x) := by
  have hu := said_ok hs x hx hT
  have hm := said_main s x
  have hp := said_places s x
  have hg := said_guards s x
  have hw := said_wilds s x
  have hc := said_cards h.cards x h.cnd h.wilds
  have hce := said_fd s x
  have hfe := said_freeze s x
  have hment := main_entry s x
  have hlate : late s.f x.hour = true → ∀ k, ((s.said x).pl k).grd = (s.pl k).grd := fun hl k => by
    have h1 : s.f.freeze < x.hour := of_decide_eq_true hl
    have h2 := h.cf
    exact (said_lateS s x (by omega)).grd k
  obtain ⟨lt, hlt⟩ : ∃ b, late s.f x.hour = b := ⟨_, rfl⟩
  have et : s.take x = (s.said x).settle lt := by rw [← hlt]; rfl
  have hgr : (s.said x).guardsOf ((s.said x).main.filter (fun k => lt && ((s.said x).pl k).entry)) ≤ (s.said x).f.guards := by
    cases lt with
    | false =>
      have e : (s.said x).main.filter (fun k => false && ((s.said x).pl k).entry) = [] := by simp
      rw [e, hg]; exact h.g0
    | true =>
      refine Int.le_trans (guardsOf_filter _ _ _) ?_
      rw [hm, hg, guardsOf_congr (s := s) (u := s.said x) s.main (fun k _ => hlate hlt k)]
      exact h.guards
  rw [et] at hment ⊢
  refine ⟨?_, ?_, ?_, hc.1, (cards_take h.cards x), hment, ?_, ?_, ?_⟩
  · show ((St.fill (s.said x) lt _ _ _).length : Int) ≤ (s.said x).f.places
    refine fill_room lt _ _ _ (Int.le_trans (Int.ofNat_le.2 (List.length_filter_le _ _)) ?_)
    rw [hm]
    exact Int.le_trans h.room hp
  · show ((s.said x).cards.length : Int) ≤ (s.said x).f.wilds
    rw [hw]; exact hc.2
  · show (St.fill (s.said x) lt _ _ _).Nodup
    refine fill_nodup lt _ _ _ ?_
    rw [List.nodup_append]
    refine ⟨List.Nodup.sublist List.filter_sublist (by rw [hm]; exact h.mnd), List.Nodup.sublist List.filter_sublist (order_nodup (s := { s.said x with main := (s.said x).main.filter (fun k => lt && ((s.said x).pl k).entry) }) ⟨hu.1.known, hu.1.range, hu.1.zero, hu.1.turn, hu.1.apart, fun k hk => hu.1.main k (List.mem_filter.1 hk).1, hu.1.cards⟩), fun a ha b hb e => ?_⟩
    have := (alts_mem.1 hb).2
    rw [e] at ha
    exact this ha
  · exact fill_grd lt _ _ _ rfl hgr
  · show 0 ≤ (s.said x).f.guards
    rw [hg]; exact h.g0
  · show (s.said x).f.close ≤ (s.said x).f.freeze
    rw [hce, hfe]; exact h.cf
theorem plc_fold : ∀ (r : List Nt) (s : St), StOk s → 0 ≤ s.turns → Plc s → (∀ x ∈ r, 0 ≤ x.player ∧ x.player ≤ 999) → Plc (r.foldl St.take s)
  | [], _, _, _, h, _ => h
  | x :: r, s, hs, hT, h, hp => by
    have hx := hp x (List.mem_cons_self ..)
    have h1 := E.take_ok hs x hx hT
    exact plc_fold r (s.take x) h1.1 h1.2 (plc_take hs hT h x hx) (fun y hy => hp y (List.mem_cons_of_mem _ hy))

theorem quit_said (s : St) (x : Nt) (p : Int) : ((s.said x).pl p).quit = ((s.pl p).quit || (decide (x.kind = 4) && decide (x.player = p))) := by
  have put : ∀ (s0 : St) (q : Pl), (s0.put x.player q).pl p = if p = x.player then q else s0.pl p := fun _ _ => rfl
  unfold St.said
  dsimp only
  by_cases hp : p = x.player
  · subst hp
    repeat' split
    all_goals (rw [put, if_pos rfl])
    all_goals first
      | (rename_i h _; have h5 : ¬ x.kind = 4 := (by omega); simp [h5]; done)
      | (rename_i h; have h5 : ¬ x.kind = 4 := (by omega); simp [h5]; done)
      | (rename_i h; simp [h]; done)
      | (rename_i h _; simp [h]; done)
  · have e : decide (x.player = p) = false := decide_eq_false (fun h => hp h.symm)
    rw [e, Bool.and_false, Bool.or_false]
    repeat' split
    all_goals rw [put, if_neg hp]
theorem quit_fold (p : Int) : ∀ (r : List Nt) (s : St), ((r.foldl St.take s).pl p).quit = true ↔ (s.pl p).quit = true ∨ ∃ x ∈ r, x.kind = 4 ∧ x.player = p
  | [], s => by simp
  | x :: r, s => by
    have e : ((s.take x).pl p).quit = ((s.said x).pl p).quit := rfl
    rw [List.foldl_cons, quit_fold p r, e, quit_said]
    simp only [Bool.or_eq_true, Bool.and_eq_true, decide_eq_true_eq, List.mem_cons]
    constructor
    · rintro ((h | h) | ⟨y, hy, h⟩)
      · exact .inl h
      · exact .inr ⟨x, .inl rfl, h⟩
      · exact .inr ⟨y, .inr hy, h⟩
    · rintro (h | ⟨y, rfl | hy, h⟩)
      · exact .inl (.inl h)
      · exact .inl (.inr h)
      · exact .inr ⟨y, hy, h⟩

theorem late_count {s : St} (h : CardsOk s) (hn : s.cards.Nodup) (x : Nt) (hl : late s.f x.hour = true) : (s.take x).f.places + ((s.take x).cards.length : Int) = s.f.places + (s.cards.length : Int) ∧ (s.take x).cards.Sublist s.cards := by
  show (s.said x).f.places + ((s.said x).cards.length : Int) = _ ∧ (s.said x).cards.Sublist s.cards
  unfold St.said
  dsimp only
  rw [hl]
  by_cases k12 : x.kind = 1 ∨ x.kind = 2
  · rw [if_pos k12]
    split
    · exact ⟨rfl, List.Sublist.refl _⟩
    · exact ⟨rfl, List.Sublist.refl _⟩
  · rw [if_neg k12]
    by_cases k3 : x.kind = 3
    · rw [if_pos k3, if_neg (fun hh => by cases hh.1)]
      exact ⟨rfl, List.Sublist.refl _⟩
    · rw [if_neg k3]
      by_cases k4 : x.kind = 4
      · rw [if_pos k4]
        refine ⟨?_, List.filter_sublist⟩
        by_cases hc : x.player ∈ s.cards
        · have h1 := (h x.player).1 hc
          rw [if_pos ⟨rfl, h1⟩]
          show s.f.places + 1 + ((s.cards.filter (fun k => k != x.player)).length : Int) = _
          have e : s.cards.filter (fun k => k != x.player) = s.cards.erase x.player := (List.Nodup.erase_eq_filter hn x.player).symm
          rw [e, List.length_erase_of_mem hc]
          have := List.length_pos_of_mem hc
          omega
        · have h1 : ¬ (True ∧ (s.pl x.player).card = true ∧ (s.pl x.player).quit = false) := fun hh => hc ((h x.player).2 hh.2)
          rw [if_neg (fun hh => h1 ⟨trivial, hh.2⟩)]
          show s.f.places + ((s.cards.filter (fun k => k != x.player)).length : Int) = _
          rw [List.filter_eq_self.2 (fun k hk => by simp only [bne_iff_ne, ne_eq]; exact fun e => hc (e ▸ hk))]
      · rw [if_neg k4]
        split
        · exact ⟨rfl, List.Sublist.refl _⟩
        · exact ⟨rfl, List.Sublist.refl _⟩
theorem late_fold (z : Int) : ∀ (r : List Nt) (s : St), StOk s → 0 ≤ s.turns → Plc s → (∀ x ∈ r, 0 ≤ x.player ∧ x.player ≤ 999) → s.f.freeze = z → (∀ x ∈ r, z < x.hour) → (r.foldl St.take s).f.places + ((r.foldl St.take s).cards.length : Int) = s.f.places + (s.cards.length : Int) ∧ (r.foldl St.take s).cards.Sublist s.cards
  | [], _, _, _, _, _, _, _ => ⟨rfl, List.Sublist.refl _⟩
  | x :: r, s, hs, hT, h, hp, hz, hr => by
    have hx := hp x (List.mem_cons_self ..)
    have h1 := E.take_ok hs x hx hT
    have hl : late s.f x.hour = true := by unfold late; rw [hz]; exact decide_eq_true (hr x (List.mem_cons_self ..))
    obtain ⟨h2, h3⟩ := late_count h.cards h.cnd x hl
    obtain ⟨h4, h5⟩ := late_fold z r (s.take x) h1.1 h1.2 (plc_take hs hT h x hx) (fun y hy => hp y (List.mem_cons_of_mem _ hy)) ((said_freeze s x).trans hz) (fun y hy => hr y (List.mem_cons_of_mem _ hy))
    exact ⟨h4.trans h2, h5.trans h3⟩
theorem early_places (s : St) (x : Nt) (hl : late s.f x.hour = false) : (s.take x).f.places = s.f.places := by
  show (s.said x).f.places = _
  unfold St.said
  dsimp only
  rw [hl]
  repeat' split
  all_goals first
    | rfl
    | (rename_i hh; cases hh.1)
theorem early_fold (z : Int) : ∀ (r : List Nt) (s : St), s.f.freeze = z → (∀ x ∈ r, x.hour ≤ z) → (r.foldl St.take s).f.places = s.f.places
  | [], _, _, _ => rfl
  | x :: r, s, hz, hr => by
    have hl : late s.f x.hour = false := by unfold late; rw [hz]; have := hr x (List.mem_cons_self ..); exact decide_eq_false (by omega)
    exact (early_fold z r (s.take x) ((said_freeze s x).trans hz) (fun y hy => hr y (List.mem_cons_of_mem _ hy))).trans (early_places s x hl)

theorem sub_count : ∀ {a b : List Int}, a.Sublist b → b.Nodup → ((b.filter (fun k => !a.contains k)).length : Int) = (b.length : Int) - (a.length : Int) := by
  intro a b h hn
  have h1 : (b.filter (fun k => a.contains k)) = a := by
    induction h with
    | slnil => rfl
    | @cons l1 l2 c h ih =>
      have hc := List.nodup_cons.1 hn
      rw [List.filter_cons_of_neg (by simp only [List.contains_eq_mem, decide_eq_true_eq]; exact fun e => hc.1 (h.subset e)), ih hc.2]
    | @cons_cons l1 l2 c h ih =>
      have hc := List.nodup_cons.1 hn
      rw [List.filter_cons_of_pos (by simp)]
      congr 1
      refine Eq.trans (List.filter_congr (fun k hk => ?_)) (ih hc.2)
      have : k ≠ c := fun e => hc.1 (e ▸ hk)
      simp [this]
  have h2 := List.length_eq_countP_add_countP (fun k => a.contains k) (l := b)
  rw [List.countP_eq_length_filter, List.countP_eq_length_filter, h1] at h2
  have e : (b.filter (fun k => !a.contains k)) = (b.filter (fun k => decide (¬ (a.contains k = true)))) := List.filter_congr (fun k _ => by cases a.contains k <;> rfl)
  rw [e]
  omega

theorem idx_at {l : List Int} (hn : l.Nodup) {i : Nat} {k : Int} (h : l[i]? = some k) : idx l k = (i : Int) := by
  unfold idx
  have hi := (List.getElem?_eq_some_iff.1 h).1
  have : l.findIdx? (· == k) = some i := by
    rw [List.findIdx?_eq_some_iff_getElem]
    refine ⟨hi, by have := (List.getElem?_eq_some_iff.1 h).2; simp [this], fun j hj => ?_⟩
    simp only [beq_iff_eq]
    intro e
    have h2 := (List.getElem?_eq_some_iff.1 h).2
    exact List.pairwise_iff_getElem.1 hn j i (by omega) hi hj (e.trans h2.symm)
  rw [this]
theorem idx_no {l : List Int} {k : Int} (h : k ∉ l) : idx l k = -1 := by
  unfold idx
  have : l.findIdx? (· == k) = none := by
    rw [List.findIdx?_eq_none_iff]
    intro y hy
    simp only [beq_eq_false_iff_ne, ne_eq]
    exact fun e => h (e ▸ hy)
  rw [this]

structure PlcAt (f : Fd) (h : Int) (l d : List Nt) (i : Nat) (k : Int) (S : St) : Prop where
  stand : S.where_ k = if i < S.main.length then (1, (i : Int) + 1) else if i < S.main.length + S.cards.length then (2, (i : Int) + 1 - S.main.length) else (3, (i : Int) + 1 - S.main.length - S.cards.length)
  quit : ∀ x ∈ l, ¬ (x.player = k ∧ x.kind = 4 ∧ x.hour ≤ h)
  ent : (i < S.main.length ∨ S.main.length + S.cards.length ≤ i) → (entF f h k l).hour ≤ 9999

theorem places {f : Fd} {l d : List Nt} (hd : diffs l = some d) (hv : validField f = true) (h : Int) (S : St) (hS : atL f h d = S) :
    (S.main.length : Int) ≤ S.f.places ∧ (S.cards.length : Int) ≤ f.wilds ∧ (S.main ++ S.cards ++ S.alts).Nodup ∧ (∀ (i : Nat) (k : Int), (S.main ++ S.cards ++ S.alts)[i]? = some k → PlcAt f h l d i k S) ∧
    S.guardsOf S.main ≤ f.guards ∧ (h ≤ f.freeze → S.f.places = f.places) ∧ (f.freeze < h → S.f.places = f.places + (((atL f f.freeze d).cards.filter (fun k => !S.cards.contains k)).length : Int)) := by
  obtain ⟨_, ht, hm⟩ := diffs_spec hd
  have hp : ∀ x ∈ d, 0 ≤ x.player ∧ x.player ≤ 999 := fun x hx => valid_player (ht.valid x hx)
  have hs := taken_hours ht
  have hpl : ∀ u, Plc (atL f u d) := fun u => plc_fold _ _ (new_ok f) (Int.le_refl _) (plc_new hv) (fun x hx => hp x (List.mem_filter.1 hx).1)
  have hok : ∀ u, StOk (atL f u d) ∧ 0 ≤ (atL f u d).turns := fun u => atL_ok f u hp
  have hfw : ∀ u, (atL f u d).f.wilds = f.wilds := fun u => by
    have : ∀ (r : List Nt) (s : St), (r.foldl St.take s).f.wilds = s.f.wilds := by
      intro r
      induction r with
      | nil => intro s; rfl
      | cons x r ih => intro s; exact (ih (s.take x)).trans (said_wilds s x)
    exact this _ _
  have hfg : ∀ u, (atL f u d).f.guards = f.guards := fun u => fold_guards _ _
  have P := hpl h
  have O := hok h
  have hent := fun k => entered_eq hd f h k
  have hquit : ∀ k, ((atL f h d).pl k).quit = true ↔ ∃ x ∈ l, x.player = k ∧ x.kind = 4 ∧ x.hour ≤ h := fun k => by
    have := quit_fold k (d.filter (fun x => decide (x.hour ≤ h))) (St.new f)
    change ((atL f h d).pl k).quit = true ↔ _ at this
    rw [this]
    constructor
    · rintro (h1 | ⟨x, hx, h1, h2⟩)
      · cases h1
      · obtain ⟨h3, h4⟩ := List.mem_filter.1 hx
        exact ⟨x, (hm x).1 h3, h2, h1, of_decide_eq_true h4⟩
    · rintro ⟨x, hx, h1, h2, h3⟩
      exact .inr ⟨x, List.mem_filter.2 ⟨(hm x).2 hx, decide_eq_true h3⟩, h2, h1⟩
  have hearly : ∀ u, u ≤ f.freeze → (atL f u d).f.places = f.places := fun u hu => early_fold f.freeze _ (St.new f) rfl (fun x hx => by have := of_decide_eq_true (List.mem_filter.1 hx).2; omega)
  have hlate : f.freeze < h → (atL f h d).f.places + ((atL f h d).cards.length : Int) = (atL f f.freeze d).f.places + ((atL f f.freeze d).cards.length : Int) ∧ (atL f h d).cards.Sublist (atL f f.freeze d).cards := fun hz => by
    have e2 : atL f h d = (d.filter (fun x => decide (f.freeze < x.hour) && decide (x.hour ≤ h))).foldl St.take (atL f f.freeze d) := by
      unfold atL
      rw [filter_split (h1 := f.freeze) (by omega) d hs, List.foldl_append]
    rw [e2]
    exact late_fold f.freeze _ _ (hok f.freeze).1 (hok f.freeze).2 (hpl f.freeze) (fun x hx => hp x (List.mem_filter.1 hx).1) (fold_fd _ _).2 (fun x hx => by have := (List.mem_filter.1 hx).2; simp at this; omega)
  rw [hS] at P O hent hquit hlate
  have hfw' := hfw h
  have hfg' := hfg h
  have hea := hearly h
  rw [hS] at hfw' hfg' hea

  have hment : ∀ k ∈ S.main, (S.pl k).entry = true := P.ment
  have haent : ∀ k ∈ S.alts, (S.pl k).entry = true := fun k hk => (order_mem.1 (alts_mem.1 hk).1).2
  have hcnot : ∀ k, (S.pl k).entry = true → k ∉ S.cards := fun k he hk => by
    have := ((P.cards k).1 hk).1
    unfold Pl.entry at he
    rw [this] at he
    simp at he
  have hnda : S.alts.Nodup := List.Nodup.sublist List.filter_sublist (order_nodup O.1)
  have hnd : (S.main ++ S.cards ++ S.alts).Nodup := by
    rw [List.nodup_append, List.nodup_append]
    refine ⟨⟨P.mnd, P.cnd, fun a ha b hb e => hcnot a (hment a ha) (e ▸ hb)⟩, hnda, fun a ha b hb e => ?_⟩
    subst e
    rcases List.mem_append.1 ha with h1 | h1
    · exact (alts_mem.1 hb).2 h1
    · exact hcnot a (haent a hb) h1
  refine ⟨P.room, by rw [← hfw']; exact P.wilds, hnd, fun i k hik => ?_, by rw [← hfg']; exact P.guards, hea, fun hz => ?_⟩
  · have hquitEnt : (S.pl k).entry = true → (S.pl k).quit = false := fun he => by
      unfold Pl.entry at he
      simp only [Bool.and_eq_true, Bool.not_eq_true'] at he
      exact he.1.2
    have entEnt : (S.pl k).entry = true → (entF f h k l).hour ≤ 9999 := fun he => by
      have h1 := congrArg (fun t => t.1) (hent k)
      have h2 : (tri (S.pl k)).1 = true := entry_ent he
      have h3 : decide ((entF f h k l).hour ≤ 9999) = true := h1.symm.trans h2
      exact of_decide_eq_true h3
    have noquit : (S.pl k).quit = false → ∀ x ∈ l, ¬ (x.player = k ∧ x.kind = 4 ∧ x.hour ≤ h) := fun hq x hx hh => by
      have := (hquit k).2 ⟨x, hx, hh⟩
      rw [hq] at this; cases this
    by_cases c1 : i < S.main.length
    · have hk : S.main[i]? = some k := by rw [List.append_assoc, List.getElem?_append_left c1] at hik; exact hik
      have hmem := List.mem_of_getElem? hk
      have he := hment k hmem
      refine ⟨?_, noquit (hquitEnt he), fun _ => entEnt he⟩
      rw [if_pos c1]
      unfold St.where_
      rw [idx_at P.mnd hk, if_pos (by omega)]
    · by_cases c2 : i < S.main.length + S.cards.length
      · have hk : S.cards[i - S.main.length]? = some k := by
          rw [List.append_assoc, List.getElem?_append_right (by omega), List.getElem?_append_left (by omega)] at hik; exact hik
        have hmem := List.mem_of_getElem? hk
        have hq := ((P.cards k).1 hmem).2
        have hnm : k ∉ S.main := fun hh => hcnot k (hment k hh) hmem
        refine ⟨?_, noquit hq, fun hh => by omega⟩
        rw [if_neg c1, if_pos c2]
        unfold St.where_
        rw [idx_no hnm, if_neg (by decide), idx_at P.cnd hk, if_pos (by omega)]
        congr 1
        omega
      · have hk : S.alts[i - (S.main.length + S.cards.length)]? = some k := by
          rw [List.getElem?_append_right (by rw [List.length_append]; omega), List.length_append] at hik; exact hik
        have hmem := List.mem_of_getElem? hk
        have he := haent k hmem
        have hnm : k ∉ S.main := (alts_mem.1 hmem).2
        have hnc : k ∉ S.cards := hcnot k he
        refine ⟨?_, noquit (hquitEnt he), fun _ => entEnt he⟩
        rw [if_neg c1, if_neg c2]
        unfold St.where_
        rw [idx_no hnm, if_neg (by decide), idx_no hnc, if_neg (by decide), idx_at hnda hk, if_pos (by omega)]
        congr 1
        omega
  · obtain ⟨h1, h2⟩ := hlate hz
    have h3 := hearly f.freeze (Int.le_refl _)
    have h4 := sub_count h2 (hpl f.freeze).cnd
    omega
end E
end Go.Proofs.YtobjahlmjcnfoaaGreat

namespace Go.Proofs.YtobjahlmjcnfoaaGreat
namespace E

structure Rp where
  player : Int
  rank : Int
  grd : Bool
  ent : Bool
  quit : Bool
  sgn : Bool
  card : Bool
  deriving DecidableEq
structure Rs where
  people : List Rp
  wilds : List Int
  back : Int
  ins : List Int

def Rp.new (k : Int) : Rp := ⟨k, 0, false, false, false, false, false⟩
def Rp.counts (p : Rp) : Bool := p.ent && !p.quit && !p.card
def Rs.new : Rs := ⟨[], [], 0, []⟩
def Rs.with_ (s : Rs) (k : Int) : List Rp := if s.people.any (fun p => p.player == k) then s.people else s.people ++ [Rp.new k]
def idxR (l : List Rp) (k : Int) : Nat := l.findIdx (fun p => p.player == k)
def rtake (f : Fd) (s : Rs) (x : Nt) : Rs :=
  let ppl := s.with_ x.player
  let n := idxR ppl x.player
  let p := ppl.getD n (Rp.new x.player)
  if x.kind = 1 ∨ x.kind = 2 then
    if f.close < x.hour ∨ p.ent = true then s else { s with people := ppl.eraseIdx n ++ [{ p with ent := true, rank := x.rank, grd := decide (x.kind = 2) }] }
  else if x.kind = 3 then
    if f.freeze < x.hour ∨ p.quit = true ∨ x.player ∈ s.wilds ∨ f.wilds ≤ (s.wilds.length : Int) then s
    else { s with people := ppl.set n { p with card := true }, wilds := s.wilds ++ [x.player] }
  else if x.kind = 4 then { s with people := ppl.set n { p with quit := true }, back := if x.player ∈ s.wilds ∧ f.freeze < x.hour then s.back + 1 else s.back, wilds := s.wilds.filter (fun k => k != x.player) }
  else if x.kind = 5 then { s with people := ppl.set n { p with sgn := true } }
  else { s with people := ppl.set n p }

def before (r : Int) (q : Rp) : Bool := decide (0 < r) && (decide (q.rank = 0) || decide (r < q.rank))
def rins (p : Rp) (out : List Rp) : List Rp := out.take (out.findIdx (before p.rank)) ++ p :: out.drop (out.findIdx (before p.rank))
def Rs.order (s : Rs) : List Rp := (s.people.filter Rp.counts).foldl (fun out p => rins p out) []
def rfill (f : Fd) : List Rp → List Int → Int → List Int
  | [], m, _ => m
  | p :: r, m, g => if (m.length : Int) < f.places ∧ (p.grd = false ∨ g < f.guards) then rfill f r (m ++ [p.player]) (if p.grd then g + 1 else g) else rfill f r m g
def rguards (l : List Rp) (m : List Int) : Int := ((l.filter fun p => p.grd && m.contains p.player).length : Int)
def rnext (f : Fd) (l : List Rp) (m : List Int) : Option Rp := l.find? fun p => p.sgn && !m.contains p.player && (!p.grd || decide (rguards l m < f.guards))
def rlater (f : Fd) (back : Int) (l : List Rp) : Nat → List Int → List Int
  | 0, m => m
  | n + 1, m => if (m.length : Int) < f.places + back then (match rnext f l m with | some p => rlater f back l n (m ++ [p.player]) | none => m) else m
def rone (f : Fd) (s : Rs) (x : Nt) : Rs :=
  let u := rtake f s x
  if f.freeze < x.hour then { u with ins := rlater f u.back u.order 200 (u.ins.filter fun k => u.order.any fun p => p.player == k) }
  else { u with ins := rfill f u.order [] 0 }

def Rp.is (p : Rp) (q : Pl) : Prop := q.ent = p.ent ∧ q.grd = p.grd ∧ q.card = p.card ∧ q.quit = p.quit ∧ q.sgn = p.sgn ∧ q.rank = p.rank
def Pl.blank (q : Pl) : Prop := q.ent = false ∧ q.grd = false ∧ q.card = false ∧ q.quit = false ∧ q.sgn = false ∧ q.rank = 0
structure Side (f : Fd) (r : Rs) (s : St) : Prop where
  nd : (r.people.map Rp.player).Nodup
  pl : ∀ p ∈ r.people, p.is (s.pl p.player)
  no : ∀ k, k ∉ r.people.map Rp.player → (s.pl k).blank
  turns : r.people.Pairwise (fun p q => p.ent = true → q.ent = true → (s.pl p.player).turn < (s.pl q.player).turn)
  below : ∀ p ∈ r.people, p.ent = true → (s.pl p.player).turn < s.turns
  wilds : r.wilds = s.cards
  ins : r.ins = s.main
  places : s.f.places = f.places + r.back
  fw : s.f.wilds = f.wilds
  fg : s.f.guards = f.guards
  fc : s.f.close = f.close
  fz : s.f.freeze = f.freeze

theorem with_map (s : Rs) (k : Int) : (s.with_ k).map Rp.player = if k ∈ s.people.map Rp.player then s.people.map Rp.player else s.people.map Rp.player ++ [k] := by
  unfold Rs.with_
  have e : (s.people.any fun p => p.player == k) = decide (k ∈ s.people.map Rp.player) := by
    rw [Bool.eq_iff_iff, List.any_eq_true, decide_eq_true_eq, List.mem_map]
    simp
  rw [e]
  by_cases h : k ∈ s.people.map Rp.player
  · rw [if_pos (by simpa using h), if_pos h]
  · rw [if_neg (by simpa using h), if_neg h, List.map_append]; rfl
theorem with_nd {s : Rs} (h : (s.people.map Rp.player).Nodup) (k : Int) : ((s.with_ k).map Rp.player).Nodup := by
  rw [with_map]
  split
  · exact h
  · rename_i hk
    rw [List.nodup_append]
    exact ⟨h, by simp, fun a ha b hb e => by simp at hb; subst hb; exact hk (e ▸ ha)⟩
theorem with_mem (s : Rs) (k : Int) : k ∈ (s.with_ k).map Rp.player := by
  rw [with_map]
  split
  · assumption
  · simp
theorem idxR_lt {l : List Rp} {k : Int} (h : k ∈ l.map Rp.player) : idxR l k < l.length ∧ ∃ p, l[idxR l k]? = some p ∧ p.player = k := by
  obtain ⟨p, hp, e⟩ := List.mem_map.1 h
  have hlt : idxR l k < l.length := List.findIdx_lt_length_of_exists ⟨p, hp, by simp [e]⟩
  refine ⟨hlt, l[idxR l k], List.getElem?_eq_getElem hlt, ?_⟩
  have := List.findIdx_getElem (w := hlt) (p := fun p : Rp => p.player == k)
  exact beq_iff_eq.1 this
theorem set_map {l : List Rp} {n : Nat} {p q : Rp} (h : l[n]? = some p) (e : q.player = p.player) : (l.set n q).map Rp.player = l.map Rp.player := by
  rw [List.map_set, e]
  refine List.ext_getElem? fun i => ?_
  rw [List.getElem?_set]
  split
  · rename_i hi
    subst hi
    split
    · rw [List.getElem?_map, h]; rfl
    · rename_i hn
      rw [List.getElem?_eq_none (by omega)]
  · rfl
theorem nd_inj {l : List Rp} (h : (l.map Rp.player).Nodup) {p q : Rp} (hp : p ∈ l) (hq : q ∈ l) (e : p.player = q.player) : p = q := by
  obtain ⟨i, hi, rfl⟩ := List.getElem_of_mem hp
  obtain ⟨j, hj, rfl⟩ := List.getElem_of_mem hq
  have hi' : i < (l.map Rp.player).length := by simpa using hi
  have hj' : j < (l.map Rp.player).length := by simpa using hj
  have hne := List.pairwise_iff_getElem.1 h
  rcases Nat.lt_trichotomy i j with c | c | c
  · have := hne i j hi' hj' c; simp at this; exact absurd e this
  · subst c; rfl
  · have := hne j i hj' hi' c; simp at this; exact absurd e.symm this

theorem Side.upd {f : Fd} {r : Rs} {s u : St} (h : Side f r s) (x : Nt) {q : Rp} {Q : Pl} {p : Rp} (hp : (r.with_ x.player)[idxR (r.with_ x.player) x.player]? = some p) (hq : q.player = x.player) (he : q.ent = p.ent) (hQ : q.is Q) (ht : Q.turn = (s.pl x.player).turn)
    (hu : ∀ k, u.pl k = if k = x.player then Q else s.pl k) (hut : u.turns = s.turns) {wl : List Int} {bk : Int} (hw : wl = u.cards) (hm : u.main = s.main) (hpl : u.f.places = f.places + bk) (h1 : u.f.wilds = f.wilds) (h2 : u.f.guards = f.guards) (h3 : u.f.close = f.close) (h4 : u.f.freeze = f.freeze) :
    Side f { people := (r.with_ x.player).set (idxR (r.with_ x.player) x.player) q, wilds := wl, back := bk, ins := r.ins } u := by
  have hpx : p.player = x.player := by
    obtain ⟨_, p', e1, e2⟩ := idxR_lt (with_mem r x.player)
    rw [hp] at e1
    rw [Option.some.inj e1]; exact e2
  have hmap := set_map (q := q) hp (hq.trans hpx.symm)
  have hnd := with_nd h.nd x.player
  have hpm : p ∈ r.with_ x.player := List.mem_of_getElem? hp
  have hin : ∀ z ∈ r.with_ x.player, z.player ≠ x.player → z ∈ r.people := by
    intro z hz hne
    unfold Rs.with_ at hz
    split at hz
    · exact hz
    · rcases List.mem_append.1 hz with h5 | h5
      · exact h5
      · simp at h5; rw [h5] at hne; exact absurd rfl hne
  have hmem : ∀ z ∈ (r.with_ x.player).set (idxR (r.with_ x.player) x.player) q, z = q ∨ (z ∈ r.people ∧ z.player ≠ x.player) := by
    intro z hz
    rcases List.mem_or_eq_of_mem_set hz with h5 | h5
    · by_cases e : z.player = x.player
      · left
      
        have hzp : z = p := nd_inj hnd h5 hpm (e.trans hpx.symm)
        obtain ⟨i, hi, e5⟩ := List.getElem_of_mem hz
        have e5' : ((r.with_ x.player).set (idxR (r.with_ x.player) x.player) q)[i]? = some z := by rw [List.getElem?_eq_getElem hi, e5]
        rw [List.getElem?_set] at e5'
        by_cases c : idxR (r.with_ x.player) x.player = i
        · rw [if_pos c] at e5'
          split at e5'
          · exact (Option.some.inj e5').symm
          · cases e5'
        · rw [if_neg c] at e5'
          exfalso
          have h6 := List.pairwise_iff_getElem.1 hnd
          have hi1 : i < (r.with_ x.player).length := (List.getElem?_eq_some_iff.1 e5').1
          have hi2 : idxR (r.with_ x.player) x.player < (r.with_ x.player).length := (List.getElem?_eq_some_iff.1 hp).1
          have g1 := (List.getElem?_eq_some_iff.1 e5').2
          have g2 := (List.getElem?_eq_some_iff.1 hp).2
          rcases Nat.lt_or_gt_of_ne c with c | c
          · have := h6 _ _ (by simpa using hi2) (by simpa using hi1) c
            simp only [List.getElem_map] at this
            rw [g1, g2, hzp] at this; exact this rfl
          · have := h6 _ _ (by simpa using hi1) (by simpa using hi2) c
            simp only [List.getElem_map] at this
            rw [g1, g2, hzp] at this; exact this rfl
      · exact .inr ⟨hin z h5 e, e⟩
    · exact .inl h5
  have hbl : ∀ k, k ∉ (r.with_ x.player).map Rp.player → k ≠ x.player ∧ k ∉ r.people.map Rp.player := by
    intro k hk
    rw [with_map] at hk
    split at hk
    · rename_i h5
      exact ⟨fun e => hk (e ▸ h5), hk⟩
    · rw [List.mem_append] at hk
      simp only [List.mem_singleton, not_or] at hk
      exact ⟨hk.2, hk.1⟩
  refine ⟨by rw [hmap]; exact hnd, fun z hz => ?_, fun k hk => ?_, ?_, fun z hz hz2 => ?_, hw, by rw [hm]; exact h.ins, hpl, h1, h2, h3, h4⟩
  · rcases hmem z hz with rfl | ⟨h5, h6⟩
    · rw [hq, hu, if_pos rfl]; exact hQ
    · rw [hu, if_neg h6]; exact h.pl z h5
  · change k ∉ ((r.with_ x.player).set (idxR (r.with_ x.player) x.player) q).map Rp.player at hk
    rw [hmap] at hk
    obtain ⟨h5, h6⟩ := hbl k hk
    rw [hu, if_neg h5]
    exact h.no k h6
  · -- the turns
    have hturn : ∀ k, (u.pl k).turn = (s.pl k).turn := fun k => by rw [hu]; split; (rename_i e; rw [e, ht]); rfl
    have hold : (r.with_ x.player).Pairwise (fun p q => p.ent = true → q.ent = true → (s.pl p.player).turn < (s.pl q.player).turn) := by
      unfold Rs.with_
      split
      · exact h.turns
      · rw [List.pairwise_append]
        exact ⟨h.turns, by simp, fun a _ b hb _ hb2 => by simp at hb; rw [hb] at hb2; cases hb2⟩
    show ((r.with_ x.player).set (idxR (r.with_ x.player) x.player) q).Pairwise _
    rw [List.pairwise_iff_getElem] at hold ⊢
    intro i j hi hj hij
    have hi' : i < (r.with_ x.player).length := by simpa using hi
    have hj' : j < (r.with_ x.player).length := by simpa using hj
    have key : ∀ a (ha : a < (r.with_ x.player).length) (ha2 : a < ((r.with_ x.player).set (idxR (r.with_ x.player) x.player) q).length), (((r.with_ x.player).set (idxR (r.with_ x.player) x.player) q)[a]).ent = ((r.with_ x.player)[a]).ent ∧ (((r.with_ x.player).set (idxR (r.with_ x.player) x.player) q)[a]).player = ((r.with_ x.player)[a]).player := by
      intro a ha ha2
      rw [List.getElem_set]
      split
      · rename_i c
        subst c
        have g := (List.getElem?_eq_some_iff.1 hp).2
        rw [g]
        exact ⟨he, hq.trans hpx.symm⟩
      · exact ⟨rfl, rfl⟩
    obtain ⟨k1, k2⟩ := key i hi' hi
    obtain ⟨k3, k4⟩ := key j hj' hj
    rw [k1, k2, k3, k4, hturn, hturn]
    exact hold i j hi' hj' hij
  · rcases hmem z hz with rfl | ⟨h5, h6⟩
    · rw [hq, hu, if_pos rfl, ht, hut]
      rw [he] at hz2
      have : p ∈ r.people := by
        unfold Rs.with_ at hpm
        split at hpm
        · exact hpm
        · rcases List.mem_append.1 hpm with h5 | h5
          · exact h5
          · simp at h5; rw [h5] at hz2; cases hz2
      have h7 := h.below p this hz2
      rw [hpx] at h7
      exact h7
    · rw [hu, if_neg h6, hut]
      exact h.below z h5 hz2

theorem with_is {f : Fd} {r : Rs} {s : St} (h : Side f r s) (k : Int) {p : Rp} (hp : p ∈ r.with_ k) (e : p.player = k) : p.is (s.pl k) := by
  unfold Rs.with_ at hp
  split at hp
  · have := h.pl p hp
    rw [e] at this
    exact this
  · rename_i hk
    rcases List.mem_append.1 hp with h5 | h5
    · have := h.pl p h5
      rw [e] at this
      exact this
    · simp only [List.mem_singleton] at h5
      subst h5
      have hno := h.no k (fun hm => hk (by
        obtain ⟨q, hq, eq⟩ := List.mem_map.1 hm
        rw [List.any_eq_true]
        exact ⟨q, hq, by simp [eq]⟩))
      exact ⟨hno.1, hno.2.1, hno.2.2.1, hno.2.2.2.1, hno.2.2.2.2.1, hno.2.2.2.2.2⟩
theorem side_same {f : Fd} {r : Rs} {s : St} (h : Side f r s) (k : Int) : Side f r (s.put k (s.pl k)) := by
  have e : (s.put k (s.pl k)).pl = s.pl := by
    funext j
    show (if j = k then s.pl k else s.pl j) = s.pl j
    split
    · rename_i e; rw [e]
    · rfl
  refine ⟨h.nd, fun p hp => ?_, fun j hj => ?_, ?_, fun p hp hp2 => ?_, h.wilds, h.ins, h.places, h.fw, h.fg, h.fc, h.fz⟩
  · rw [e]; exact h.pl p hp
  · rw [e]; exact h.no j hj
  · rw [e]; exact h.turns
  · rw [e]; exact h.below p hp hp2
theorem Side.enter {f : Fd} {r : Rs} {s : St} (h : Side f r s) (x : Nt) {p : Rp} (hp : (r.with_ x.player)[idxR (r.with_ x.player) x.player]? = some p) (hpx : p.player = x.player) :
    Side f { r with people := (r.with_ x.player).eraseIdx (idxR (r.with_ x.player) x.player) ++ [{ p with ent := true, rank := x.rank, grd := decide (x.kind = 2) }] } ({ s with turns := s.turns + 1 }.put x.player { s.pl x.player with ent := true, grd := decide (x.kind = 2), rank := x.rank, turn := s.turns }) := by
  have hnd := with_nd h.nd x.player
  have hlt := (List.getElem?_eq_some_iff.1 hp).1
  have hpe := (List.getElem?_eq_some_iff.1 hp).2
  have hsub : ((r.with_ x.player).eraseIdx (idxR (r.with_ x.player) x.player)).Sublist (r.with_ x.player) := List.eraseIdx_sublist _ _
  have hne : ∀ z ∈ (r.with_ x.player).eraseIdx (idxR (r.with_ x.player) x.player), z.player ≠ x.player := by
    intro z hz e
    have hz1 := hsub.subset hz
    have hzp : z = p := nd_inj hnd hz1 (List.mem_of_getElem? hp) (e.trans hpx.symm)
    obtain ⟨i, hi, hie⟩ := List.mem_eraseIdx_iff_getElem?.1 hz
    have hi1 := (List.getElem?_eq_some_iff.1 hie).1
    have hi2 := (List.getElem?_eq_some_iff.1 hie).2
    have h6 := List.pairwise_iff_getElem.1 hnd
    rcases Nat.lt_or_gt_of_ne hi with c | c
    · have := h6 i _ (by simpa using hi1) (by simpa using hlt) c
      simp only [List.getElem_map] at this
      rw [hi2, hpe, hzp] at this; exact this rfl
    · have := h6 _ i (by simpa using hlt) (by simpa using hi1) c
      simp only [List.getElem_map] at this
      rw [hi2, hpe, hzp] at this; exact this rfl
  have hin : ∀ z ∈ (r.with_ x.player).eraseIdx (idxR (r.with_ x.player) x.player), z ∈ r.people := by
    intro z hz
    have h5 := hsub.subset hz
    unfold Rs.with_ at h5
    split at h5
    · exact h5
    · rcases List.mem_append.1 h5 with h6 | h6
      · exact h6
      · simp only [List.mem_singleton] at h6
        have := hne z hz
        rw [h6] at this
        exact absurd rfl this
  have hpl : ∀ k, ({ s with turns := s.turns + 1 }.put x.player { s.pl x.player with ent := true, grd := decide (x.kind = 2), rank := x.rank, turn := s.turns } : St).pl k = if k = x.player then { s.pl x.player with ent := true, grd := decide (x.kind = 2), rank := x.rank, turn := s.turns } else s.pl k := fun k => rfl
  have his := with_is h x.player (List.mem_of_getElem? hp) hpx
  have hmemr : ∀ z ∈ r.people, z.player ≠ x.player → z ∈ (r.with_ x.player).eraseIdx (idxR (r.with_ x.player) x.player) := by
    intro z hz hzn
    have hzw : z ∈ r.with_ x.player := by
      unfold Rs.with_
      split
      · exact hz
      · exact List.mem_append_left _ hz
    obtain ⟨i, hi, hie⟩ := List.getElem_of_mem hzw
    refine List.mem_eraseIdx_iff_getElem?.2 ⟨i, fun c => ?_, by rw [List.getElem?_eq_getElem hi, hie]⟩
    subst c
    rw [hpe] at hie
    rw [← hie] at hzn
    exact hzn hpx
  refine ⟨?_, fun z hz => ?_, fun k hk => ?_, ?_, fun z hz hz2 => ?_, h.wilds, h.ins, h.places, h.fw, h.fg, h.fc, h.fz⟩
  · show (((r.with_ x.player).eraseIdx (idxR (r.with_ x.player) x.player) ++ [_]).map Rp.player).Nodup
    rw [List.map_append, List.nodup_append]
    refine ⟨List.Nodup.sublist (hsub.map Rp.player) hnd, by simp, fun a ha b hb e => ?_⟩
    simp only [List.map_cons, List.map_nil, List.mem_singleton] at hb
    obtain ⟨z, hz, rfl⟩ := List.mem_map.1 ha
    exact hne z hz (e.trans (hb.trans hpx))
  · rcases List.mem_append.1 hz with h5 | h5
    · rw [hpl, if_neg (hne z h5)]
      exact h.pl z (hin z h5)
    · simp only [List.mem_singleton] at h5
      subst h5
      show Rp.is _ (_ : Pl)
      rw [hpl]
      simp only [hpx, if_pos]
      exact ⟨rfl, rfl, his.2.2.1, his.2.2.2.1, his.2.2.2.2.1, rfl⟩
  · have hk1 : k ≠ x.player := fun e => hk (by
      rw [List.map_append, List.mem_append]
      exact .inr (by simp [e, hpx]))
    rw [hpl, if_neg hk1]
    refine h.no k (fun hm => hk ?_)
    obtain ⟨z, hz, e⟩ := List.mem_map.1 hm
    rw [List.map_append, List.mem_append]
    exact .inl (List.mem_map.2 ⟨z, hmemr z hz (fun c => hk1 (e.symm.trans c)), e⟩)
  · show List.Pairwise _ ((r.with_ x.player).eraseIdx (idxR (r.with_ x.player) x.player) ++ [_])
    rw [List.pairwise_append]
    refine ⟨?_, by simp, fun a ha b hb ha2 _ => ?_⟩
    · have hsr : ((r.with_ x.player).eraseIdx (idxR (r.with_ x.player) x.player)).Pairwise (fun p q => p.ent = true → q.ent = true → (s.pl p.player).turn < (s.pl q.player).turn) := by
        refine List.Pairwise.sublist hsub ?_
        unfold Rs.with_
        split
        · exact h.turns
        · rw [List.pairwise_append]
          exact ⟨h.turns, by simp, fun a _ b hb _ hb2 => by simp at hb; rw [hb] at hb2; cases hb2⟩
      refine List.Pairwise.imp_of_mem (fun {a b} ha hb hab c1 c2 => ?_) hsr
      rw [hpl, hpl, if_neg (hne a ha), if_neg (hne b hb)]
      exact hab c1 c2
    · simp only [List.mem_singleton] at hb
      subst hb
      rw [hpl, hpl, if_neg (hne a ha)]
      simp only [hpx, if_pos]
      exact h.below a (hin a ha) ha2
  · rcases List.mem_append.1 hz with h5 | h5
    · rw [hpl, if_neg (hne z h5)]
      have := h.below z (hin z h5) hz2
      show _ < s.turns + 1
      omega
    · simp only [List.mem_singleton] at h5
      subst h5
      rw [hpl]
      simp only [hpx, if_pos]
      show s.turns < s.turns + 1
      omega

theorem said_side {f : Fd} {r : Rs} {s : St} (h : Side f r s) (hc : CardsOk s) (x : Nt) : Side f (rtake f r x) (s.said x) := by
  obtain ⟨hlt, p, hp, hpx⟩ := idxR_lt (with_mem r x.player)
  have his := with_is h x.player (List.mem_of_getElem? hp) hpx
  have hget : (r.with_ x.player).getD (idxR (r.with_ x.player) x.player) (Rp.new x.player) = p := by rw [List.getD_eq_getElem?_getD, hp]; rfl
  obtain ⟨i1, i2, i3, i4, i5, i6⟩ := his
  unfold rtake St.said
  dsimp only
  rw [hget]
  by_cases k12 : x.kind = 1 ∨ x.kind = 2
  · rw [if_pos k12, if_pos k12]
    by_cases c : f.close < x.hour ∨ p.ent = true
    · rw [if_pos c, if_neg (by rw [h.fc, i1]; rintro ⟨c1, c2⟩; rcases c with c | c; (omega); rw [c2] at c; cases c)]
      exact side_same h x.player
    · have c1 : ¬ f.close < x.hour := fun e => c (.inl e)
      have c2 : p.ent = false := by cases e : p.ent with | true => exact absurd (.inr e) c | false => rfl
      rw [if_neg c, if_pos ⟨by rw [h.fc]; omega, by rw [i1]; exact c2⟩]
      exact h.enter x hp hpx
  · rw [if_neg k12, if_neg k12]
    by_cases k3 : x.kind = 3
    · rw [if_pos k3, if_pos k3]
      have hcd : x.player ∈ r.wilds ↔ p.card = true ∧ p.quit = false := by rw [h.wilds, hc x.player, i3, i4]
      have hlt' : late s.f x.hour = decide (f.freeze < x.hour) := by unfold late; rw [h.fz]
      by_cases c : f.freeze < x.hour ∨ p.quit = true ∨ x.player ∈ r.wilds ∨ f.wilds ≤ (r.wilds.length : Int)
      · rw [if_pos c, if_neg (by
          rw [hlt', i3, i4, h.fw, ← h.wilds]
          rintro ⟨c1, c2, c3, c4⟩
          rcases c with c | c | c | c
          · rw [decide_eq_true c] at c1; cases c1
          · rw [c3] at c; cases c
          · rw [hcd, c2] at c; cases c.1
          · omega)]
        exact side_same h x.player
      · have c1 : ¬ f.freeze < x.hour := fun e => c (.inl e)
        have c2 : p.quit = false := by cases e : p.quit with | true => exact absurd (.inr (.inl e)) c | false => rfl
        have c3 : x.player ∉ r.wilds := fun e => c (.inr (.inr (.inl e)))
        have c4 : ¬ f.wilds ≤ (r.wilds.length : Int) := fun e => c (.inr (.inr (.inr e)))
        have c5 : p.card = false := by cases e : p.card with | true => exact absurd (hcd.2 ⟨e, c2⟩) c3 | false => rfl
        rw [if_neg c, if_pos ⟨by rw [hlt', decide_eq_false c1], by rw [i3]; exact c5, by rw [i4]; exact c2, by rw [h.fw, ← h.wilds]; omega⟩]
        exact h.upd (q := { p with card := true }) (Q := { s.pl x.player with card := true }) (u := ({ s with cards := s.cards ++ [x.player] } : St).put x.player { s.pl x.player with card := true }) (wl := r.wilds ++ [x.player]) (bk := r.back) x hp hpx rfl ⟨i1, i2, rfl, i4, i5, i6⟩ rfl (fun k => rfl) rfl (by rw [h.wilds]; rfl) rfl h.places h.fw h.fg h.fc h.fz
    · rw [if_neg k3, if_neg k3]
      by_cases k4 : x.kind = 4
      · rw [if_pos k4, if_pos k4]
        have hcd : x.player ∈ r.wilds ↔ p.card = true ∧ p.quit = false := by rw [h.wilds, hc x.player, i3, i4]
        have hq : (late s.f x.hour = true ∧ (s.pl x.player).card = true ∧ (s.pl x.player).quit = false) ↔ (x.player ∈ r.wilds ∧ f.freeze < x.hour) := by
          unfold late
          rw [h.fz, i3, i4, hcd, decide_eq_true_eq]
          constructor
          · rintro ⟨c1, c2⟩; exact ⟨c2, c1⟩
          · rintro ⟨c1, c2⟩; exact ⟨c2, c1⟩
        by_cases c : x.player ∈ r.wilds ∧ f.freeze < x.hour
        · rw [if_pos c, if_pos (hq.2 c)]
          exact h.upd (q := { p with quit := true }) (Q := { s.pl x.player with quit := true }) (u := ({ s with f := { s.f with places := s.f.places + 1 }, cards := s.cards.filter (fun k => k != x.player) } : St).put x.player { s.pl x.player with quit := true }) (wl := r.wilds.filter (fun k => k != x.player)) (bk := r.back + 1) x hp hpx rfl ⟨i1, i2, i3, rfl, i5, i6⟩ rfl (fun k => rfl) rfl (by rw [h.wilds]; rfl) rfl (by show s.f.places + 1 = _; have := h.places; omega) h.fw h.fg h.fc h.fz
        · rw [if_neg c, if_neg (fun e => c (hq.1 e))]
          exact h.upd (q := { p with quit := true }) (Q := { s.pl x.player with quit := true }) (u := ({ s with cards := s.cards.filter (fun k => k != x.player) } : St).put x.player { s.pl x.player with quit := true }) (wl := r.wilds.filter (fun k => k != x.player)) (bk := r.back) x hp hpx rfl ⟨i1, i2, i3, rfl, i5, i6⟩ rfl (fun k => rfl) rfl (by rw [h.wilds]; rfl) rfl h.places h.fw h.fg h.fc h.fz
      · rw [if_neg k4, if_neg k4]
        by_cases k5 : x.kind = 5
        · rw [if_pos k5, if_pos k5]
          exact h.upd (q := { p with sgn := true }) (Q := { s.pl x.player with sgn := true }) (u := s.put x.player { s.pl x.player with sgn := true }) (wl := r.wilds) (bk := r.back) x hp hpx rfl ⟨i1, i2, i3, i4, rfl, i6⟩ rfl (fun k => rfl) rfl h.wilds rfl h.places h.fw h.fg h.fc h.fz
        · rw [if_neg k5, if_neg k5]
          exact h.upd (q := p) (Q := s.pl x.player) (u := s.put x.player (s.pl x.player)) (wl := r.wilds) (bk := r.back) x hp hpx rfl ⟨i1, i2, i3, i4, i5, i6⟩ rfl (fun k => rfl) rfl h.wilds rfl h.places h.fw h.fg h.fc h.fz
end E
end Go.Proofs.YtobjahlmjcnfoaaGreat

namespace Go.Proofs.YtobjahlmjcnfoaaGreat
namespace E

theorem rtake_rank {f : Fd} {r : Rs} (h : ∀ p ∈ r.people, 0 ≤ p.rank) (x : Nt) (hx : 0 ≤ x.rank) : ∀ p ∈ (rtake f r x).people, 0 ≤ p.rank := by
  have hw : ∀ p ∈ r.with_ x.player, 0 ≤ p.rank := by
    intro p hp
    unfold Rs.with_ at hp
    split at hp
    · exact h p hp
    · rcases List.mem_append.1 hp with h1 | h1
      · exact h p h1
      · simp only [List.mem_singleton] at h1
        rw [h1]; exact Int.le_refl _
  have hd : 0 ≤ ((r.with_ x.player).getD (idxR (r.with_ x.player) x.player) (Rp.new x.player)).rank := by
    rw [List.getD_eq_getElem?_getD]
    cases e : (r.with_ x.player)[idxR (r.with_ x.player) x.player]? with
    | none => exact Int.le_refl _
    | some p => exact hw p (List.mem_of_getElem? e)
  have hset : ∀ (n : Nat) (q : Rp), 0 ≤ q.rank → ∀ p ∈ (r.with_ x.player).set n q, 0 ≤ p.rank := by
    intro n q hq p hp
    rcases List.mem_or_eq_of_mem_set hp with h1 | h1
    · exact hw p h1
    · rw [h1]; exact hq
  unfold rtake
  dsimp only
  repeat' split
  all_goals first
    | exact h
    | exact hset _ _ hd
    | (intro p hp
       rcases List.mem_append.1 hp with h1 | h1
       · exact hw p ((List.eraseIdx_sublist _ _).subset h1)
       · simp only [List.mem_singleton] at h1
         rw [h1]; exact hx)

def Wr (s : St) (a b : Rp) : Prop := 0 ≤ cmpP (s.pl b.player) (s.pl a.player)
theorem wr_iff (s : St) {a b : Rp} (ha : (s.pl a.player).rank = a.rank) (hb : (s.pl b.player).rank = b.rank) (h0 : 0 ≤ a.rank) (h1 : 0 ≤ b.rank) :
    Wr s a b ↔ ¬ ((b.rank ≠ 0 ∧ a.rank = 0) ∨ (b.rank ≠ 0 ∧ a.rank ≠ 0 ∧ b.rank < a.rank) ∨ (b.rank = a.rank ∧ (s.pl b.player).turn < (s.pl a.player).turn)) := by
  unfold Wr
  have := cmpP_neg (s.pl b.player) (s.pl a.player)
  rw [ha, hb] at this
  have hz : ∀ z : Int, one (z == 0) = if z = 0 then 1 else 0 := fun z => by
    unfold one
    by_cases e : z = 0
    · subst e; rfl
    · rw [if_neg e, if_neg (by simpa using e)]
  rw [hz, hz] at this
  constructor
  · intro hc hn
    have h2 : cmpP (s.pl b.player) (s.pl a.player) < 0 := this.2 (by split <;> split <;> omega)
    omega
  · intro hn
    rcases Int.lt_or_le (cmpP (s.pl b.player) (s.pl a.player)) 0 with h2 | h2
    · exfalso
      have h3 := this.1 h2
      apply hn
      revert h3
      split <;> split <;> omega
    · exact h2
theorem rins_sorted (s : St) {p : Rp} {out : List Rp} (hp : (s.pl p.player).rank = p.rank) (hp0 : 0 ≤ p.rank) (hr : ∀ q ∈ out, (s.pl q.player).rank = q.rank ∧ 0 ≤ q.rank) (ht : ∀ q ∈ out, (s.pl q.player).turn < (s.pl p.player).turn) (hs : out.Pairwise (Wr s)) : (rins p out).Pairwise (Wr s) := by
  unfold rins
  obtain ⟨n, hn⟩ : ∃ n, out.findIdx (before p.rank) = n := ⟨_, rfl⟩
  rw [hn]
  have hsplit := List.take_append_drop n out
  have hs' : (out.take n ++ out.drop n).Pairwise (Wr s) := by rw [hsplit]; exact hs
  obtain ⟨h1, h2, h3⟩ := List.pairwise_append.1 hs'
  have hpre : ∀ q ∈ out.take n, Wr s q p := by
    intro q hq
    have hqo := List.mem_of_mem_take hq
    obtain ⟨i, hi, hie⟩ := List.getElem_of_mem hq
    have hi' : i < n := by rw [List.length_take] at hi; omega
    have hnb := List.not_of_lt_findIdx (p := before p.rank) (xs := out) (i := i) (by rw [hn]; exact hi')
    rw [List.getElem_take] at hie
    rw [hie] at hnb
    have hnb : ¬ (before p.rank q = true) := by rw [hnb]; decide
    unfold before at hnb
    simp only [Bool.and_eq_true, Bool.or_eq_true, decide_eq_true_eq] at hnb
    have hq1 := hr q hqo
    have hq2 := ht q hqo
    rw [wr_iff s hq1.1 hp hq1.2 hp0]
    omega
  have hpost : ∀ q ∈ out.drop n, Wr s p q := by
    intro q hq
    have hqo := List.mem_of_mem_drop hq
    have hlt : n < out.length := by
      rcases Nat.lt_or_ge n out.length with c | c
      · exact c
      · rw [List.drop_eq_nil_of_le c] at hq; cases hq
    have hb : before p.rank out[n] = true := by
      subst hn
      exact List.findIdx_getElem
    unfold before at hb
    simp only [Bool.and_eq_true, Bool.or_eq_true, decide_eq_true_eq] at hb
    have h0m : out[n] ∈ out := List.getElem_mem _
    have h01 := hr _ h0m
    have hq1 := hr q hqo
    have hq2 := ht q hqo
    have hle : q = out[n] ∨ Wr s out[n] q := by
      rw [List.drop_eq_getElem_cons hlt] at hq h2
      rcases List.mem_cons.1 hq with c | c
      · exact .inl c
      · exact .inr ((List.pairwise_cons.1 h2).1 q c)
    rw [wr_iff s hp hq1.1 hp0 hq1.2]
    rcases hle with c | c
    · rw [c] at hq2 ⊢
      omega
    · rw [wr_iff s h01.1 hq1.1 h01.2 hq1.2] at c
      omega
  rw [List.pairwise_append]
  refine ⟨h1, List.pairwise_cons.2 ⟨hpost, h2⟩, fun a ha b hb => ?_⟩
  rcases List.mem_cons.1 hb with c | c
  · rw [c]; exact hpre a ha
  · exact h3 a ha b c
theorem rins_perm (p : Rp) (out : List Rp) : (rins p out).Perm (out ++ [p]) := by
  unfold rins
  refine (List.perm_middle).trans ?_
  rw [List.take_append_drop]
  exact (List.perm_append_singleton p out).symm
theorem rfold_sorted (s : St) : ∀ (l out : List Rp), (∀ q ∈ out ++ l, (s.pl q.player).rank = q.rank ∧ 0 ≤ q.rank) → (∀ q ∈ out, ∀ p ∈ l, (s.pl q.player).turn < (s.pl p.player).turn) → l.Pairwise (fun a b => (s.pl a.player).turn < (s.pl b.player).turn) → out.Pairwise (Wr s) →
    (l.foldl (fun out p => rins p out) out).Pairwise (Wr s) ∧ (l.foldl (fun out p => rins p out) out).Perm (out ++ l)
  | [], out, _, _, _, hs => ⟨hs, by simp⟩
  | p :: l, out, hr, ht, hl, hs => by
    obtain ⟨l1, l2⟩ := List.pairwise_cons.1 hl
    have hp := hr p (by simp)
    have hperm := rins_perm p out
    have h1 := rins_sorted s hp.1 hp.2 (fun q hq => hr q (List.mem_append_left _ hq)) (fun q hq => ht q hq p (List.mem_cons_self ..)) hs
    have hm : ∀ q, q ∈ rins p out ↔ q ∈ out ∨ q = p := fun q => by rw [hperm.mem_iff, List.mem_append, List.mem_singleton]
    obtain ⟨h2, h3⟩ := rfold_sorted s l (rins p out) (fun q hq => by
        rcases List.mem_append.1 hq with c | c
        · rcases (hm q).1 c with c | c
          · exact hr q (List.mem_append_left _ c)
          · rw [c]; exact hp
        · exact hr q (List.mem_append_right _ (List.mem_cons_of_mem _ c))) (fun q hq z hz => by
        rcases (hm q).1 hq with c | c
        · exact ht q c z (List.mem_cons_of_mem _ hz)
        · rw [c]; exact l1 z hz) l2 h1
    refine ⟨h2, h3.trans ?_⟩
    refine (List.Perm.append_right l hperm).trans ?_
    rw [List.append_assoc]; exact List.Perm.refl _

theorem counts_entry {p : Rp} {q : Pl} (h : p.is q) : q.entry = p.counts := by
  obtain ⟨h1, _, h3, h4, _, _⟩ := h
  unfold Pl.entry Rp.counts
  rw [h1, h3, h4]
theorem order_side {f : Fd} {r : Rs} {s : St} (h : Side f r s) (ok : StOk s) (hr : ∀ p ∈ r.people, 0 ≤ p.rank) : r.order.map Rp.player = s.order ∧ (∀ p ∈ r.order, p ∈ r.people ∧ p.counts = true) ∧ (r.order.map Rp.player).Nodup := by
  have hfm : ∀ p ∈ r.people.filter Rp.counts, p ∈ r.people ∧ p.counts = true := fun p hp => List.mem_filter.1 hp
  have hce : ∀ p : Rp, p.counts = true → p.ent = true := fun p hp => by
    unfold Rp.counts at hp
    simp only [Bool.and_eq_true] at hp
    exact hp.1.1
  obtain ⟨h1, h2⟩ := rfold_sorted s (r.people.filter Rp.counts) [] (fun q hq => by
      have := (hfm q (by simpa using hq)).1
      exact ⟨(h.pl q this).2.2.2.2.2, hr q this⟩) (fun q hq => by cases hq) (by
      have hpw := List.Pairwise.filter Rp.counts h.turns
      refine List.Pairwise.imp_of_mem (fun {a b} ha hb hab => hab (hce a (hfm a ha).2) (hce b (hfm b hb).2)) hpw) List.Pairwise.nil
  change r.order.Pairwise (Wr s) at h1
  change r.order.Perm ([] ++ r.people.filter Rp.counts) at h2
  rw [List.nil_append] at h2
  have hmem : ∀ p ∈ r.order, p ∈ r.people ∧ p.counts = true := fun p hp => hfm p (h2.mem_iff.1 hp)
  have hnd0 : ((r.people.filter Rp.counts).map Rp.player).Nodup := List.Nodup.sublist ((List.filter_sublist).map Rp.player) h.nd
  have hnd : (r.order.map Rp.player).Nodup := (h2.map Rp.player).nodup_iff.2 hnd0
  refine ⟨order_eq ok ?_ ?_, hmem, hnd⟩
  · refine (h2.map Rp.player).trans ?_
    rw [List.perm_ext_iff_of_nodup hnd0 (ok.known.filter _)]
    intro k
    rw [List.mem_map, List.mem_filter]
    constructor
    · rintro ⟨p, hp, rfl⟩
      obtain ⟨c1, c2⟩ := hfm p hp
      have he : (s.pl p.player).entry = true := (counts_entry (h.pl p c1)).trans c2
      refine ⟨?_, he⟩
      rcases Classical.em (p.player ∈ s.known) with c | c
      · exact c
      · rw [ok.zero _ c] at he; cases he
    · rintro ⟨hk, he⟩
      rcases Classical.em (k ∈ r.people.map Rp.player) with c | c
      · obtain ⟨p, hp, e⟩ := List.mem_map.1 c
        refine ⟨p, List.mem_filter.2 ⟨hp, ?_⟩, e⟩
        rw [← counts_entry (h.pl p hp), e]; exact he
      · have := (h.no k c).1
        have h5 := entry_ent he
        rw [this] at h5; cases h5
  · rw [List.pairwise_map]
    exact h1

theorem rfill_side {f : Fd} {s : St} (hp : s.f.places = f.places) (hg : s.f.guards = f.guards) : ∀ (l : List Rp) (m : List Int) (g : Int), (∀ p ∈ l, (s.pl p.player).grd = p.grd) → rfill f l m g = s.fill false (l.map Rp.player) m g
  | [], _, _, _ => rfl
  | p :: r, m, g, h => by
    have hp1 := h p (List.mem_cons_self ..)
    have ih := fun m g => rfill_side hp hg r m g (fun q hq => h q (List.mem_cons_of_mem _ hq))
    rw [List.map_cons, rfill, St.fill, hp, hg, hp1]
    have e : (if p.grd then g + 1 else g) = g + one p.grd := by cases p.grd <;> simp [one]
    rw [e, ih, ih]
    by_cases c : (m.length : Int) < f.places ∧ (p.grd = false ∨ g < f.guards)
    · rw [if_pos c, if_pos ⟨c.1, .inr rfl, c.2.symm⟩]
    · rw [if_neg c, if_neg (fun hh => c ⟨hh.1, hh.2.2.symm⟩)]

theorem rguards_app {l : List Rp} (hn : (l.map Rp.player).Nodup) {m : List Int} {p : Rp} (hp : p ∈ l) (hm : p.player ∉ m) : rguards l (m ++ [p.player]) = rguards l m + one p.grd := by
  have key : ∀ (l : List Rp), (l.map Rp.player).Nodup → p ∈ l → (l.filter fun q => q.grd && (m ++ [p.player]).contains q.player).length = (l.filter fun q => q.grd && m.contains q.player).length + (if p.grd then 1 else 0) := by
    intro l
    induction l with
    | nil => intro _ h; cases h
    | cons a r ih =>
      intro hn hp
      rw [List.map_cons, List.nodup_cons] at hn
      have hcon : ∀ z : Rp, (m ++ [p.player]).contains z.player = (m.contains z.player || (z.player == p.player)) := fun z => by
        rw [List.contains_append]; congr 1; simp only [List.contains_cons, List.contains_nil, Bool.or_false]
      rcases List.mem_cons.1 hp with e | e
      · subst e
        have hr : (r.filter fun q => q.grd && (m ++ [p.player]).contains q.player) = r.filter fun q => q.grd && m.contains q.player := List.filter_congr fun q hq => by
          have : q.player ≠ p.player := fun c => hn.1 (c ▸ List.mem_map.2 ⟨q, hq, rfl⟩)
          rw [hcon, beq_false_of_ne this, Bool.or_false]
        rw [List.filter_cons, List.filter_cons, hr, hcon]
        have h1 : m.contains p.player = false := by rw [List.contains_eq_mem]; exact decide_eq_false hm
        rw [h1]
        cases p.grd <;> simp
      · have hne : a.player ≠ p.player := fun c => hn.1 (c ▸ List.mem_map.2 ⟨p, e, rfl⟩)
        have h5 := ih hn.2 e
        rw [List.filter_cons, List.filter_cons, hcon, beq_false_of_ne hne, Bool.or_false]
        split
        · rw [List.length_cons, List.length_cons, h5]; omega
        · exact h5
  unfold rguards
  rw [key l hn hp]
  cases p.grd <;> simp [one]
theorem rlater_fill {f : Fd} {s : St} (back : Int) (hp : s.f.places = f.places + back) (hg : s.f.guards = f.guards) (l : List Rp) (hn : (l.map Rp.player).Nodup) (hpl : ∀ p ∈ l, (s.pl p.player).grd = p.grd ∧ (s.pl p.player).sgn = p.sgn) :
    ∀ (l2 l1 : List Rp) (n : Nat) (m : List Int) (g : Int), l = l1 ++ l2 → l2.length ≤ n → g = rguards l m → (∀ p ∈ l1, p.player ∈ m ∨ p.sgn = false ∨ (p.grd = true ∧ f.guards ≤ g)) →
      rlater f back l n m = s.fill true ((l2.filter fun p => !m.contains p.player).map Rp.player) m g
  | [], l1, n, m, g, hl, hln, hgm, h1 => by
    have hnone : rnext f l m = none := by
      unfold rnext
      rw [List.find?_eq_none]
      intro q hq hc
      rw [hl, List.append_nil] at hq
      simp only [Bool.and_eq_true, Bool.not_eq_true', Bool.or_eq_true, List.contains_eq_mem, decide_eq_false_iff_not, decide_eq_true_eq] at hc
      rcases h1 q hq with c | c | ⟨c1, c2⟩
      · exact hc.1.2 c
      · rw [c] at hc; cases hc.1.1
      · rcases hc.2 with c | c
        · rw [c1] at c; cases c
        · omega
    show rlater f back l n m = m
    match n with
    | 0 => rfl
    | n + 1 =>
      unfold rlater
      rw [hnone]
      split <;> rfl
  | p :: r, l1, n, m, g, hl, hln, hgm, h1 => by
    have hpm : p ∈ l := by rw [hl]; simp
    have hl' : l = (l1 ++ [p]) ++ r := by rw [hl]; simp
    rw [List.length_cons] at hln
    by_cases hin : p.player ∈ m
    · rw [List.filter_cons_of_neg (by simpa using hin)]
      exact rlater_fill back hp hg l hn hpl r (l1 ++ [p]) n m g hl' (by omega) hgm (fun q hq => by
        rcases List.mem_append.1 hq with c | c
        · exact h1 q c
        · simp only [List.mem_singleton] at c
          rw [c]; exact .inl hin)
    · rw [List.filter_cons_of_pos (by simpa using hin), List.map_cons]
      unfold St.fill
      rw [(hpl p hpm).1, (hpl p hpm).2, hp, hg]
      by_cases hfull : (m.length : Int) < f.places + back
      · by_cases hel : p.sgn = true ∧ (p.grd = false ∨ g < f.guards)
        · rw [if_pos ⟨hfull, .inl hel.1, hel.2.symm⟩]
          have hnext : rnext f l m = some p := by
            unfold rnext
            rw [List.find?_eq_some_iff_append]
            refine ⟨?_, l1, r, hl, fun q hq => ?_⟩
            · rw [hel.1]
              simp only [Bool.true_and, Bool.and_eq_true, Bool.not_eq_true', List.contains_eq_mem, decide_eq_false_iff_not, Bool.or_eq_true, decide_eq_true_eq]
              exact ⟨hin, hel.2.imp id (fun c => by rw [← hgm]; exact c)⟩
            · simp only [Bool.not_eq_true', Bool.and_eq_false_imp, Bool.and_eq_true, List.contains_eq_mem, decide_eq_false_iff_not, Bool.or_eq_false_iff]
              rintro ⟨c1, c2⟩
              rcases h1 q hq with c | c | ⟨c3, c4⟩
              · exact absurd c c2
              · rw [c] at c1; cases c1
              · exact ⟨by rw [c3]; rfl, by omega⟩
          match n, hln with
          | n + 1, hln =>
            unfold rlater
            rw [if_pos hfull, hnext]
            dsimp only
            have hg2 := rguards_app hn hpm hin
            have hfilt : (r.filter fun q => !m.contains q.player) = r.filter fun q => !(m ++ [p.player]).contains q.player := List.filter_congr fun q hq => by
              have hne : q.player ≠ p.player := by
                rw [hl, List.map_append, List.map_cons] at hn
                have h5 := (List.nodup_cons.1 (List.nodup_append.1 hn).2.1).1
                exact fun c => h5 (c ▸ List.mem_map.2 ⟨q, hq, rfl⟩)
              rw [List.contains_append]
              have : [p.player].contains q.player = false := by simp [hne]
              rw [this, Bool.or_false]
            rw [hfilt]
            exact rlater_fill back hp hg l hn hpl r (l1 ++ [p]) n (m ++ [p.player]) (g + one p.grd) hl' (by omega) (by rw [hg2, hgm]) (fun q hq => by
              have hb := one_bd p.grd
              rcases List.mem_append.1 hq with c | c
              · rcases h1 q c with c | c | ⟨c1, c2⟩
                · exact .inl (List.mem_append_left _ c)
                · exact .inr (.inl c)
                · exact .inr (.inr ⟨c1, by omega⟩)
              · simp only [List.mem_singleton] at c
                rw [c]; exact .inl (by simp))
        · rw [if_neg (fun hh => hel ⟨hh.2.1.elim id (fun c => by cases c), hh.2.2.symm⟩)]
          exact rlater_fill back hp hg l hn hpl r (l1 ++ [p]) n m g hl' (by omega) hgm (fun q hq => by
            rcases List.mem_append.1 hq with c | c
            · exact h1 q c
            · simp only [List.mem_singleton] at c
              rw [c]
              cases es : p.sgn with
              | false => exact .inr (.inl rfl)
              | true =>
                have : ¬ (p.grd = false ∨ g < f.guards) := fun c => hel ⟨es, c⟩
                refine .inr (.inr ⟨?_, by omega⟩)
                cases eg : p.grd with
                | true => rfl
                | false => exact absurd (.inl eg) this)
      · rw [if_neg (fun hh => hfull hh.1), fill_full true _ _ _ (by rw [hp]; omega)]
        match n, hln with
        | n + 1, _ =>
          unfold rlater
          rw [if_neg hfull]
end E
end Go.Proofs.YtobjahlmjcnfoaaGreat

namespace Go.Proofs.YtobjahlmjcnfoaaGreat
open Go.RowKit
attribute [local go_sem ↓] Go.wp_at_zero Go.wp_at_succ

end Go.Proofs.YtobjahlmjcnfoaaGreat

namespace Go.Proofs.YtobjahlmjcnfoaaGreat
open Go.RowKit

namespace E
def cntG (f : Fd) (h : Int) (l : List Nt) (xs : List Int) : Int := (xs.map fun k => one (decide ((entF f h k l).kind = 2))).sum
theorem known_said (s : St) (x : Nt) : (s.said x).known.length ≤ s.known.length + 1 := by
  have hp : ∀ k : Int, (if k ∈ s.known then s.known else s.known ++ [k]).length ≤ s.known.length + 1 := fun k => by split <;> simp
  unfold St.said
  dsimp only
  repeat' split
  all_goals exact hp _
end E

end Go.Proofs.YtobjahlmjcnfoaaGreat
