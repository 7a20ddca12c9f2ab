/-
  Part of a claim's texts: contracts of the program's functions and the plain functions that they compute, in build order.
-/
import Derived.Test.YtampfpnkkdihaaaZB02
import Derived.Test.YtampfpnkkdihaaaZB03
namespace Go.Proofs.Ytampfpnkkdihaaa
open Go.RowKit
attribute [local go_sem ↓] Go.wp_at_zero Go.wp_at_succ

theorem Keeps.then_below {S : Nat → Prop} {A B C : World} (h : Keeps S A B) (hb : Below A.heap.size B C) : Keeps S A C := ⟨h.rest.trans (hb.mono (Nat.zero_le _)), fun k hS hk => (hb.block k hk).trans (h.same k hS hk)⟩
def RunPost (each more : Int) (l : List L.Ap) (w : World) (e : Ending) (w' : World) : Prop :=
  ∃ sv c', e = .returned (.tuple #[.slice sv (L.runD each more l).length c', .agg #[.int .i64 (L.runL each more l).1, .int .i64 (L.runL each more l).2], .int .i64 (L.runE each more l)]) ∧ w'.ownsRow w.heap.size 3 1 (.slice sv (L.runD each more l).length c') (L.runD each more l).length (flatI (L.runD each more l)) ∧ Below w.heap.size w w'
theorem run_bad {each more : Int} {l : List L.Ap} {w w' : World} (h : L.runBad each more l = true) (hb : Below w.heap.size w w') : RunPost each more l w (.returned (.tuple #[.slice none 0 0, .agg #[.int .i64 0, .int .i64 0], .int .i64 23])) w' := by
  have e1 : L.runD each more l = [] := by unfold L.runD; rw [h]; rfl
  have e2 : L.runL each more l = (0, 0) := by unfold L.runL; rw [h]; rfl
  have e3 : L.runE each more l = 23 := by unfold L.runE; rw [h]; rfl
  unfold RunPost
  rw [e1, e2, e3]
  exact ⟨none, 0, rfl, World.ownsRow_nil _ _ _ _, hb⟩
theorem run_good {each more : Int} {l : List L.Ap} {w w' : World} {s : L.Rs} {sv : Option Addr} {c : Nat} (h : L.runBad each more l = false) (hs : L.runR each more l = s) (ho : w'.ownsRow w.heap.size 3 1 (.slice sv s.ds.length c) s.ds.length (flatI s.ds)) (hb : Below w.heap.size w w') : RunPost each more l w (.returned (.tuple #[.slice sv s.ds.length c, .agg #[.int .i64 s.l0, .int .i64 s.l1], .int .i64 0])) w' := by
  have e1 : L.runD each more l = s.ds := by unfold L.runD; rw [h, hs]; rfl
  have e2 : L.runL each more l = (s.l0, s.l1) := by unfold L.runL; rw [h, hs]; rfl
  have e3 : L.runE each more l = 0 := by unfold L.runE; rw [h]; rfl
  unfold RunPost
  rw [e1, e2, e3]
  exact ⟨sv, c, rfl, ho, hb⟩

theorem Run_results {Z : World} {g : Nat} {a b e : Int} {sv : Option Addr} {n c : Nat} {cs tmps : Array Value} (h : Z.heap[g]? = some (.cells cs 64 (0, 0)))
    (e3 : cs = #[.int .i64 a, .int .i64 b]) (t4 : tmps[4]? = some (.slice sv n c)) (t5 : tmps[5]? = some (.pointer (some ⟨g, 0, none⟩))) (t6 : tmps[6]? = some (.int .i64 e)) :
    (results Try.f33 tmps).run Try.prog Z = .ok (.tuple #[.slice sv n c, .agg #[.int .i64 a, .int .i64 b], .int .i64 e]) Z := by
  subst e3
  have k1 : Z.cell? ⟨g, 0, none⟩ = some (.int .i64 a) := blk_cell h 0
  have k2 : Z.cell? ⟨g, 1, none⟩ = some (.int .i64 b) := blk_cell h 1
  simp [results, Try.results33, go_sem, t4, t5, t6, k1, k2]

set_option maxRecDepth 100000 in
set_option maxHeartbeats 6400000 in
theorem Run_rule1 (each more : Int) (l : List L.Ap) (A : Option Addr) (n c : Nat) (w : World) (hn : l.length = n) (hr : RdA w w.heap.size A l) (X1 : L.within each 0 9 = false) :
    Calls Try.prog 33 #[.agg #[.int .i64 each, .int .i64 more], .slice A n c] w fun e w' => RunPost each more l w e w' := by
  have HN := hide hn
  have HR := hide hr
  have HBAD := hide (show L.runBad each more l = true by unfold L.runBad L.ruleOk; rw [X1]; rfl)
  clear hn hr
  go_enter Try.func33, Try.ntmps33
  go_upto_region 1 with fail
  obtain ⟨W0, hW0⟩ : ∃ W0, (w.alloc (.cells #[.int .i64 each, .int .i64 more] 62)).alloc (.cells #[.int .i64 0, .int .i64 0] 64) = W0 := ⟨_, rfl⟩
  have gp : W0.heap[w.heap.size]? = some (.cells #[.int .i64 each, .int .i64 more] 62 (0, 0)) := by
    rw [← hW0]; exact (Below.heap_alloc _ _ _ (by first | (simp; done) | (simp; omega) | omega)).trans (World.alloc_heap_new _ _)
  have gq : W0.heap[w.heap.size + 1]? = some (.cells #[.int .i64 0, .int .i64 0] 64 (0, 0)) := by
    rw [← hW0]; exact (congrArg _ (by simp)).trans (World.alloc_heap_new _ _)
  have gs : W0.heap.size = w.heap.size + 1 + 1 := by rw [← hW0]; simp
  have gB : Below w.heap.size w W0 := by rw [← hW0]; (repeat' first | exact zbR _ _ | assumption | refine zbD ?_ | refine zbA ?_ ?_ _ | refine zbS ?_ ?_ _ | refine zbT ?_ (by assumption) ?_ | (simp; done) | (simp; omega) | omega)
  rw [hW0]
  clear hW0
  obtain ⟨p, hp⟩ : ∃ p, w.heap.size = p := ⟨_, rfl⟩
  obtain ⟨q, hq⟩ : ∃ q, w.heap.size + 1 = q := ⟨_, rfl⟩
  rw [hq, hp]
  rw [hp] at gp
  rw [hq] at gq
  have lp : p < W0.heap.size := by omega
  have lq : q < W0.heap.size := by omega
  have hpq : p ≠ q := by omega
  have hwp : w.heap.size = p := hp
  have hwq : w.heap.size ≤ q := by omega
  have HR0 := hide (HR.out.below gB)
  have GB := hide gB
  have GP := hide gp
  have GQ := hide gq
  have cp0 := (blk_cell gp 0).trans rfl; have cp1 := (blk_cell gp 1).trans rfl
  have cq0 := (blk_cell gq 0).trans rfl; have cq1 := (blk_cell gq 1).trans rfl
  have fq0 := blk_frozen gq 0; have fq1 := blk_frozen gq 1
  clear gp gq gB HR hp hq gs
  go_wp2_with (go_at_call 61; refine (within_any _ _ _ _).mono ?_; rintro e w4 ⟨rfl, rfl⟩; rw [X1])
  refine bodyPost_ret (v := .tuple #[.slice none 0 0, .agg #[.int .i64 0, .int .i64 0], .int .i64 23]) (Run_results (blk_set (blk_set GQ.out 0 (.int .i64 0)) 1 (.int .i64 0)) rfl rfl rfl rfl) rfl ?_
  exact run_bad HBAD.out (zbS (zbS GB.out hwq _) hwq _)

set_option maxRecDepth 100000 in
set_option maxHeartbeats 6400000 in
theorem Run_rule2 (each more : Int) (l : List L.Ap) (A : Option Addr) (n c : Nat) (w : World) (hn : l.length = n) (hr : RdA w w.heap.size A l) (X1 : L.within each 0 9 = true) (X2 : L.within more 0 9 = false) :
    Calls Try.prog 33 #[.agg #[.int .i64 each, .int .i64 more], .slice A n c] w fun e w' => RunPost each more l w e w' := by
  have HN := hide hn
  have HR := hide hr
  have HBAD := hide (show L.runBad each more l = true by unfold L.runBad L.ruleOk; rw [X1, X2]; rfl)
  clear hn hr
  go_enter Try.func33, Try.ntmps33
  go_upto_region 1 with fail
  obtain ⟨W0, hW0⟩ : ∃ W0, (w.alloc (.cells #[.int .i64 each, .int .i64 more] 62)).alloc (.cells #[.int .i64 0, .int .i64 0] 64) = W0 := ⟨_, rfl⟩
  have gp : W0.heap[w.heap.size]? = some (.cells #[.int .i64 each, .int .i64 more] 62 (0, 0)) := by
    rw [← hW0]; exact (Below.heap_alloc _ _ _ (by first | (simp; done) | (simp; omega) | omega)).trans (World.alloc_heap_new _ _)
  have gq : W0.heap[w.heap.size + 1]? = some (.cells #[.int .i64 0, .int .i64 0] 64 (0, 0)) := by
    rw [← hW0]; exact (congrArg _ (by simp)).trans (World.alloc_heap_new _ _)
  have gs : W0.heap.size = w.heap.size + 1 + 1 := by rw [← hW0]; simp
  have gB : Below w.heap.size w W0 := by rw [← hW0]; (repeat' first | exact zbR _ _ | assumption | refine zbD ?_ | refine zbA ?_ ?_ _ | refine zbS ?_ ?_ _ | refine zbT ?_ (by assumption) ?_ | (simp; done) | (simp; omega) | omega)
  rw [hW0]
  clear hW0
  obtain ⟨p, hp⟩ : ∃ p, w.heap.size = p := ⟨_, rfl⟩
  obtain ⟨q, hq⟩ : ∃ q, w.heap.size + 1 = q := ⟨_, rfl⟩
  rw [hq, hp]
  rw [hp] at gp
  rw [hq] at gq
  have lp : p < W0.heap.size := by omega
  have lq : q < W0.heap.size := by omega
  have hpq : p ≠ q := by omega
  have hwp : w.heap.size = p := hp
  have hwq : w.heap.size ≤ q := by omega
  have HR0 := hide (HR.out.below gB)
  have GB := hide gB
  have GP := hide gp
  have GQ := hide gq
  have cp0 := (blk_cell gp 0).trans rfl; have cp1 := (blk_cell gp 1).trans rfl
  have cq0 := (blk_cell gq 0).trans rfl; have cq1 := (blk_cell gq 1).trans rfl
  have fq0 := blk_frozen gq 0; have fq1 := blk_frozen gq 1
  clear gp gq gB HR hp hq gs
  go_wp2_with (go_at_call 61; refine (within_any _ _ _ _).mono ?_; rintro e w4 ⟨rfl, rfl⟩; first | rw [X1] | rw [X2])
  refine bodyPost_ret (v := .tuple #[.slice none 0 0, .agg #[.int .i64 0, .int .i64 0], .int .i64 23]) (Run_results (blk_set (blk_set GQ.out 0 (.int .i64 0)) 1 (.int .i64 0)) rfl rfl rfl rfl) rfl ?_
  exact run_bad HBAD.out (zbS (zbS GB.out hwq _) hwq _)

set_option maxRecDepth 100000 in
set_option maxHeartbeats 6400000 in
theorem Run_rule3 (each more : Int) (l : List L.Ap) (A : Option Addr) (n c : Nat) (w : World) (hn : l.length = n) (hr : RdA w w.heap.size A l) (X1 : L.within each 0 9 = true) (X2 : L.within more 0 9 = true) (X3 : 30 < n) :
    Calls Try.prog 33 #[.agg #[.int .i64 each, .int .i64 more], .slice A n c] w fun e w' => RunPost each more l w e w' := by
  have HN := hide hn
  have HR := hide hr
  have HBAD := hide (show L.runBad each more l = true by unfold L.runBad L.ruleOk; rw [X1, X2, hn, decide_eq_false (by omega)]; rfl)
  have X3' : (30 : Int) < (n : Int) := by omega
  clear hn hr X3
  go_enter Try.func33, Try.ntmps33
  go_upto_region 1 with fail
  obtain ⟨W0, hW0⟩ : ∃ W0, (w.alloc (.cells #[.int .i64 each, .int .i64 more] 62)).alloc (.cells #[.int .i64 0, .int .i64 0] 64) = W0 := ⟨_, rfl⟩
  have gp : W0.heap[w.heap.size]? = some (.cells #[.int .i64 each, .int .i64 more] 62 (0, 0)) := by
    rw [← hW0]; exact (Below.heap_alloc _ _ _ (by first | (simp; done) | (simp; omega) | omega)).trans (World.alloc_heap_new _ _)
  have gq : W0.heap[w.heap.size + 1]? = some (.cells #[.int .i64 0, .int .i64 0] 64 (0, 0)) := by
    rw [← hW0]; exact (congrArg _ (by simp)).trans (World.alloc_heap_new _ _)
  have gs : W0.heap.size = w.heap.size + 1 + 1 := by rw [← hW0]; simp
  have gB : Below w.heap.size w W0 := by rw [← hW0]; (repeat' first | exact zbR _ _ | assumption | refine zbD ?_ | refine zbA ?_ ?_ _ | refine zbS ?_ ?_ _ | refine zbT ?_ (by assumption) ?_ | (simp; done) | (simp; omega) | omega)
  rw [hW0]
  clear hW0
  obtain ⟨p, hp⟩ : ∃ p, w.heap.size = p := ⟨_, rfl⟩
  obtain ⟨q, hq⟩ : ∃ q, w.heap.size + 1 = q := ⟨_, rfl⟩
  rw [hq, hp]
  rw [hp] at gp
  rw [hq] at gq
  have lp : p < W0.heap.size := by omega
  have lq : q < W0.heap.size := by omega
  have hpq : p ≠ q := by omega
  have hwp : w.heap.size = p := hp
  have hwq : w.heap.size ≤ q := by omega
  have HR0 := hide (HR.out.below gB)
  have GB := hide gB
  have GP := hide gp
  have GQ := hide gq
  have cp0 := (blk_cell gp 0).trans rfl; have cp1 := (blk_cell gp 1).trans rfl
  have cq0 := (blk_cell gq 0).trans rfl; have cq1 := (blk_cell gq 1).trans rfl
  have fq0 := blk_frozen gq 0; have fq1 := blk_frozen gq 1
  clear gp gq gB HR hp hq gs
  go_wp2_with (go_at_call 61; refine (within_any _ _ _ _).mono ?_; rintro e w4 ⟨rfl, rfl⟩; first | rw [X1] | rw [X2])
  refine bodyPost_ret (v := .tuple #[.slice none 0 0, .agg #[.int .i64 0, .int .i64 0], .int .i64 23]) (Run_results (blk_set (blk_set GQ.out 0 (.int .i64 0)) 1 (.int .i64 0)) rfl rfl rfl rfl) rfl ?_
  exact run_bad HBAD.out (zbS (zbS GB.out hwq _) hwq _)

set_option maxRecDepth 100000 in
set_option maxHeartbeats 6400000 in
theorem Run_yes (each more : Int) (l : List L.Ap) (A : Option Addr) (n c : Nat) (w : World) (hn : l.length = n) (hr : RdA w w.heap.size A l) (X1 : L.within each 0 9 = true) (X2 : L.within more 0 9 = true) (X3 : n ≤ 30) :
    Calls Try.prog 33 #[.agg #[.int .i64 each, .int .i64 more], .slice A n c] w fun e w' => RunPost each more l w e w' := by
  have HN := hide hn
  have HR := hide hr
  have HRO := hide (show L.ruleOk each more l.length = true by unfold L.ruleOk; rw [X1, X2, hn, decide_eq_true X3]; rfl)
  have X3' : (n : Int) ≤ 30 := by omega
  have hx1 := X1
  have hx2 := X2
  simp only [L.within, Bool.and_eq_true, decide_eq_true_eq] at hx1 hx2
  obtain ⟨e0, e9⟩ := hx1
  obtain ⟨o0, o9⟩ := hx2
  clear hn hr
  go_enter Try.func33, Try.ntmps33
  go_upto_region 1 with fail
  obtain ⟨W0, hW0⟩ : ∃ W0, (w.alloc (.cells #[.int .i64 each, .int .i64 more] 62)).alloc (.cells #[.int .i64 0, .int .i64 0] 64) = W0 := ⟨_, rfl⟩
  have gp : W0.heap[w.heap.size]? = some (.cells #[.int .i64 each, .int .i64 more] 62 (0, 0)) := by
    rw [← hW0]; exact (Below.heap_alloc _ _ _ (by first | (simp; done) | (simp; omega) | omega)).trans (World.alloc_heap_new _ _)
  have gq : W0.heap[w.heap.size + 1]? = some (.cells #[.int .i64 0, .int .i64 0] 64 (0, 0)) := by
    rw [← hW0]; exact (congrArg _ (by simp)).trans (World.alloc_heap_new _ _)
  have gs : W0.heap.size = w.heap.size + 1 + 1 := by rw [← hW0]; simp
  have gB : Below w.heap.size w W0 := by rw [← hW0]; (repeat' first | exact zbR _ _ | assumption | refine zbD ?_ | refine zbA ?_ ?_ _ | refine zbS ?_ ?_ _ | refine zbT ?_ (by assumption) ?_ | (simp; done) | (simp; omega) | omega)
  rw [hW0]
  clear hW0
  obtain ⟨p, hp⟩ : ∃ p, w.heap.size = p := ⟨_, rfl⟩
  obtain ⟨q, hq⟩ : ∃ q, w.heap.size + 1 = q := ⟨_, rfl⟩
  rw [hq, hp]
  rw [hp] at gp
  rw [hq] at gq
  have lp : p < W0.heap.size := by omega
  have lq : q < W0.heap.size := by omega
  have hpq : p ≠ q := by omega
  have hwp : w.heap.size = p := hp
  have hwq : w.heap.size ≤ q := by omega
  have HR0 := hide (HR.out.below gB)
  have GB := hide gB
  have GP := hide gp
  have GQ := hide gq
  have cp0 := (blk_cell gp 0).trans rfl; have cp1 := (blk_cell gp 1).trans rfl
  have cq0 := (blk_cell gq 0).trans rfl; have cq1 := (blk_cell gq 1).trans rfl
  have fq0 := blk_frozen gq 0; have fq1 := blk_frozen gq 1
  clear gp gq gB HR hp hq gs
  go_upto_region 4 with (go_at_call 61; refine (within_any _ _ _ _).mono ?_; rintro e w4 ⟨rfl, rfl⟩; first | rw [X1] | rw [X2])
  clear X1 X2 cp0 cp1 cq0 cq1 fq0 fq1
  go_loopw [4, 30] (fun m t wr => ∃ i : Nat, i ≤ n ∧ t = .int .i64 i ∧ (∃ s : L.Rs, Hid (L.runFrom each more L.rs0 (l.take i) = s) ∧ Hid (s.bad = false) ∧ Hid (L.RsBd s i) ∧ s.ds.length ≤ i ∧ (∃ sv c', m = .slice sv s.ds.length c' ∧ Hid (wr.ownsRow W0.heap.size 3 1 (.slice sv s.ds.length c') s.ds.length (flatI s.ds))) ∧ Hid (wr.heap[q]? = some (.cells #[.int .i64 s.l0, .int .i64 s.l1] 64 (0, 0)))) ∧ Keeps (fun y => y ≠ q) W0 wr) (fun _ t _ => n - (intOf t).toNat)
  case atStart => exact ⟨0, by omega, rfl, ⟨L.rs0, hide rfl, hide rfl, hide ⟨by decide, by decide, by decide, by decide⟩, by decide, ⟨none, 0, rfl, hide (World.ownsRow_nil _ _ _ _)⟩, GQ⟩, Keeps.refl _ _⟩
  case round =>
    obtain ⟨i, hi, rfl, ⟨s, HS, HSB, HBD, hsl, ⟨sv, c', rfl, hown⟩, HQ⟩, hK⟩ := hrel
    have qK := hK.rest.size
    have lpr : p < wr.heap.size := by omega
    have lqr : q < wr.heap.size := by omega
    have hi0 : (0 : Int) ≤ (i : Int) := by omega
    have HW := hide (hK.below (n := w.heap.size) (fun y hy => by show y ≠ q; omega) (by omega))
    have GBr := hide (GB.out.trans HW.out)
    obtain ⟨a0, a1, b0, b1⟩ := HBD.out
    by_cases hlt : i < n
    · obtain ⟨a, ha⟩ : ∃ a, l[i]? = some a := ⟨_, List.getElem?_eq_getElem (by have := HN.out; omega)⟩
      obtain ⟨b, o, hA, hbB, hat⟩ := (HR0.out.below HW.out) i a ha
      subst hA
      have HNX := hide (show L.runFrom each more L.rs0 (l.take (i + 1)) = L.stepR each more s a by rw [L.runFrom_take ha (by rw [HS.out]; exact HSB.out), HS.out])
      have HNB := hide (L.stepR_bd (a := a) HBD.out e0 e9 o0 o9)
      have HBADX := hide (show (L.stepR each more s a).bad = true → L.runBad each more l = true from fun h => by
        unfold L.runBad L.runR
        rw [L.runFrom_stay (i := i + 1) (by rw [HNX.out]; exact h), Bool.or_true])
      have hlt' : (i : Int) < (n : Int) := by omega
      obtain ⟨c0, c1, c2, c3, c4, c5, c6, c7, c8, c9, c10, c11, c12, c13, hlen, hrd, hnil⟩ := hat
      have HLEN := hide hlen
      have HRD := hide (hrd.mono (B' := wr.heap.size) (by omega))
      clear ha hlen hrd hnil
      go_upto_region 6 with fail
      obtain ⟨W1, hW1⟩ : ∃ W1, wr.alloc (.cells #[.int .i64 a.kind, .int .i64 a.side, .int .i64 a.said, .int .i64 a.v.size, .slice a.A a.n a.c, .int .i64 a.v.wrong, .int .i64 a.v.hxl, .int .i64 a.v.hxh, .int .i64 a.v.hyl, .int .i64 a.v.hyh, .int .i64 a.b.l, .int .i64 a.b.r, .int .i64 a.b.b, .int .i64 a.b.t] 66) = W1 := ⟨_, rfl⟩
      have gk : W1.heap[wr.heap.size]? = some (.cells #[.int .i64 a.kind, .int .i64 a.side, .int .i64 a.said, .int .i64 a.v.size, .slice a.A a.n a.c, .int .i64 a.v.wrong, .int .i64 a.v.hxl, .int .i64 a.v.hxh, .int .i64 a.v.hyl, .int .i64 a.v.hyh, .int .i64 a.b.l, .int .i64 a.b.r, .int .i64 a.b.b, .int .i64 a.b.t] 66 (0, 0)) := by rw [← hW1]; exact World.alloc_heap_new _ _
      have gq : W1.heap[q]? = some (.cells #[.int .i64 s.l0, .int .i64 s.l1] 64 (0, 0)) := by rw [← hW1]; exact (Below.heap_alloc _ _ _ lqr).trans HQ.out
      have gp : W1.heap[p]? = some (.cells #[.int .i64 each, .int .i64 more] 62 (0, 0)) := by rw [← hW1]; exact (Below.heap_alloc _ _ _ lpr).trans ((hK.same p hpq lp).trans GP.out)
      have gs : W1.heap.size = wr.heap.size + 1 := by rw [← hW1]; simp
      have gK : Keeps (fun y => y ≠ q) W0 W1 := by rw [← hW1]; exact hK.alloc _
      have gO : W1.ownsRow W0.heap.size 3 1 (.slice sv s.ds.length c') s.ds.length (flatI s.ds) := by rw [← hW1]; exact hown.out.alloc _
      have gB : Below wr.heap.size wr W1 := by rw [← hW1]; (repeat' first | exact zbR _ _ | assumption | refine zbD ?_ | refine zbA ?_ ?_ _ | refine zbS ?_ ?_ _ | refine zbT ?_ (by assumption) ?_ | (simp; done) | (simp; omega) | omega)
      rw [hW1]
      clear hW1 c0 c1 c2 c3 c4 c5 c6 c7 c8 c9 c10 c11 c12 c13
      obtain ⟨k, hk⟩ : ∃ k, wr.heap.size = k := ⟨_, rfl⟩
      have hOlt : ∀ g, (Value.slice sv s.ds.length c').ownBlock = some g → W0.heap.size ≤ g ∧ g < k := fun g hg => by rw [← hk]; exact hown.out.lt g hg
      rw [hk] at gk gs ⊢
      have lk : k < W1.heap.size := by omega
      have lq1 : q < W1.heap.size := by omega
      have lp1 : p < W1.heap.size := by omega
      have hkq : k ≠ q := by omega
      have HRD1 := hide ((HRD.out.below gB).mono gB.size)
      have GB1 := hide (GBr.out.trans (gB.mono GBr.out.size))
      have HOW := hide gO
      have GK := hide gK
      have w01 : W0.heap.size ≤ W1.heap.size := gK.rest.size
      have GQ1 := hide gq
      have GKB := hide gk
      have HOL := hide hOlt
      have ck0 := (blk_cell gk 0).trans rfl; have ck1 := (blk_cell gk 1).trans rfl; have ck2 := (blk_cell gk 2).trans rfl; have ck3 := (blk_cell gk 3).trans rfl; have ck4 := (blk_cell gk 4).trans rfl; have ck5 := (blk_cell gk 5).trans rfl; have ck6 := (blk_cell gk 6).trans rfl; have ck7 := (blk_cell gk 7).trans rfl; have ck8 := (blk_cell gk 8).trans rfl; have ck9 := (blk_cell gk 9).trans rfl; have ck10 := (blk_cell gk 10).trans rfl; have ck11 := (blk_cell gk 11).trans rfl; have ck12 := (blk_cell gk 12).trans rfl; have ck13 := (blk_cell gk 13).trans rfl
      have cq0 := (blk_cell gq 0).trans rfl; have cq1 := (blk_cell gq 1).trans rfl
      have cp0 := (blk_cell gp 0).trans rfl; have cp1 := (blk_cell gp 1).trans rfl
      have fq0 := blk_frozen gq 0; have fq1 := blk_frozen gq 1
      have l0q : (0 : Nat) < 2 := by omega
      clear gk gq gp gK gO gB hown HQ hK hk HRD HW GBr qK hOlt lpr lqr hbB gs
      by_cases hk1 : a.kind = 1
      · have d1 : (a.kind == 1) = true := by rw [hk1]; rfl
        have d2 : (a.kind == 2) = false := by rw [hk1]; rfl
        have d3 : (a.kind == 3) = false := by rw [hk1]; rfl
        have HE := hide (show L.stepR each more s a = { s with l0 := each, l1 := each } by unfold L.stepR; rw [if_pos hk1])
        clear hk1 HBADX
        go_wp2_with fail
        go_roundw
        case rel => exact ⟨i + 1, by omega, by go_num, ⟨_, HNX, hide (by rw [HE.out]; exact HSB.out), HNB, by rw [HE.out]; show s.ds.length ≤ i + 1; omega, ⟨sv, c', by rw [HE.out], hide (by rw [HE.out]; exact ownsRow_setCell_below (ownsRow_setCell_below HOW.out lq _) lq _)⟩, hide (by rw [HE.out]; exact blk_set (blk_set GQ1.out 0 _) 1 _)⟩, (GK.out.st (fun h => h rfl)).st (fun h => h rfl)⟩
        case measure => simp [intOf]; omega
      · by_cases hk2 : a.kind = 2
        · have d1 : (a.kind == 1) = false := by rw [hk2]; rfl
          have d2 : (a.kind == 2) = true := by rw [hk2]; rfl
          have d3 : (a.kind == 3) = false := by rw [hk2]; rfl
          have HE := hide (show L.stepR each more s a = { s with l0 := s.l0 + more, l1 := s.l1 + more } by unfold L.stepR; rw [if_neg hk1, if_pos hk2])
          clear hk1 hk2 HBADX
          go_wp2_with fail
          go_roundw
          case rel => exact ⟨i + 1, by omega, by go_num, ⟨_, HNX, hide (by rw [HE.out]; exact HSB.out), HNB, by rw [HE.out]; show s.ds.length ≤ i + 1; omega, ⟨sv, c', by rw [HE.out], hide (by rw [HE.out]; exact ownsRow_setCell_below (ownsRow_setCell_below HOW.out lq _) lq _)⟩, hide (by rw [HE.out]; exact blk_set (blk_set GQ1.out 0 _) 1 _)⟩, (GK.out.st (fun h => h rfl)).st (fun h => h rfl)⟩
          case measure => simp [intOf]; omega
        · by_cases hk3 : a.kind = 3
          · have d1 : (a.kind == 1) = false := by rw [hk3]; rfl
            have d2 : (a.kind == 2) = false := by rw [hk3]; rfl
            have d3 : (a.kind == 3) = true := by rw [hk3]; rfl
            obtain ⟨dv, hdv⟩ : ∃ dv, L.decV a.said a.v a.b = dv := ⟨_, rfl⟩
            obtain ⟨dk, hdk⟩ : ∃ dk, L.decK a.said a.v a.b = dk := ⟨_, rfl⟩
            obtain ⟨de, hde⟩ : ∃ de, L.decE a.said a.v a.b = de := ⟨_, rfl⟩
            have HDV := hide hdv
            have HDK := hide hdk
            have HDE := hide hde
            have HE3 := hide (show L.stepR each more s a = if L.askOk a s then { s with ds := s.ds ++ [dv], l0 := if a.side = 0 ∧ dk = false then s.l0 - 1 else s.l0, l1 := if a.side = 1 ∧ dk = false then s.l1 - 1 else s.l1 } else { s with bad := true } by unfold L.stepR; rw [if_neg hk1, if_neg hk2, if_pos hk3, hdv, hdk])
            have HAO := hide (show L.askOk a s = (decide (de = 0) && L.within a.side 0 1 && !(s.left a.side == 0)) by unfold L.askOk; rw [hde])
            clear hk1 hk2 hk3 hdv hdk hde
            by_cases hs0 : a.side = 0
            · have SW : L.within a.side 0 1 = true := by rw [hs0]; rfl
              have SL : s.left a.side = s.l0 := by unfold L.Rs.left; rw [hs0]; rfl
              rw [hs0] at ck1
              by_cases hd : de = 0
              · by_cases hl : s.l0 = 0
                · have HE := hide (show (L.stepR each more s a).bad = true by rw [HE3.out, HAO.out, SW, SL, hl]; simp)
                  have dl : (s.l0 == 0) = true := by rw [hl]; rfl
                  subst hd
                  clear SL hl
                  go_wp2_with (first | (go_at_call 32; refine (Decide_any a.said a.v a.A a.n a.c a.b _ HLEN.out ((HRD1.out.below (by (repeat' first | exact zbR _ _ | assumption | refine zbD ?_ | refine zbA ?_ ?_ _ | refine zbS ?_ ?_ _ | refine zbT ?_ (by assumption) ?_ | (simp; done) | (simp; omega) | omega))).mono (by first | (simp; done) | (simp; omega) | omega))).mono ?_; rintro e w3 ⟨rfl, hb3⟩; rw [HDE.out, HDV.out, HDK.out]; obtain ⟨hc3, hf3⟩ := bcell hb3; have q3 := hb3.size; have z3k : k < w3.heap.size := (by omega); have z3q : q < w3.heap.size := (by omega); have z3p : p < w3.heap.size := (by omega); have c3q0 : w3.cell? ⟨q, 0, none⟩ = some (.int .i64 s.l0) := (hb3.cell (p := ⟨q, 0, none⟩) lq1).trans cq0; have c3q1 : w3.cell? ⟨q, 1, none⟩ = some (.int .i64 s.l1) := (hb3.cell (p := ⟨q, 1, none⟩) lq1).trans cq1; have c3k1 := (hb3.cell (p := ⟨k, 1, none⟩) lk).trans ck1) | (go_at_call 61; refine (within_any _ _ _ _).mono ?_; rintro e w4 ⟨rfl, rfl⟩; rw [hs0] at SW; rw [SW]))
                  refine bodyPost_ret (v := .tuple #[.slice none 0 0, .agg #[.int .i64 0, .int .i64 0], .int .i64 23]) (Run_results (blk_set (blk_set ((hb3.block q lq1).trans GQ1.out) 0 (.int .i64 0)) 1 (.int .i64 0)) rfl rfl rfl rfl) rfl ?_
                  exact run_bad (HBADX.out HE.out) (zbS (zbS (GB1.out.trans (hb3.mono (by have := GB1.out.size; omega))) hwq _) hwq _)
                · have HOKA : L.askOk a s = true := by rw [HAO.out, SW, SL, hd]; simp [hl]
                  have dl : (s.l0 == 0) = false := by simpa using hl
                  subst hd
                  cases hdk : dk
                  · have HE := hide (show L.stepR each more s a = { s with ds := s.ds ++ [dv], l0 := s.l0 - 1 } by rw [HE3.out, HOKA, hdk, hs0]; rfl)
                    have HL := hide (show (s.ds ++ [dv]).length = s.ds.length + 1 by simp)
                    subst hdk
                    clear SL hl HOKA HE3 HAO HBADX
                    go_wp2_with (first | (go_at_call 32; refine (Decide_any a.said a.v a.A a.n a.c a.b _ HLEN.out ((HRD1.out.below (by (repeat' first | exact zbR _ _ | assumption | refine zbD ?_ | refine zbA ?_ ?_ _ | refine zbS ?_ ?_ _ | refine zbT ?_ (by assumption) ?_ | (simp; done) | (simp; omega) | omega))).mono (by first | (simp; done) | (simp; omega) | omega))).mono ?_; rintro e w3 ⟨rfl, hb3⟩; rw [HDE.out, HDV.out, HDK.out]; obtain ⟨hc3, hf3⟩ := bcell hb3; have q3 := hb3.size; have z3k : k < w3.heap.size := (by omega); have z3q : q < w3.heap.size := (by omega); have z3p : p < w3.heap.size := (by omega); have c3q0 : w3.cell? ⟨q, 0, none⟩ = some (.int .i64 s.l0) := (hb3.cell (p := ⟨q, 0, none⟩) lq1).trans cq0; have c3q1 : w3.cell? ⟨q, 1, none⟩ = some (.int .i64 s.l1) := (hb3.cell (p := ⟨q, 1, none⟩) lq1).trans cq1; have c3k1 := (hb3.cell (p := ⟨k, 1, none⟩) lk).trans ck1) | (go_at_call 61; refine (within_any _ _ _ _).mono ?_; rintro e w4 ⟨rfl, rfl⟩; rw [hs0] at SW; rw [SW]) | (refine wpList_app_at rfl (.tmp 86) (.tmp 88) rfl W0.heap.size _ s.ds _ rfl ((owns_below HOW.out (hb3.mono (by omega))).alloc _) (some ⟨_, 0, none⟩) 1 1 [dv] rfl rfl (rdI_one (World.alloc_heap_new _ _)) (fun e => by cases e) (by omega) (by omega) (by simp; omega) ?_; intro A2 c2 w7 hown2 hgrow; have HO2 := hide hown2; have ck71 := (hgrow.cell_far ⟨k, 1, none⟩ (by simp; omega) (by intro e; have := HOL.out k e.symm; omega)).trans ((zcP _ _ _ z3k).trans ((hb3.cell (p := ⟨k, 1, none⟩) lk).trans ck1)); have gq7 := (hgrow.block q (by simp; omega) (by intro e; have := HOL.out q e.symm; omega)).trans ((Below.heap_alloc _ _ _ z3q).trans ((hb3.block q lq1).trans GQ1.out)); have GQ7 := hide gq7; have cq70 := (blk_cell gq7 0).trans rfl; have cq71 := (blk_cell gq7 1).trans rfl; have fq70 := blk_frozen gq7 0; have fq71 := blk_frozen gq7 1; have z7 := hgrow.size; (try simp at z7); have z7k : k < w7.heap.size := (by omega); have z7q : q < w7.heap.size := (by omega); have hg7 := grown_below (B := W0.heap.size) hgrow (by simp; omega) (fun g hg => (HOL.out g hg).1); have GK7 := hide (((GK.out.trans (Keeps.of_below hb3)).alloc _).then_below hg7); clear hown2 hgrow gq7))
                    go_roundw
                    case rel => exact ⟨i + 1, by omega, by go_num, ⟨_, HNX, hide (by rw [HE.out]; exact HSB.out), HNB, by rw [HE.out]; show (s.ds ++ [dv]).length ≤ i + 1; have := HL.out; omega, ⟨A2, c2, by rw [HE.out, ← HL.out], hide (by rw [HE.out]; show World.ownsRow _ _ _ _ (.slice A2 (s.ds ++ [dv]).length c2) (s.ds ++ [dv]).length _; rw [HL.out]; exact ownsRow_setCell_below HO2.out lq _)⟩, hide (by rw [HE.out]; exact blk_set GQ7.out 0 _)⟩, GK7.out.st (fun h => h rfl)⟩
                    case measure => simp [intOf]; omega
                  · have HE := hide (show L.stepR each more s a = { s with ds := s.ds ++ [dv] } by rw [HE3.out, HOKA, hdk]; simp)
                    have HL := hide (show (s.ds ++ [dv]).length = s.ds.length + 1 by simp)
                    subst hdk
                    clear SL hl HOKA HE3 HAO HBADX
                    go_wp2_with (first | (go_at_call 32; refine (Decide_any a.said a.v a.A a.n a.c a.b _ HLEN.out ((HRD1.out.below (by (repeat' first | exact zbR _ _ | assumption | refine zbD ?_ | refine zbA ?_ ?_ _ | refine zbS ?_ ?_ _ | refine zbT ?_ (by assumption) ?_ | (simp; done) | (simp; omega) | omega))).mono (by first | (simp; done) | (simp; omega) | omega))).mono ?_; rintro e w3 ⟨rfl, hb3⟩; rw [HDE.out, HDV.out, HDK.out]; obtain ⟨hc3, hf3⟩ := bcell hb3; have q3 := hb3.size; have z3k : k < w3.heap.size := (by omega); have z3q : q < w3.heap.size := (by omega); have z3p : p < w3.heap.size := (by omega); have c3q0 : w3.cell? ⟨q, 0, none⟩ = some (.int .i64 s.l0) := (hb3.cell (p := ⟨q, 0, none⟩) lq1).trans cq0; have c3q1 : w3.cell? ⟨q, 1, none⟩ = some (.int .i64 s.l1) := (hb3.cell (p := ⟨q, 1, none⟩) lq1).trans cq1; have c3k1 := (hb3.cell (p := ⟨k, 1, none⟩) lk).trans ck1) | (go_at_call 61; refine (within_any _ _ _ _).mono ?_; rintro e w4 ⟨rfl, rfl⟩; rw [hs0] at SW; rw [SW]) | (refine wpList_app_at rfl (.tmp 86) (.tmp 88) rfl W0.heap.size _ s.ds _ rfl ((owns_below HOW.out (hb3.mono (by omega))).alloc _) (some ⟨_, 0, none⟩) 1 1 [dv] rfl rfl (rdI_one (World.alloc_heap_new _ _)) (fun e => by cases e) (by omega) (by omega) (by simp; omega) ?_; intro A2 c2 w7 hown2 hgrow; have HO2 := hide hown2; have ck71 := (hgrow.cell_far ⟨k, 1, none⟩ (by simp; omega) (by intro e; have := HOL.out k e.symm; omega)).trans ((zcP _ _ _ z3k).trans ((hb3.cell (p := ⟨k, 1, none⟩) lk).trans ck1)); have gq7 := (hgrow.block q (by simp; omega) (by intro e; have := HOL.out q e.symm; omega)).trans ((Below.heap_alloc _ _ _ z3q).trans ((hb3.block q lq1).trans GQ1.out)); have GQ7 := hide gq7; have cq70 := (blk_cell gq7 0).trans rfl; have cq71 := (blk_cell gq7 1).trans rfl; have fq70 := blk_frozen gq7 0; have fq71 := blk_frozen gq7 1; have z7 := hgrow.size; (try simp at z7); have z7k : k < w7.heap.size := (by omega); have z7q : q < w7.heap.size := (by omega); have hg7 := grown_below (B := W0.heap.size) hgrow (by simp; omega) (fun g hg => (HOL.out g hg).1); have GK7 := hide (((GK.out.trans (Keeps.of_below hb3)).alloc _).then_below hg7); clear hown2 hgrow gq7))
                    go_roundw
                    case rel => exact ⟨i + 1, by omega, by go_num, ⟨_, HNX, hide (by rw [HE.out]; exact HSB.out), HNB, by rw [HE.out]; show (s.ds ++ [dv]).length ≤ i + 1; have := HL.out; omega, ⟨A2, c2, by rw [HE.out, ← HL.out], hide (by rw [HE.out]; show World.ownsRow _ _ _ _ (.slice A2 (s.ds ++ [dv]).length c2) (s.ds ++ [dv]).length _; rw [HL.out]; exact HO2.out)⟩, hide (by rw [HE.out]; exact GQ7.out)⟩, GK7.out⟩
                    case measure => simp [intOf]; omega
              · have HE := hide (show (L.stepR each more s a).bad = true by rw [HE3.out, HAO.out, decide_eq_false hd]; rfl)
                have dd : (de == 0) = false := by simpa using hd
                have dd' : (de != 0) = true := by simpa using hd
                clear SL hd
                go_wp2_with (first | (go_at_call 32; refine (Decide_any a.said a.v a.A a.n a.c a.b _ HLEN.out ((HRD1.out.below (by (repeat' first | exact zbR _ _ | assumption | refine zbD ?_ | refine zbA ?_ ?_ _ | refine zbS ?_ ?_ _ | refine zbT ?_ (by assumption) ?_ | (simp; done) | (simp; omega) | omega))).mono (by first | (simp; done) | (simp; omega) | omega))).mono ?_; rintro e w3 ⟨rfl, hb3⟩; rw [HDE.out, HDV.out, HDK.out]; obtain ⟨hc3, hf3⟩ := bcell hb3; have q3 := hb3.size; have z3k : k < w3.heap.size := (by omega); have z3q : q < w3.heap.size := (by omega); have z3p : p < w3.heap.size := (by omega); have c3q0 : w3.cell? ⟨q, 0, none⟩ = some (.int .i64 s.l0) := (hb3.cell (p := ⟨q, 0, none⟩) lq1).trans cq0; have c3q1 : w3.cell? ⟨q, 1, none⟩ = some (.int .i64 s.l1) := (hb3.cell (p := ⟨q, 1, none⟩) lq1).trans cq1; have c3k1 := (hb3.cell (p := ⟨k, 1, none⟩) lk).trans ck1) | (go_at_call 61; refine (within_any _ _ _ _).mono ?_; rintro e w4 ⟨rfl, rfl⟩; rw [hs0] at SW; rw [SW]))
                refine bodyPost_ret (v := .tuple #[.slice none 0 0, .agg #[.int .i64 0, .int .i64 0], .int .i64 23]) (Run_results (blk_set (blk_set ((hb3.block q lq1).trans GQ1.out) 0 (.int .i64 0)) 1 (.int .i64 0)) rfl rfl rfl rfl) rfl ?_
                exact run_bad (HBADX.out HE.out) (zbS (zbS (GB1.out.trans (hb3.mono (by have := GB1.out.size; omega))) hwq _) hwq _)
            · by_cases hs1 : a.side = 1
              · have SW : L.within a.side 0 1 = true := by rw [hs1]; rfl
                have SL : s.left a.side = s.l1 := by unfold L.Rs.left; rw [hs1]; rfl
                rw [hs1] at ck1
                by_cases hd : de = 0
                · by_cases hl : s.l1 = 0
                  · have HE := hide (show (L.stepR each more s a).bad = true by rw [HE3.out, HAO.out, SW, SL, hl]; simp)
                    have dl : (s.l1 == 0) = true := by rw [hl]; rfl
                    subst hd
                    clear SL hl
                    go_wp2_with (first | (go_at_call 32; refine (Decide_any a.said a.v a.A a.n a.c a.b _ HLEN.out ((HRD1.out.below (by (repeat' first | exact zbR _ _ | assumption | refine zbD ?_ | refine zbA ?_ ?_ _ | refine zbS ?_ ?_ _ | refine zbT ?_ (by assumption) ?_ | (simp; done) | (simp; omega) | omega))).mono (by first | (simp; done) | (simp; omega) | omega))).mono ?_; rintro e w3 ⟨rfl, hb3⟩; rw [HDE.out, HDV.out, HDK.out]; obtain ⟨hc3, hf3⟩ := bcell hb3; have q3 := hb3.size; have z3k : k < w3.heap.size := (by omega); have z3q : q < w3.heap.size := (by omega); have z3p : p < w3.heap.size := (by omega); have c3q0 : w3.cell? ⟨q, 0, none⟩ = some (.int .i64 s.l0) := (hb3.cell (p := ⟨q, 0, none⟩) lq1).trans cq0; have c3q1 : w3.cell? ⟨q, 1, none⟩ = some (.int .i64 s.l1) := (hb3.cell (p := ⟨q, 1, none⟩) lq1).trans cq1; have c3k1 := (hb3.cell (p := ⟨k, 1, none⟩) lk).trans ck1) | (go_at_call 61; refine (within_any _ _ _ _).mono ?_; rintro e w4 ⟨rfl, rfl⟩; rw [hs1] at SW; rw [SW]))
                    refine bodyPost_ret (v := .tuple #[.slice none 0 0, .agg #[.int .i64 0, .int .i64 0], .int .i64 23]) (Run_results (blk_set (blk_set ((hb3.block q lq1).trans GQ1.out) 0 (.int .i64 0)) 1 (.int .i64 0)) rfl rfl rfl rfl) rfl ?_
                    exact run_bad (HBADX.out HE.out) (zbS (zbS (GB1.out.trans (hb3.mono (by have := GB1.out.size; omega))) hwq _) hwq _)
                  · have HOKA : L.askOk a s = true := by rw [HAO.out, SW, SL, hd]; simp [hl]
                    have dl : (s.l1 == 0) = false := by simpa using hl
                    subst hd
                    cases hdk : dk
                    · have HE := hide (show L.stepR each more s a = { s with ds := s.ds ++ [dv], l1 := s.l1 - 1 } by rw [HE3.out, HOKA, hdk, hs1]; rfl)
                      have HL := hide (show (s.ds ++ [dv]).length = s.ds.length + 1 by simp)
                      subst hdk
                      clear SL hl HOKA HE3 HAO HBADX
                      go_wp2_with (first | (go_at_call 32; refine (Decide_any a.said a.v a.A a.n a.c a.b _ HLEN.out ((HRD1.out.below (by (repeat' first | exact zbR _ _ | assumption | refine zbD ?_ | refine zbA ?_ ?_ _ | refine zbS ?_ ?_ _ | refine zbT ?_ (by assumption) ?_ | (simp; done) | (simp; omega) | omega))).mono (by first | (simp; done) | (simp; omega) | omega))).mono ?_; rintro e w3 ⟨rfl, hb3⟩; rw [HDE.out, HDV.out, HDK.out]; obtain ⟨hc3, hf3⟩ := bcell hb3; have q3 := hb3.size; have z3k : k < w3.heap.size := (by omega); have z3q : q < w3.heap.size := (by omega); have z3p : p < w3.heap.size := (by omega); have c3q0 : w3.cell? ⟨q, 0, none⟩ = some (.int .i64 s.l0) := (hb3.cell (p := ⟨q, 0, none⟩) lq1).trans cq0; have c3q1 : w3.cell? ⟨q, 1, none⟩ = some (.int .i64 s.l1) := (hb3.cell (p := ⟨q, 1, none⟩) lq1).trans cq1; have c3k1 := (hb3.cell (p := ⟨k, 1, none⟩) lk).trans ck1) | (go_at_call 61; refine (within_any _ _ _ _).mono ?_; rintro e w4 ⟨rfl, rfl⟩; rw [hs1] at SW; rw [SW]) | (refine wpList_app_at rfl (.tmp 86) (.tmp 88) rfl W0.heap.size _ s.ds _ rfl ((owns_below HOW.out (hb3.mono (by omega))).alloc _) (some ⟨_, 0, none⟩) 1 1 [dv] rfl rfl (rdI_one (World.alloc_heap_new _ _)) (fun e => by cases e) (by omega) (by omega) (by simp; omega) ?_; intro A2 c2 w7 hown2 hgrow; have HO2 := hide hown2; have ck71 := (hgrow.cell_far ⟨k, 1, none⟩ (by simp; omega) (by intro e; have := HOL.out k e.symm; omega)).trans ((zcP _ _ _ z3k).trans ((hb3.cell (p := ⟨k, 1, none⟩) lk).trans ck1)); have gq7 := (hgrow.block q (by simp; omega) (by intro e; have := HOL.out q e.symm; omega)).trans ((Below.heap_alloc _ _ _ z3q).trans ((hb3.block q lq1).trans GQ1.out)); have GQ7 := hide gq7; have cq70 := (blk_cell gq7 0).trans rfl; have cq71 := (blk_cell gq7 1).trans rfl; have fq70 := blk_frozen gq7 0; have fq71 := blk_frozen gq7 1; have z7 := hgrow.size; (try simp at z7); have z7k : k < w7.heap.size := (by omega); have z7q : q < w7.heap.size := (by omega); have hg7 := grown_below (B := W0.heap.size) hgrow (by simp; omega) (fun g hg => (HOL.out g hg).1); have GK7 := hide (((GK.out.trans (Keeps.of_below hb3)).alloc _).then_below hg7); clear hown2 hgrow gq7))
                      go_roundw
                      case rel => exact ⟨i + 1, by omega, by go_num, ⟨_, HNX, hide (by rw [HE.out]; exact HSB.out), HNB, by rw [HE.out]; show (s.ds ++ [dv]).length ≤ i + 1; have := HL.out; omega, ⟨A2, c2, by rw [HE.out, ← HL.out], hide (by rw [HE.out]; show World.ownsRow _ _ _ _ (.slice A2 (s.ds ++ [dv]).length c2) (s.ds ++ [dv]).length _; rw [HL.out]; exact ownsRow_setCell_below HO2.out lq _)⟩, hide (by rw [HE.out]; exact blk_set GQ7.out 1 _)⟩, GK7.out.st (fun h => h rfl)⟩
                      case measure => simp [intOf]; omega
                    · have HE := hide (show L.stepR each more s a = { s with ds := s.ds ++ [dv] } by rw [HE3.out, HOKA, hdk]; simp)
                      have HL := hide (show (s.ds ++ [dv]).length = s.ds.length + 1 by simp)
                      subst hdk
                      clear SL hl HOKA HE3 HAO HBADX
                      go_wp2_with (first | (go_at_call 32; refine (Decide_any a.said a.v a.A a.n a.c a.b _ HLEN.out ((HRD1.out.below (by (repeat' first | exact zbR _ _ | assumption | refine zbD ?_ | refine zbA ?_ ?_ _ | refine zbS ?_ ?_ _ | refine zbT ?_ (by assumption) ?_ | (simp; done) | (simp; omega) | omega))).mono (by first | (simp; done) | (simp; omega) | omega))).mono ?_; rintro e w3 ⟨rfl, hb3⟩; rw [HDE.out, HDV.out, HDK.out]; obtain ⟨hc3, hf3⟩ := bcell hb3; have q3 := hb3.size; have z3k : k < w3.heap.size := (by omega); have z3q : q < w3.heap.size := (by omega); have z3p : p < w3.heap.size := (by omega); have c3q0 : w3.cell? ⟨q, 0, none⟩ = some (.int .i64 s.l0) := (hb3.cell (p := ⟨q, 0, none⟩) lq1).trans cq0; have c3q1 : w3.cell? ⟨q, 1, none⟩ = some (.int .i64 s.l1) := (hb3.cell (p := ⟨q, 1, none⟩) lq1).trans cq1; have c3k1 := (hb3.cell (p := ⟨k, 1, none⟩) lk).trans ck1) | (go_at_call 61; refine (within_any _ _ _ _).mono ?_; rintro e w4 ⟨rfl, rfl⟩; rw [hs1] at SW; rw [SW]) | (refine wpList_app_at rfl (.tmp 86) (.tmp 88) rfl W0.heap.size _ s.ds _ rfl ((owns_below HOW.out (hb3.mono (by omega))).alloc _) (some ⟨_, 0, none⟩) 1 1 [dv] rfl rfl (rdI_one (World.alloc_heap_new _ _)) (fun e => by cases e) (by omega) (by omega) (by simp; omega) ?_; intro A2 c2 w7 hown2 hgrow; have HO2 := hide hown2; have ck71 := (hgrow.cell_far ⟨k, 1, none⟩ (by simp; omega) (by intro e; have := HOL.out k e.symm; omega)).trans ((zcP _ _ _ z3k).trans ((hb3.cell (p := ⟨k, 1, none⟩) lk).trans ck1)); have gq7 := (hgrow.block q (by simp; omega) (by intro e; have := HOL.out q e.symm; omega)).trans ((Below.heap_alloc _ _ _ z3q).trans ((hb3.block q lq1).trans GQ1.out)); have GQ7 := hide gq7; have cq70 := (blk_cell gq7 0).trans rfl; have cq71 := (blk_cell gq7 1).trans rfl; have fq70 := blk_frozen gq7 0; have fq71 := blk_frozen gq7 1; have z7 := hgrow.size; (try simp at z7); have z7k : k < w7.heap.size := (by omega); have z7q : q < w7.heap.size := (by omega); have hg7 := grown_below (B := W0.heap.size) hgrow (by simp; omega) (fun g hg => (HOL.out g hg).1); have GK7 := hide (((GK.out.trans (Keeps.of_below hb3)).alloc _).then_below hg7); clear hown2 hgrow gq7))
                      go_roundw
                      case rel => exact ⟨i + 1, by omega, by go_num, ⟨_, HNX, hide (by rw [HE.out]; exact HSB.out), HNB, by rw [HE.out]; show (s.ds ++ [dv]).length ≤ i + 1; have := HL.out; omega, ⟨A2, c2, by rw [HE.out, ← HL.out], hide (by rw [HE.out]; show World.ownsRow _ _ _ _ (.slice A2 (s.ds ++ [dv]).length c2) (s.ds ++ [dv]).length _; rw [HL.out]; exact HO2.out)⟩, hide (by rw [HE.out]; exact GQ7.out)⟩, GK7.out⟩
                      case measure => simp [intOf]; omega
                · have HE := hide (show (L.stepR each more s a).bad = true by rw [HE3.out, HAO.out, decide_eq_false hd]; rfl)
                  have dd : (de == 0) = false := by simpa using hd
                  have dd' : (de != 0) = true := by simpa using hd
                  clear SL hd
                  go_wp2_with (first | (go_at_call 32; refine (Decide_any a.said a.v a.A a.n a.c a.b _ HLEN.out ((HRD1.out.below (by (repeat' first | exact zbR _ _ | assumption | refine zbD ?_ | refine zbA ?_ ?_ _ | refine zbS ?_ ?_ _ | refine zbT ?_ (by assumption) ?_ | (simp; done) | (simp; omega) | omega))).mono (by first | (simp; done) | (simp; omega) | omega))).mono ?_; rintro e w3 ⟨rfl, hb3⟩; rw [HDE.out, HDV.out, HDK.out]; obtain ⟨hc3, hf3⟩ := bcell hb3; have q3 := hb3.size; have z3k : k < w3.heap.size := (by omega); have z3q : q < w3.heap.size := (by omega); have z3p : p < w3.heap.size := (by omega); have c3q0 : w3.cell? ⟨q, 0, none⟩ = some (.int .i64 s.l0) := (hb3.cell (p := ⟨q, 0, none⟩) lq1).trans cq0; have c3q1 : w3.cell? ⟨q, 1, none⟩ = some (.int .i64 s.l1) := (hb3.cell (p := ⟨q, 1, none⟩) lq1).trans cq1; have c3k1 := (hb3.cell (p := ⟨k, 1, none⟩) lk).trans ck1) | (go_at_call 61; refine (within_any _ _ _ _).mono ?_; rintro e w4 ⟨rfl, rfl⟩; rw [hs1] at SW; rw [SW]))
                  refine bodyPost_ret (v := .tuple #[.slice none 0 0, .agg #[.int .i64 0, .int .i64 0], .int .i64 23]) (Run_results (blk_set (blk_set ((hb3.block q lq1).trans GQ1.out) 0 (.int .i64 0)) 1 (.int .i64 0)) rfl rfl rfl rfl) rfl ?_
                  exact run_bad (HBADX.out HE.out) (zbS (zbS (GB1.out.trans (hb3.mono (by have := GB1.out.size; omega))) hwq _) hwq _)
              · have SW : L.within a.side 0 1 = false := by simp [L.within]; omega
                have s0 : (a.side == 0) = false := by simpa using hs0
                have s1 : (a.side == 1) = false := by simpa using hs1
                have s0' : (a.side != 0) = true := by simpa using hs0
                have s1' : (a.side != 1) = true := by simpa using hs1
                have HE := hide (show (L.stepR each more s a).bad = true by rw [HE3.out, HAO.out, SW]; simp)
                clear hs0 hs1
                by_cases hd : de = 0
                · subst hd
                  go_wp2_with (first | (go_at_call 32; refine (Decide_any a.said a.v a.A a.n a.c a.b _ HLEN.out ((HRD1.out.below (by (repeat' first | exact zbR _ _ | assumption | refine zbD ?_ | refine zbA ?_ ?_ _ | refine zbS ?_ ?_ _ | refine zbT ?_ (by assumption) ?_ | (simp; done) | (simp; omega) | omega))).mono (by first | (simp; done) | (simp; omega) | omega))).mono ?_; rintro e w3 ⟨rfl, hb3⟩; rw [HDE.out, HDV.out, HDK.out]; obtain ⟨hc3, hf3⟩ := bcell hb3; have q3 := hb3.size; have z3k : k < w3.heap.size := (by omega); have z3q : q < w3.heap.size := (by omega); have z3p : p < w3.heap.size := (by omega); have c3q0 : w3.cell? ⟨q, 0, none⟩ = some (.int .i64 s.l0) := (hb3.cell (p := ⟨q, 0, none⟩) lq1).trans cq0; have c3q1 : w3.cell? ⟨q, 1, none⟩ = some (.int .i64 s.l1) := (hb3.cell (p := ⟨q, 1, none⟩) lq1).trans cq1; have c3k1 := (hb3.cell (p := ⟨k, 1, none⟩) lk).trans ck1) | (go_at_call 61; refine (within_any _ _ _ _).mono ?_; rintro e w4 ⟨rfl, rfl⟩; rw [SW]))
                  refine bodyPost_ret (v := .tuple #[.slice none 0 0, .agg #[.int .i64 0, .int .i64 0], .int .i64 23]) (Run_results (blk_set (blk_set ((hb3.block q lq1).trans GQ1.out) 0 (.int .i64 0)) 1 (.int .i64 0)) rfl rfl rfl rfl) rfl ?_
                  exact run_bad (HBADX.out HE.out) (zbS (zbS (GB1.out.trans (hb3.mono (by have := GB1.out.size; omega))) hwq _) hwq _)
                · have dd : (de == 0) = false := by simpa using hd
                  have dd' : (de != 0) = true := by simpa using hd
                  clear hd
                  go_wp2_with (first | (go_at_call 32; refine (Decide_any a.said a.v a.A a.n a.c a.b _ HLEN.out ((HRD1.out.below (by (repeat' first | exact zbR _ _ | assumption | refine zbD ?_ | refine zbA ?_ ?_ _ | refine zbS ?_ ?_ _ | refine zbT ?_ (by assumption) ?_ | (simp; done) | (simp; omega) | omega))).mono (by first | (simp; done) | (simp; omega) | omega))).mono ?_; rintro e w3 ⟨rfl, hb3⟩; rw [HDE.out, HDV.out, HDK.out]; obtain ⟨hc3, hf3⟩ := bcell hb3; have q3 := hb3.size; have z3k : k < w3.heap.size := (by omega); have z3q : q < w3.heap.size := (by omega); have z3p : p < w3.heap.size := (by omega); have c3q0 : w3.cell? ⟨q, 0, none⟩ = some (.int .i64 s.l0) := (hb3.cell (p := ⟨q, 0, none⟩) lq1).trans cq0; have c3q1 : w3.cell? ⟨q, 1, none⟩ = some (.int .i64 s.l1) := (hb3.cell (p := ⟨q, 1, none⟩) lq1).trans cq1; have c3k1 := (hb3.cell (p := ⟨k, 1, none⟩) lk).trans ck1) | (go_at_call 61; refine (within_any _ _ _ _).mono ?_; rintro e w4 ⟨rfl, rfl⟩; rw [SW]))
                  refine bodyPost_ret (v := .tuple #[.slice none 0 0, .agg #[.int .i64 0, .int .i64 0], .int .i64 23]) (Run_results (blk_set (blk_set ((hb3.block q lq1).trans GQ1.out) 0 (.int .i64 0)) 1 (.int .i64 0)) rfl rfl rfl rfl) rfl ?_
                  exact run_bad (HBADX.out HE.out) (zbS (zbS (GB1.out.trans (hb3.mono (by have := GB1.out.size; omega))) hwq _) hwq _)
          · have d1 : (a.kind == 1) = false := by simpa using hk1
            have d2 : (a.kind == 2) = false := by simpa using hk2
            have d3 : (a.kind == 3) = false := by simpa using hk3
            have HE := hide (show (L.stepR each more s a).bad = true by unfold L.stepR; rw [if_neg hk1, if_neg hk2, if_neg hk3])
            clear hk1 hk2 hk3
            go_wp2_with fail
            refine bodyPost_ret (v := .tuple #[.slice none 0 0, .agg #[.int .i64 0, .int .i64 0], .int .i64 23]) (Run_results (blk_set (blk_set GQ1.out 0 (.int .i64 0)) 1 (.int .i64 0)) rfl rfl rfl rfl) rfl ?_
            exact run_bad (HBADX.out HE.out) (zbS (zbS GB1.out hwq _) hwq _)
    · have hin : i = n := by omega
      subst hin
      have HALL := hide (show L.runR each more l = s by unfold L.runR; rw [← HS.out, List.take_of_length_le (by have := HN.out; omega)])
      have HGOOD := hide (show L.runBad each more l = false by unfold L.runBad; rw [HRO.out, HALL.out, HSB.out]; rfl)
      have hq2 := HQ.out
      have cq0 := (blk_cell hq2 0).trans rfl; have cq1 := (blk_cell hq2 1).trans rfl
      have fq0 := blk_frozen hq2 0; have fq1 := blk_frozen hq2 1
      have hS : (fun w' => q < w'.heap.size ∧ w'.frozen? ⟨q, 0, none⟩ = false ∧ w'.frozen? ⟨q, 1, none⟩ = false ∧ w'.cell? ⟨q, 0, none⟩ = some (.int .i64 s.l0) ∧ w'.cell? ⟨q, 1, none⟩ = some (.int .i64 s.l1)) wr := ⟨lqr, fq0, fq1, cq0, cq1⟩
      clear hq2
      go_upto_region 20 with fail
      (try dsimp only at hS)
      refine wp_region_held_drew (S := (fun w' => q < w'.heap.size ∧ w'.frozen? ⟨q, 0, none⟩ = false ∧ w'.frozen? ⟨q, 1, none⟩ = false ∧ w'.cell? ⟨q, 0, none⟩ = some (.int .i64 s.l0) ∧ w'.cell? ⟨q, 1, none⟩ = some (.int .i64 s.l1))) (by kernel_rfl) ?_ (fun hHeld0 => ?_)
      · (try dsimp only); (first | (go_keep; done) | (go_split_ands; (repeat' apply And.intro) <;> first | (go_keep; done) | (simp [*, zcA, zcP, zfA, zfP]; done) | (simp [zcA, zcP] <;> rfl) | (simp [*, zsS, zsO, zsA]; done) | ((first | refine (hc _ _ ?_).trans ?_ | refine (hf _ _ ?_).trans ?_) <;> first | assumption | (simp; done) | (simp; omega) | omega | (go_keep; done) | (simp [*, zcA, zcP, zfA, zfP]; done) | (simp [zcA, zcP]; rfl)) | (repeat' first | exact zbR _ _ | assumption | refine zbD ?_ | refine zbA ?_ ?_ _ | refine zbS ?_ ?_ _ | refine zbT ?_ (by assumption) ?_ | (simp; done) | (simp; omega) | omega)))
      refine tL (v := ?_) 0 rfl (by kernel_rfl) (fun _ _ _ h => h) (Or.inl ⟨by rfl, ?_⟩) (by assumption) ?_; rotate_left
      · (intro w hSw; (try dsimp only at hSw); go_simp; try with_reducible rfl)
      try simp only [Act.put, zl, z0, z1]
      refine tL (v := ?_) 1 rfl (by kernel_rfl) (fun _ _ _ h => h) (Or.inl ⟨by rfl, ?_⟩) (by assumption) ?_; rotate_left
      · (intro w hSw; (try dsimp only at hSw); go_simp; try with_reducible rfl)
      try simp only [Act.put, zl, z0, z1]
      refine tL (v := ?_) 2 rfl (by kernel_rfl) (fun _ _ _ h => h) (Or.inl ⟨by rfl, ?_⟩) (by assumption) ?_; rotate_left
      · (intro w hSw; (try dsimp only at hSw); go_simp; try with_reducible rfl)
      try simp only [Act.put, zl, z0, z1]
      refine wpAnyH_ready (rs := [3]) (by kernel_rfl) (by simp) ?_
      refine consL 3 rfl (fun K hK => ?_) AllReadyH.nil
      go_simp
      refine hK.out _ _ ?_ (fun hHeld1 => ?_)
      · (try dsimp only); (first | (go_keep; done) | (go_split_ands; (repeat' apply And.intro) <;> first | (go_keep; done) | (simp [*, zcA, zcP, zfA, zfP]; done) | (simp [zcA, zcP] <;> rfl) | (simp [*, zsS, zsO, zsA]; done) | ((first | refine (hc _ _ ?_).trans ?_ | refine (hf _ _ ?_).trans ?_) <;> first | assumption | (simp; done) | (simp; omega) | omega | (go_keep; done) | (simp [*, zcA, zcP, zfA, zfP]; done) | (simp [zcA, zcP]; rfl)) | (repeat' first | exact zbR _ _ | assumption | refine zbD ?_ | refine zbA ?_ ?_ _ | refine zbS ?_ ?_ _ | refine zbT ?_ (by assumption) ?_ | (simp; done) | (simp; omega) | omega)))
      clear hK K hHeld0
      try simp only [Act.put, zl, z0, z1]
      refine tL (v := ?_) 4 rfl (by kernel_rfl) (fun _ _ _ h => h) (Or.inl ⟨by rfl, ?_⟩) (by assumption) ?_; rotate_left
      · (intro w hSw; (try dsimp only at hSw); go_simp; try with_reducible rfl)
      try simp only [Act.put, zl, z0, z1]
      refine wpAnyH_done (by kernel_rfl) ?_ _
      go_wp2_with fail
      refine bodyPost_ret (v := .tuple #[.slice sv s.ds.length c', .agg #[.int .i64 s.l0, .int .i64 s.l1], .int .i64 0]) (Run_results (blk_set (blk_set (drew_blk HQ.out) 0 _) 1 _) rfl rfl rfl rfl) rfl ?_
      exact run_good HGOOD.out HALL.out (owns_mono (ownsRow_setCell_below (ownsRow_setCell_below (by exact hown.out) lq _) lq _) (by omega)) (zbS (zbS GBr.out.drew hwq _) hwq _)

theorem Run_any (each more : Int) (l : List L.Ap) (A : Option Addr) (n c : Nat) (w : World) (hn : l.length = n) (hr : RdA w w.heap.size A l) :
    Calls Try.prog 33 #[.agg #[.int .i64 each, .int .i64 more], .slice A n c] w fun e w' => RunPost each more l w e w' := by
  cases X1 : L.within each 0 9
  · exact Run_rule1 each more l A n c w hn hr X1
  · cases X2 : L.within more 0 9
    · exact Run_rule2 each more l A n c w hn hr X1 X2
    · rcases Nat.lt_or_ge 30 n with X3 | X3
      · exact Run_rule3 each more l A n c w hn hr X1 X2 X3
      · exact Run_yes each more l A n c w hn hr X1 X2 X3

end Go.Proofs.Ytampfpnkkdihaaa

namespace Go.Proofs.Ytampfpnkkdihaaa
open Go.RowKit
attribute [local go_sem ↓] Go.wp_at_zero Go.wp_at_succ


set_option maxRecDepth 100000 in
set_option maxHeartbeats 3200000 in
theorem refCall_any (v : L.Vw) (A : Option Addr) (n c : Nat) (b : L.Bx) (w : World) (hn : v.ss.length = n) (hr : RdS w w.heap.size A v.ss) :
    Calls Try.prog 41 #[.agg #[.int .i64 v.size, .slice A n c, .int .i64 v.wrong, .int .i64 v.hxl, .int .i64 v.hxh, .int .i64 v.hyl, .int .i64 v.hyh], .agg #[.int .i64 b.l, .int .i64 b.r, .int .i64 b.b, .int .i64 b.t]] w fun e w' => e = .returned (.tuple #[.int .i64 (L.callV v b), .int .i64 (L.callE v b)]) ∧ Below w.heap.size w w' := by
  have HN := hide hn
  have HR := hide hr
  clear hn hr
  rcases L.checkBE_cases v b with h | h | h
  · obtain ⟨hv, hb⟩ := L.checkBE_ok h
    have HV := hide hv
    have HB := hide hb
    have H := hide h
    clear hv hb h
    have E1 := hide (show L.callV v b = L.callOf v b 0 by unfold L.callV; rw [if_pos H.out])
    by_cases h0 : L.callOf v b 0 = 0
    · have E2 := hide (show L.callE v b = 3 by unfold L.callE; rw [if_pos H.out, if_pos h0])
      have H0 := hide h0
      clear h0
      go_enter Try.func41, Try.ntmps41
      go_wp2_with (first | (go_at_call 66; refine (checkBox_any v A n c b _ HN.out ((HR.out.below (by (repeat' first | exact zbR _ _ | assumption | refine zbD ?_ | refine zbA ?_ ?_ _ | refine zbS ?_ ?_ _ | refine zbT ?_ (by assumption) ?_ | (simp; done) | (simp; omega) | omega))).mono (by first | (simp; done) | (simp; omega) | omega))).mono ?_; rintro e w2 ⟨rfl, hb2⟩; rw [H.out]; obtain ⟨hc2, hf2⟩ := bcell hb2; have q2 := hb2.size; (try simp only [World.size_alloc] at q2); have z2_0 : w.heap.size < w2.heap.size := (by omega); have z2_1 : w.heap.size + 1 < w2.heap.size := (by omega)) | (go_at_call 67; refine (refcall_any v A n c b _ HV.out.w HB.out HN.out ((HR.out.below (by (repeat' first | exact zbR _ _ | assumption | refine zbD ?_ | refine zbA ?_ ?_ _ | refine zbS ?_ ?_ _ | refine zbT ?_ (by assumption) ?_ | (simp; done) | (simp; omega) | omega))).mono (by first | (simp; done) | (simp; omega) | omega))).mono ?_; rintro e w3 ⟨rfl, hb3⟩; rw [H0.out]))
      go_ret2
      exact ⟨by rw [E1.out, E2.out, H0.out]; rfl, by (repeat' first | exact zbR _ _ | assumption | refine zbD ?_ | refine zbA ?_ ?_ _ | refine zbS ?_ ?_ _ | refine zbT ?_ (by assumption) ?_ | (simp; done) | (simp; omega) | omega)⟩
    · have E2 := hide (show L.callE v b = 0 by unfold L.callE; rw [if_pos H.out, if_neg h0])
      have d0 : (L.callOf v b 0 == 0) = false := by simpa using h0
      clear h0
      go_enter Try.func41, Try.ntmps41
      go_wp2_with (first | (go_at_call 66; refine (checkBox_any v A n c b _ HN.out ((HR.out.below (by (repeat' first | exact zbR _ _ | assumption | refine zbD ?_ | refine zbA ?_ ?_ _ | refine zbS ?_ ?_ _ | refine zbT ?_ (by assumption) ?_ | (simp; done) | (simp; omega) | omega))).mono (by first | (simp; done) | (simp; omega) | omega))).mono ?_; rintro e w2 ⟨rfl, hb2⟩; rw [H.out]; obtain ⟨hc2, hf2⟩ := bcell hb2; have q2 := hb2.size; (try simp only [World.size_alloc] at q2); have z2_0 : w.heap.size < w2.heap.size := (by omega); have z2_1 : w.heap.size + 1 < w2.heap.size := (by omega)) | (go_at_call 67; refine (refcall_any v A n c b _ HV.out.w HB.out HN.out ((HR.out.below (by (repeat' first | exact zbR _ _ | assumption | refine zbD ?_ | refine zbA ?_ ?_ _ | refine zbS ?_ ?_ _ | refine zbT ?_ (by assumption) ?_ | (simp; done) | (simp; omega) | omega))).mono (by first | (simp; done) | (simp; omega) | omega))).mono ?_; rintro e w3 ⟨rfl, hb3⟩))
      go_ret2
      exact ⟨by rw [E1.out, E2.out]; rfl, by (repeat' first | exact zbR _ _ | assumption | refine zbD ?_ | refine zbA ?_ ?_ _ | refine zbS ?_ ?_ _ | refine zbT ?_ (by assumption) ?_ | (simp; done) | (simp; omega) | omega)⟩
  all_goals
    have E1 := hide (show L.callV v b = 0 by unfold L.callV; rw [if_neg (by omega)])
    have E2 := hide (show L.callE v b = L.checkBE v b by unfold L.callE; rw [if_neg (by omega)])
    have H := hide h
    clear h
    go_enter Try.func41, Try.ntmps41
    go_wp2_with (first | (go_at_call 66; refine (checkBox_any v A n c b _ HN.out ((HR.out.below (by (repeat' first | exact zbR _ _ | assumption | refine zbD ?_ | refine zbA ?_ ?_ _ | refine zbS ?_ ?_ _ | refine zbT ?_ (by assumption) ?_ | (simp; done) | (simp; omega) | omega))).mono (by first | (simp; done) | (simp; omega) | omega))).mono ?_; rintro e w2 ⟨rfl, hb2⟩; rw [H.out]; obtain ⟨hc2, hf2⟩ := bcell hb2; have q2 := hb2.size; (try simp only [World.size_alloc] at q2); have z2_0 : w.heap.size < w2.heap.size := (by omega); have z2_1 : w.heap.size + 1 < w2.heap.size := (by omega)))
    go_ret2
    exact ⟨by rw [E1.out, E2.out, H.out]; rfl, by (repeat' first | exact zbR _ _ | assumption | refine zbD ?_ | refine zbA ?_ ?_ _ | refine zbS ?_ ?_ _ | refine zbT ?_ (by assumption) ?_ | (simp; done) | (simp; omega) | omega)⟩

theorem L.not_sure {c : Int} (h : L.sure c = false) : (c == 1) = false ∧ (c == 2) = false := by
  unfold L.sure at h
  simpa using h
theorem L.is_sure {c : Int} (h : L.sure c = true) : c = 1 ∨ c = 2 := by
  unfold L.sure at h
  simpa using h

set_option maxRecDepth 100000 in
set_option maxHeartbeats 3200000 in
theorem refDecide_any (said : Int) (v : L.Vw) (A : Option Addr) (n c : Nat) (b : L.Bx) (w : World) (hn : v.ss.length = n) (hr : RdS w w.heap.size A v.ss) :
    Calls Try.prog 43 #[.int .i64 said, .agg #[.int .i64 v.size, .slice A n c, .int .i64 v.wrong, .int .i64 v.hxl, .int .i64 v.hxh, .int .i64 v.hyl, .int .i64 v.hyh], .agg #[.int .i64 b.l, .int .i64 b.r, .int .i64 b.b, .int .i64 b.t]] w fun e w' => e = .returned (.tuple #[.int .i64 (L.decV said v b), .bool (L.decK said v b), .int .i64 (L.decE said v b)]) ∧ Below w.heap.size w w' := by
  have HN := hide hn
  have HR := hide hr
  clear hn hr
  rcases L.checkBE_cases v b with h | h | h
  · obtain ⟨hv, hb⟩ := L.checkBE_ok h
    have HV := hide hv
    have HB := hide hb
    have H := hide h
    clear hv hb h
    cases hs : L.sure said
    · have E1 := hide (show L.decV said v b = 0 by unfold L.decV; rw [if_pos H.out, hs]; rfl)
      have E2 := hide (show L.decK said v b = false by unfold L.decK; rw [if_pos H.out, hs]; rfl)
      have E3 := hide (show L.decE said v b = 22 by unfold L.decE; rw [if_pos H.out, hs]; rfl)
      obtain ⟨d1, d2⟩ := L.not_sure hs
      have d3 : (said != 1) = true := by simp only [bne, d1]; rfl
      have d4 : (said != 2) = true := by simp only [bne, d2]; rfl
      clear hs
      go_enter Try.func43, Try.ntmps43
      go_wp2_with (first | (go_at_call 66; refine (checkBox_any v A n c b _ HN.out ((HR.out.below (by (repeat' first | exact zbR _ _ | assumption | refine zbD ?_ | refine zbA ?_ ?_ _ | refine zbS ?_ ?_ _ | refine zbT ?_ (by assumption) ?_ | (simp; done) | (simp; omega) | omega))).mono (by first | (simp; done) | (simp; omega) | omega))).mono ?_; rintro e w2 ⟨rfl, hb2⟩; rw [H.out]; obtain ⟨hc2, hf2⟩ := bcell hb2; have q2 := hb2.size; (try simp only [World.size_alloc] at q2); have z2_0 : w.heap.size < w2.heap.size := (by omega); have z2_1 : w.heap.size + 1 < w2.heap.size := (by omega)))
      go_ret3
      exact ⟨by rw [E1.out, E2.out, E3.out]; rfl, by (repeat' first | exact zbR _ _ | assumption | refine zbD ?_ | refine zbA ?_ ?_ _ | refine zbS ?_ ?_ _ | refine zbT ?_ (by assumption) ?_ | (simp; done) | (simp; omega) | omega)⟩
    · have hs' := L.is_sure hs
      obtain ⟨cv, hcv⟩ : ∃ cv, L.callOf v b 0 = cv := ⟨_, rfl⟩
      have HCV := hide hcv
      have hr1 := L.callOf_rng v b 0
      cases hs2 : L.sure (L.callOf v b 0)
      · have E1 := hide (show L.decV said v b = said by unfold L.decV; rw [if_pos H.out, hs, hs2]; rfl)
        have E2 := hide (show L.decK said v b = true by unfold L.decK; rw [if_pos H.out, hs, hs2]; rfl)
        have E3 := hide (show L.decE said v b = 0 by unfold L.decE; rw [if_pos H.out, hs]; rfl)
        rw [hcv] at hs2
        obtain ⟨d1, d2⟩ := L.not_sure hs2
        clear hs hs2 hcv hr1
        rcases hs' with rfl | rfl
        all_goals
          go_enter Try.func43, Try.ntmps43
          go_wp2_with (first | (go_at_call 66; refine (checkBox_any v A n c b _ HN.out ((HR.out.below (by (repeat' first | exact zbR _ _ | assumption | refine zbD ?_ | refine zbA ?_ ?_ _ | refine zbS ?_ ?_ _ | refine zbT ?_ (by assumption) ?_ | (simp; done) | (simp; omega) | omega))).mono (by first | (simp; done) | (simp; omega) | omega))).mono ?_; rintro e w2 ⟨rfl, hb2⟩; rw [H.out]; obtain ⟨hc2, hf2⟩ := bcell hb2; have q2 := hb2.size; (try simp only [World.size_alloc] at q2); have z2_0 : w.heap.size < w2.heap.size := (by omega); have z2_1 : w.heap.size + 1 < w2.heap.size := (by omega)) | (go_at_call 67; refine (refcall_any v A n c b _ HV.out.w HB.out HN.out ((HR.out.below (by (repeat' first | exact zbR _ _ | assumption | refine zbD ?_ | refine zbA ?_ ?_ _ | refine zbS ?_ ?_ _ | refine zbT ?_ (by assumption) ?_ | (simp; done) | (simp; omega) | omega))).mono (by first | (simp; done) | (simp; omega) | omega))).mono ?_; rintro e w3 ⟨rfl, hb3⟩; rw [HCV.out]))
          go_ret3
          exact ⟨by rw [E1.out, E2.out, E3.out]; rfl, by (repeat' first | exact zbR _ _ | assumption | refine zbD ?_ | refine zbA ?_ ?_ _ | refine zbS ?_ ?_ _ | refine zbT ?_ (by assumption) ?_ | (simp; done) | (simp; omega) | omega)⟩
      · have E1 := hide (show L.decV said v b = cv by unfold L.decV; rw [if_pos H.out, hs, hs2, hcv]; rfl)
        have E2 := hide (show L.decK said v b = (cv != said) by unfold L.decK; rw [if_pos H.out, hs, hs2, hcv]; rfl)
        have E3 := hide (show L.decE said v b = 0 by unfold L.decE; rw [if_pos H.out, hs]; rfl)
        rw [hcv] at hs2
        have hs2' := L.is_sure hs2
        clear hs hs2 hcv hr1
        rcases hs' with rfl | rfl <;> rcases hs2' with rfl | rfl
        all_goals
          go_enter Try.func43, Try.ntmps43
          go_wp2_with (first | (go_at_call 66; refine (checkBox_any v A n c b _ HN.out ((HR.out.below (by (repeat' first | exact zbR _ _ | assumption | refine zbD ?_ | refine zbA ?_ ?_ _ | refine zbS ?_ ?_ _ | refine zbT ?_ (by assumption) ?_ | (simp; done) | (simp; omega) | omega))).mono (by first | (simp; done) | (simp; omega) | omega))).mono ?_; rintro e w2 ⟨rfl, hb2⟩; rw [H.out]; obtain ⟨hc2, hf2⟩ := bcell hb2; have q2 := hb2.size; (try simp only [World.size_alloc] at q2); have z2_0 : w.heap.size < w2.heap.size := (by omega); have z2_1 : w.heap.size + 1 < w2.heap.size := (by omega)) | (go_at_call 67; refine (refcall_any v A n c b _ HV.out.w HB.out HN.out ((HR.out.below (by (repeat' first | exact zbR _ _ | assumption | refine zbD ?_ | refine zbA ?_ ?_ _ | refine zbS ?_ ?_ _ | refine zbT ?_ (by assumption) ?_ | (simp; done) | (simp; omega) | omega))).mono (by first | (simp; done) | (simp; omega) | omega))).mono ?_; rintro e w3 ⟨rfl, hb3⟩; rw [HCV.out]))
          go_ret3
          exact ⟨by rw [E1.out, E2.out, E3.out]; rfl, by (repeat' first | exact zbR _ _ | assumption | refine zbD ?_ | refine zbA ?_ ?_ _ | refine zbS ?_ ?_ _ | refine zbT ?_ (by assumption) ?_ | (simp; done) | (simp; omega) | omega)⟩
  all_goals
    have E1 := hide (show L.decV said v b = 0 by unfold L.decV; rw [if_neg (by omega)])
    have E2 := hide (show L.decK said v b = false by unfold L.decK; rw [if_neg (by omega)])
    have E3 := hide (show L.decE said v b = L.checkBE v b by unfold L.decE; rw [if_neg (by omega)])
    have H := hide h
    clear h
    go_enter Try.func43, Try.ntmps43
    go_wp2_with (first | (go_at_call 66; refine (checkBox_any v A n c b _ HN.out ((HR.out.below (by (repeat' first | exact zbR _ _ | assumption | refine zbD ?_ | refine zbA ?_ ?_ _ | refine zbS ?_ ?_ _ | refine zbT ?_ (by assumption) ?_ | (simp; done) | (simp; omega) | omega))).mono (by first | (simp; done) | (simp; omega) | omega))).mono ?_; rintro e w2 ⟨rfl, hb2⟩; rw [H.out]; obtain ⟨hc2, hf2⟩ := bcell hb2; have q2 := hb2.size; (try simp only [World.size_alloc] at q2); have z2_0 : w.heap.size < w2.heap.size := (by omega); have z2_1 : w.heap.size + 1 < w2.heap.size := (by omega)))
    go_ret3
    exact ⟨by rw [E1.out, E2.out, E3.out, H.out]; rfl, by (repeat' first | exact zbR _ _ | assumption | refine zbD ?_ | refine zbA ?_ ?_ _ | refine zbS ?_ ?_ _ | refine zbT ?_ (by assumption) ?_ | (simp; done) | (simp; omega) | omega)⟩

theorem L.find_call (v : L.Vw) (b : L.Bx) : ((L.findC v b 0 1).isSome = (L.callOf v b 0 == 1 || L.callOf v b 0 == 3)) ∧ ((L.findC v b 0 2).isSome = (L.callOf v b 0 == 2 || L.callOf v b 0 == 3)) := by
  unfold L.callOf
  cases h1 : (L.findC v b 0 1).isSome <;> cases h2 : (L.findC v b 0 2).isSome <;> simp

set_option maxRecDepth 100000 in
set_option maxHeartbeats 3200000 in
theorem refCheckShow_any (v : L.Vw) (A : Option Addr) (n c : Nat) (b : L.Bx) (call : Int) (w : World) (hn : v.ss.length = n) (hr : RdS w w.heap.size A v.ss) :
    Calls Try.prog 44 #[.agg #[.int .i64 v.size, .slice A n c, .int .i64 v.wrong, .int .i64 v.hxl, .int .i64 v.hxh, .int .i64 v.hyl, .int .i64 v.hyh], .agg #[.int .i64 b.l, .int .i64 b.r, .int .i64 b.b, .int .i64 b.t], .int .i64 call] w fun e w' => e = .returned (.int .i64 (L.showE v b call)) ∧ Below w.heap.size w w' := by
  have HN := hide hn
  have HR := hide hr
  clear hn hr
  rcases L.checkBE_cases v b with h | h | h
  · obtain ⟨hv, hb⟩ := L.checkBE_ok h
    have HV := hide hv
    have HB := hide hb
    have H := hide h
    clear hv hb h
    cases hs : L.sure call
    · have E1 := hide (show L.showE v b call = 22 by unfold L.showE; rw [if_pos H.out, hs]; rfl)
      obtain ⟨d1, d2⟩ := L.not_sure hs
      have d3 : (call != 1) = true := by simp only [bne, d1]; rfl
      have d4 : (call != 2) = true := by simp only [bne, d2]; rfl
      clear hs
      go_enter Try.func44, Try.ntmps44
      go_wp2_with (first | (go_at_call 66; refine (checkBox_any v A n c b _ HN.out ((HR.out.below (by (repeat' first | exact zbR _ _ | assumption | refine zbD ?_ | refine zbA ?_ ?_ _ | refine zbS ?_ ?_ _ | refine zbT ?_ (by assumption) ?_ | (simp; done) | (simp; omega) | omega))).mono (by first | (simp; done) | (simp; omega) | omega))).mono ?_; rintro e w2 ⟨rfl, hb2⟩; rw [H.out]; obtain ⟨hc2, hf2⟩ := bcell hb2; have q2 := hb2.size; (try simp only [World.size_alloc] at q2); have z2_0 : w.heap.size < w2.heap.size := (by omega); have z2_1 : w.heap.size + 1 < w2.heap.size := (by omega)))
      go_ret
      exact ⟨by rw [E1.out]; rfl, by (repeat' first | exact zbR _ _ | assumption | refine zbD ?_ | refine zbA ?_ ?_ _ | refine zbS ?_ ?_ _ | refine zbT ?_ (by assumption) ?_ | (simp; done) | (simp; omega) | omega)⟩
    · have hs' := L.is_sure hs
      have hr1 := L.callOf_rng v b 0
      have hf := L.find_call v b
      have E1 := show L.showE v b call = if (L.findC v b 0 call).isSome then 0 else 3 by unfold L.showE; rw [if_pos H.out, hs]; rfl
      obtain ⟨cv, hcv⟩ : ∃ cv, L.callOf v b 0 = cv := ⟨_, rfl⟩
      have HCV := hide hcv
      rw [hcv] at hr1 hf
      clear hs hcv
      have hcv4 : cv = 0 ∨ cv = 1 ∨ cv = 2 ∨ cv = 3 := by omega
      rcases hs' with rfl | rfl
      · rw [hf.1] at E1
        clear hf hr1
        rcases hcv4 with rfl | rfl | rfl | rfl
        all_goals
          have EE := hide E1
          clear E1
          go_enter Try.func44, Try.ntmps44
          go_wp2_with (first | (go_at_call 66; refine (checkBox_any v A n c b _ HN.out ((HR.out.below (by (repeat' first | exact zbR _ _ | assumption | refine zbD ?_ | refine zbA ?_ ?_ _ | refine zbS ?_ ?_ _ | refine zbT ?_ (by assumption) ?_ | (simp; done) | (simp; omega) | omega))).mono (by first | (simp; done) | (simp; omega) | omega))).mono ?_; rintro e w2 ⟨rfl, hb2⟩; rw [H.out]; obtain ⟨hc2, hf2⟩ := bcell hb2; have q2 := hb2.size; (try simp only [World.size_alloc] at q2); have z2_0 : w.heap.size < w2.heap.size := (by omega); have z2_1 : w.heap.size + 1 < w2.heap.size := (by omega)) | (go_at_call 67; refine (refcall_any v A n c b _ HV.out.w HB.out HN.out ((HR.out.below (by (repeat' first | exact zbR _ _ | assumption | refine zbD ?_ | refine zbA ?_ ?_ _ | refine zbS ?_ ?_ _ | refine zbT ?_ (by assumption) ?_ | (simp; done) | (simp; omega) | omega))).mono (by first | (simp; done) | (simp; omega) | omega))).mono ?_; rintro e w3 ⟨rfl, hb3⟩; rw [HCV.out]))
          go_ret
          exact ⟨by rw [EE.out]; rfl, by (repeat' first | exact zbR _ _ | assumption | refine zbD ?_ | refine zbA ?_ ?_ _ | refine zbS ?_ ?_ _ | refine zbT ?_ (by assumption) ?_ | (simp; done) | (simp; omega) | omega)⟩
      · rw [hf.2] at E1
        clear hf hr1
        rcases hcv4 with rfl | rfl | rfl | rfl
        all_goals
          have EE := hide E1
          clear E1
          go_enter Try.func44, Try.ntmps44
          go_wp2_with (first | (go_at_call 66; refine (checkBox_any v A n c b _ HN.out ((HR.out.below (by (repeat' first | exact zbR _ _ | assumption | refine zbD ?_ | refine zbA ?_ ?_ _ | refine zbS ?_ ?_ _ | refine zbT ?_ (by assumption) ?_ | (simp; done) | (simp; omega) | omega))).mono (by first | (simp; done) | (simp; omega) | omega))).mono ?_; rintro e w2 ⟨rfl, hb2⟩; rw [H.out]; obtain ⟨hc2, hf2⟩ := bcell hb2; have q2 := hb2.size; (try simp only [World.size_alloc] at q2); have z2_0 : w.heap.size < w2.heap.size := (by omega); have z2_1 : w.heap.size + 1 < w2.heap.size := (by omega)) | (go_at_call 67; refine (refcall_any v A n c b _ HV.out.w HB.out HN.out ((HR.out.below (by (repeat' first | exact zbR _ _ | assumption | refine zbD ?_ | refine zbA ?_ ?_ _ | refine zbS ?_ ?_ _ | refine zbT ?_ (by assumption) ?_ | (simp; done) | (simp; omega) | omega))).mono (by first | (simp; done) | (simp; omega) | omega))).mono ?_; rintro e w3 ⟨rfl, hb3⟩; rw [HCV.out]))
          go_ret
          exact ⟨by rw [EE.out]; rfl, by (repeat' first | exact zbR _ _ | assumption | refine zbD ?_ | refine zbA ?_ ?_ _ | refine zbS ?_ ?_ _ | refine zbT ?_ (by assumption) ?_ | (simp; done) | (simp; omega) | omega)⟩
  all_goals
    have E1 := hide (show L.showE v b call = L.checkBE v b by unfold L.showE; rw [if_neg (by omega)])
    have H := hide h
    clear h
    go_enter Try.func44, Try.ntmps44
    go_wp2_with (first | (go_at_call 66; refine (checkBox_any v A n c b _ HN.out ((HR.out.below (by (repeat' first | exact zbR _ _ | assumption | refine zbD ?_ | refine zbA ?_ ?_ _ | refine zbS ?_ ?_ _ | refine zbT ?_ (by assumption) ?_ | (simp; done) | (simp; omega) | omega))).mono (by first | (simp; done) | (simp; omega) | omega))).mono ?_; rintro e w2 ⟨rfl, hb2⟩; rw [H.out]; obtain ⟨hc2, hf2⟩ := bcell hb2; have q2 := hb2.size; (try simp only [World.size_alloc] at q2); have z2_0 : w.heap.size < w2.heap.size := (by omega); have z2_1 : w.heap.size + 1 < w2.heap.size := (by omega)))
    go_ret
    exact ⟨by rw [E1.out, H.out]; rfl, by (repeat' first | exact zbR _ _ | assumption | refine zbD ?_ | refine zbA ?_ ?_ _ | refine zbS ?_ ?_ _ | refine zbT ?_ (by assumption) ?_ | (simp; done) | (simp; omega) | omega)⟩

end Go.Proofs.Ytampfpnkkdihaaa

namespace Go.Proofs.Ytampfpnkkdihaaa
open Go.RowKit
attribute [local go_sem ↓] Go.wp_at_zero Go.wp_at_succ

theorem refRun_results {Z : World} {g : Nat} {a b e : Int} {sv : Option Addr} {n c : Nat} {cs tmps : Array Value} (h : Z.heap[g]? = some (.cells cs 64 (0, 0)))
    (e3 : cs = #[.int .i64 a, .int .i64 b]) (t4 : tmps[4]? = some (.slice sv n c)) (t5 : tmps[5]? = some (.pointer (some ⟨g, 0, none⟩))) (t6 : tmps[6]? = some (.int .i64 e)) :
    (results Try.f45 tmps).run Try.prog Z = .ok (.tuple #[.slice sv n c, .agg #[.int .i64 a, .int .i64 b], .int .i64 e]) Z := by
  subst e3
  have k1 : Z.cell? ⟨g, 0, none⟩ = some (.int .i64 a) := blk_cell h 0
  have k2 : Z.cell? ⟨g, 1, none⟩ = some (.int .i64 b) := blk_cell h 1
  simp [results, Try.results45, go_sem, t4, t5, t6, k1, k2]

set_option maxRecDepth 100000 in
set_option maxHeartbeats 6400000 in
theorem refRun_rule1 (each more : Int) (l : List L.Ap) (A : Option Addr) (n c : Nat) (w : World) (hn : l.length = n) (hr : RdA w w.heap.size A l) (X1 : L.within each 0 9 = false) :
    Calls Try.prog 45 #[.agg #[.int .i64 each, .int .i64 more], .slice A n c] w fun e w' => RunPost each more l w e w' := by
  have HN := hide hn
  have HR := hide hr
  have HBAD := hide (show L.runBad each more l = true by unfold L.runBad L.ruleOk; rw [X1]; rfl)
  clear hn hr
  go_enter Try.func45, Try.ntmps45
  go_upto_region 1 with fail
  obtain ⟨W0, hW0⟩ : ∃ W0, (w.alloc (.cells #[.int .i64 each, .int .i64 more] 62)).alloc (.cells #[.int .i64 0, .int .i64 0] 64) = W0 := ⟨_, rfl⟩
  have gp : W0.heap[w.heap.size]? = some (.cells #[.int .i64 each, .int .i64 more] 62 (0, 0)) := by
    rw [← hW0]; exact (Below.heap_alloc _ _ _ (by first | (simp; done) | (simp; omega) | omega)).trans (World.alloc_heap_new _ _)
  have gq : W0.heap[w.heap.size + 1]? = some (.cells #[.int .i64 0, .int .i64 0] 64 (0, 0)) := by
    rw [← hW0]; exact (congrArg _ (by simp)).trans (World.alloc_heap_new _ _)
  have gs : W0.heap.size = w.heap.size + 1 + 1 := by rw [← hW0]; simp
  have gB : Below w.heap.size w W0 := by rw [← hW0]; (repeat' first | exact zbR _ _ | assumption | refine zbD ?_ | refine zbA ?_ ?_ _ | refine zbS ?_ ?_ _ | refine zbT ?_ (by assumption) ?_ | (simp; done) | (simp; omega) | omega)
  rw [hW0]
  clear hW0
  obtain ⟨p, hp⟩ : ∃ p, w.heap.size = p := ⟨_, rfl⟩
  obtain ⟨q, hq⟩ : ∃ q, w.heap.size + 1 = q := ⟨_, rfl⟩
  rw [hq, hp]
  rw [hp] at gp
  rw [hq] at gq
  have lp : p < W0.heap.size := by omega
  have lq : q < W0.heap.size := by omega
  have hpq : p ≠ q := by omega
  have hwp : w.heap.size = p := hp
  have hwq : w.heap.size ≤ q := by omega
  have HR0 := hide (HR.out.below gB)
  have GB := hide gB
  have GP := hide gp
  have GQ := hide gq
  have cp0 := (blk_cell gp 0).trans rfl; have cp1 := (blk_cell gp 1).trans rfl
  have cq0 := (blk_cell gq 0).trans rfl; have cq1 := (blk_cell gq 1).trans rfl
  have fq0 := blk_frozen gq 0; have fq1 := blk_frozen gq 1
  clear gp gq gB HR hp hq gs
  go_wp2_with (go_at_call 57; refine (refWithin_any _ _ _ _).mono ?_; rintro e w4 ⟨rfl, rfl⟩; rw [X1])
  refine bodyPost_ret (v := .tuple #[.slice none 0 0, .agg #[.int .i64 0, .int .i64 0], .int .i64 23]) (refRun_results (blk_set (blk_set GQ.out 0 (.int .i64 0)) 1 (.int .i64 0)) rfl rfl rfl rfl) rfl ?_
  exact run_bad HBAD.out (zbS (zbS GB.out hwq _) hwq _)

set_option maxRecDepth 100000 in
set_option maxHeartbeats 6400000 in
theorem refRun_rule2 (each more : Int) (l : List L.Ap) (A : Option Addr) (n c : Nat) (w : World) (hn : l.length = n) (hr : RdA w w.heap.size A l) (X1 : L.within each 0 9 = true) (X2 : L.within more 0 9 = false) :
    Calls Try.prog 45 #[.agg #[.int .i64 each, .int .i64 more], .slice A n c] w fun e w' => RunPost each more l w e w' := by
  have HN := hide hn
  have HR := hide hr
  have HBAD := hide (show L.runBad each more l = true by unfold L.runBad L.ruleOk; rw [X1, X2]; rfl)
  clear hn hr
  go_enter Try.func45, Try.ntmps45
  go_upto_region 1 with fail
  obtain ⟨W0, hW0⟩ : ∃ W0, (w.alloc (.cells #[.int .i64 each, .int .i64 more] 62)).alloc (.cells #[.int .i64 0, .int .i64 0] 64) = W0 := ⟨_, rfl⟩
  have gp : W0.heap[w.heap.size]? = some (.cells #[.int .i64 each, .int .i64 more] 62 (0, 0)) := by
    rw [← hW0]; exact (Below.heap_alloc _ _ _ (by first | (simp; done) | (simp; omega) | omega)).trans (World.alloc_heap_new _ _)
  have gq : W0.heap[w.heap.size + 1]? = some (.cells #[.int .i64 0, .int .i64 0] 64 (0, 0)) := by
    rw [← hW0]; exact (congrArg _ (by simp)).trans (World.alloc_heap_new _ _)
  have gs : W0.heap.size = w.heap.size + 1 + 1 := by rw [← hW0]; simp
  have gB : Below w.heap.size w W0 := by rw [← hW0]; (repeat' first | exact zbR _ _ | assumption | refine zbD ?_ | refine zbA ?_ ?_ _ | refine zbS ?_ ?_ _ | refine zbT ?_ (by assumption) ?_ | (simp; done) | (simp; omega) | omega)
  rw [hW0]
  clear hW0
  obtain ⟨p, hp⟩ : ∃ p, w.heap.size = p := ⟨_, rfl⟩
  obtain ⟨q, hq⟩ : ∃ q, w.heap.size + 1 = q := ⟨_, rfl⟩
  rw [hq, hp]
  rw [hp] at gp
  rw [hq] at gq
  have lp : p < W0.heap.size := by omega
  have lq : q < W0.heap.size := by omega
  have hpq : p ≠ q := by omega
  have hwp : w.heap.size = p := hp
  have hwq : w.heap.size ≤ q := by omega
  have HR0 := hide (HR.out.below gB)
  have GB := hide gB
  have GP := hide gp
  have GQ := hide gq
  have cp0 := (blk_cell gp 0).trans rfl; have cp1 := (blk_cell gp 1).trans rfl
  have cq0 := (blk_cell gq 0).trans rfl; have cq1 := (blk_cell gq 1).trans rfl
  have fq0 := blk_frozen gq 0; have fq1 := blk_frozen gq 1
  clear gp gq gB HR hp hq gs
  go_wp2_with (go_at_call 57; refine (refWithin_any _ _ _ _).mono ?_; rintro e w4 ⟨rfl, rfl⟩; first | rw [X1] | rw [X2])
  refine bodyPost_ret (v := .tuple #[.slice none 0 0, .agg #[.int .i64 0, .int .i64 0], .int .i64 23]) (refRun_results (blk_set (blk_set GQ.out 0 (.int .i64 0)) 1 (.int .i64 0)) rfl rfl rfl rfl) rfl ?_
  exact run_bad HBAD.out (zbS (zbS GB.out hwq _) hwq _)

set_option maxRecDepth 100000 in
set_option maxHeartbeats 6400000 in
theorem refRun_rule3 (each more : Int) (l : List L.Ap) (A : Option Addr) (n c : Nat) (w : World) (hn : l.length = n) (hr : RdA w w.heap.size A l) (X1 : L.within each 0 9 = true) (X2 : L.within more 0 9 = true) (X3 : 30 < n) :
    Calls Try.prog 45 #[.agg #[.int .i64 each, .int .i64 more], .slice A n c] w fun e w' => RunPost each more l w e w' := by
  have HN := hide hn
  have HR := hide hr
  have HBAD := hide (show L.runBad each more l = true by unfold L.runBad L.ruleOk; rw [X1, X2, hn, decide_eq_false (by omega)]; rfl)
  have X3' : (30 : Int) < (n : Int) := by omega
  clear hn hr X3
  go_enter Try.func45, Try.ntmps45
  go_upto_region 1 with fail
  obtain ⟨W0, hW0⟩ : ∃ W0, (w.alloc (.cells #[.int .i64 each, .int .i64 more] 62)).alloc (.cells #[.int .i64 0, .int .i64 0] 64) = W0 := ⟨_, rfl⟩
  have gp : W0.heap[w.heap.size]? = some (.cells #[.int .i64 each, .int .i64 more] 62 (0, 0)) := by
    rw [← hW0]; exact (Below.heap_alloc _ _ _ (by first | (simp; done) | (simp; omega) | omega)).trans (World.alloc_heap_new _ _)
  have gq : W0.heap[w.heap.size + 1]? = some (.cells #[.int .i64 0, .int .i64 0] 64 (0, 0)) := by
    rw [← hW0]; exact (congrArg _ (by simp)).trans (World.alloc_heap_new _ _)
  have gs : W0.heap.size = w.heap.size + 1 + 1 := by rw [← hW0]; simp
  have gB : Below w.heap.size w W0 := by rw [← hW0]; (repeat' first | exact zbR _ _ | assumption | refine zbD ?_ | refine zbA ?_ ?_ _ | refine zbS ?_ ?_ _ | refine zbT ?_ (by assumption) ?_ | (simp; done) | (simp; omega) | omega)
  rw [hW0]
  clear hW0
  obtain ⟨p, hp⟩ : ∃ p, w.heap.size = p := ⟨_, rfl⟩
  obtain ⟨q, hq⟩ : ∃ q, w.heap.size + 1 = q := ⟨_, rfl⟩
  rw [hq, hp]
  rw [hp] at gp
  rw [hq] at gq
  have lp : p < W0.heap.size := by omega
  have lq : q < W0.heap.size := by omega
  have hpq : p ≠ q := by omega
  have hwp : w.heap.size = p := hp
  have hwq : w.heap.size ≤ q := by omega
  have HR0 := hide (HR.out.below gB)
  have GB := hide gB
  have GP := hide gp
  have GQ := hide gq
  have cp0 := (blk_cell gp 0).trans rfl; have cp1 := (blk_cell gp 1).trans rfl
  have cq0 := (blk_cell gq 0).trans rfl; have cq1 := (blk_cell gq 1).trans rfl
  have fq0 := blk_frozen gq 0; have fq1 := blk_frozen gq 1
  clear gp gq gB HR hp hq gs
  go_wp2_with (go_at_call 57; refine (refWithin_any _ _ _ _).mono ?_; rintro e w4 ⟨rfl, rfl⟩; first | rw [X1] | rw [X2])
  refine bodyPost_ret (v := .tuple #[.slice none 0 0, .agg #[.int .i64 0, .int .i64 0], .int .i64 23]) (refRun_results (blk_set (blk_set GQ.out 0 (.int .i64 0)) 1 (.int .i64 0)) rfl rfl rfl rfl) rfl ?_
  exact run_bad HBAD.out (zbS (zbS GB.out hwq _) hwq _)

set_option maxRecDepth 100000 in
set_option maxHeartbeats 6400000 in
theorem refRun_yes (each more : Int) (l : List L.Ap) (A : Option Addr) (n c : Nat) (w : World) (hn : l.length = n) (hr : RdA w w.heap.size A l) (X1 : L.within each 0 9 = true) (X2 : L.within more 0 9 = true) (X3 : n ≤ 30) :
    Calls Try.prog 45 #[.agg #[.int .i64 each, .int .i64 more], .slice A n c] w fun e w' => RunPost each more l w e w' := by
  have HN := hide hn
  have HR := hide hr
  have HRO := hide (show L.ruleOk each more l.length = true by unfold L.ruleOk; rw [X1, X2, hn, decide_eq_true X3]; rfl)
  have X3' : (n : Int) ≤ 30 := by omega
  have hx1 := X1
  have hx2 := X2
  simp only [L.within, Bool.and_eq_true, decide_eq_true_eq] at hx1 hx2
  obtain ⟨e0, e9⟩ := hx1
  obtain ⟨o0, o9⟩ := hx2
  clear hn hr
  go_enter Try.func45, Try.ntmps45
  go_upto_region 1 with fail
  obtain ⟨W0, hW0⟩ : ∃ W0, (w.alloc (.cells #[.int .i64 each, .int .i64 more] 62)).alloc (.cells #[.int .i64 0, .int .i64 0] 64) = W0 := ⟨_, rfl⟩
  have gp : W0.heap[w.heap.size]? = some (.cells #[.int .i64 each, .int .i64 more] 62 (0, 0)) := by
    rw [← hW0]; exact (Below.heap_alloc _ _ _ (by first | (simp; done) | (simp; omega) | omega)).trans (World.alloc_heap_new _ _)
  have gq : W0.heap[w.heap.size + 1]? = some (.cells #[.int .i64 0, .int .i64 0] 64 (0, 0)) := by
    rw [← hW0]; exact (congrArg _ (by simp)).trans (World.alloc_heap_new _ _)
  have gs : W0.heap.size = w.heap.size + 1 + 1 := by rw [← hW0]; simp
  have gB : Below w.heap.size w W0 := by rw [← hW0]; (repeat' first | exact zbR _ _ | assumption | refine zbD ?_ | refine zbA ?_ ?_ _ | refine zbS ?_ ?_ _ | refine zbT ?_ (by assumption) ?_ | (simp; done) | (simp; omega) | omega)
  rw [hW0]
  clear hW0
  obtain ⟨p, hp⟩ : ∃ p, w.heap.size = p := ⟨_, rfl⟩
  obtain ⟨q, hq⟩ : ∃ q, w.heap.size + 1 = q := ⟨_, rfl⟩
  rw [hq, hp]
  rw [hp] at gp
  rw [hq] at gq
  have lp : p < W0.heap.size := by omega
  have lq : q < W0.heap.size := by omega
  have hpq : p ≠ q := by omega
  have hwp : w.heap.size = p := hp
  have hwq : w.heap.size ≤ q := by omega
  have HR0 := hide (HR.out.below gB)
  have GB := hide gB
  have GP := hide gp
  have GQ := hide gq
  have cp0 := (blk_cell gp 0).trans rfl; have cp1 := (blk_cell gp 1).trans rfl
  have cq0 := (blk_cell gq 0).trans rfl; have cq1 := (blk_cell gq 1).trans rfl
  have fq0 := blk_frozen gq 0; have fq1 := blk_frozen gq 1
  clear gp gq gB HR hp hq gs
  go_upto_region 4 with (go_at_call 57; refine (refWithin_any _ _ _ _).mono ?_; rintro e w4 ⟨rfl, rfl⟩; first | rw [X1] | rw [X2])
  clear X1 X2 cp0 cp1 cq0 cq1 fq0 fq1
  go_loopw [4, 7] (fun m t wr => ∃ i : Nat, i ≤ n ∧ t = .int .i64 i ∧ (∃ s : L.Rs, Hid (L.runFrom each more L.rs0 (l.take i) = s) ∧ Hid (s.bad = false) ∧ Hid (L.RsBd s i) ∧ s.ds.length ≤ i ∧ (∃ sv c', m = .slice sv s.ds.length c' ∧ Hid (wr.ownsRow W0.heap.size 3 1 (.slice sv s.ds.length c') s.ds.length (flatI s.ds))) ∧ Hid (wr.heap[q]? = some (.cells #[.int .i64 s.l0, .int .i64 s.l1] 64 (0, 0)))) ∧ Keeps (fun y => y ≠ q) W0 wr) (fun _ t _ => n - (intOf t).toNat)
  case atStart => exact ⟨0, by omega, rfl, ⟨L.rs0, hide rfl, hide rfl, hide ⟨by decide, by decide, by decide, by decide⟩, by decide, ⟨none, 0, rfl, hide (World.ownsRow_nil _ _ _ _)⟩, GQ⟩, Keeps.refl _ _⟩
  case round =>
    obtain ⟨i, hi, rfl, ⟨s, HS, HSB, HBD, hsl, ⟨sv, c', rfl, hown⟩, HQ⟩, hK⟩ := hrel
    have qK := hK.rest.size
    have lpr : p < wr.heap.size := by omega
    have lqr : q < wr.heap.size := by omega
    have hi0 : (0 : Int) ≤ (i : Int) := by omega
    have HW := hide (hK.below (n := w.heap.size) (fun y hy => by show y ≠ q; omega) (by omega))
    have GBr := hide (GB.out.trans HW.out)
    obtain ⟨a0, a1, b0, b1⟩ := HBD.out
    by_cases hlt : i < n
    · obtain ⟨a, ha⟩ : ∃ a, l[i]? = some a := ⟨_, List.getElem?_eq_getElem (by have := HN.out; omega)⟩
      obtain ⟨b, o, hA, hbB, hat⟩ := (HR0.out.below HW.out) i a ha
      subst hA
      have HNX := hide (show L.runFrom each more L.rs0 (l.take (i + 1)) = L.stepR each more s a by rw [L.runFrom_take ha (by rw [HS.out]; exact HSB.out), HS.out])
      have HNB := hide (L.stepR_bd (a := a) HBD.out e0 e9 o0 o9)
      have HBADX := hide (show (L.stepR each more s a).bad = true → L.runBad each more l = true from fun h => by
        unfold L.runBad L.runR
        rw [L.runFrom_stay (i := i + 1) (by rw [HNX.out]; exact h), Bool.or_true])
      have hlt' : (i : Int) < (n : Int) := by omega
      obtain ⟨c0, c1, c2, c3, c4, c5, c6, c7, c8, c9, c10, c11, c12, c13, hlen, hrd, hnil⟩ := hat
      have HLEN := hide hlen
      have HRD := hide (hrd.mono (B' := wr.heap.size) (by omega))
      clear ha hlen hrd hnil
      go_upto_region 7 with fail
      obtain ⟨W1, hW1⟩ : ∃ W1, wr.alloc (.cells #[.int .i64 a.kind, .int .i64 a.side, .int .i64 a.said, .int .i64 a.v.size, .slice a.A a.n a.c, .int .i64 a.v.wrong, .int .i64 a.v.hxl, .int .i64 a.v.hxh, .int .i64 a.v.hyl, .int .i64 a.v.hyh, .int .i64 a.b.l, .int .i64 a.b.r, .int .i64 a.b.b, .int .i64 a.b.t] 66) = W1 := ⟨_, rfl⟩
      have gk : W1.heap[wr.heap.size]? = some (.cells #[.int .i64 a.kind, .int .i64 a.side, .int .i64 a.said, .int .i64 a.v.size, .slice a.A a.n a.c, .int .i64 a.v.wrong, .int .i64 a.v.hxl, .int .i64 a.v.hxh, .int .i64 a.v.hyl, .int .i64 a.v.hyh, .int .i64 a.b.l, .int .i64 a.b.r, .int .i64 a.b.b, .int .i64 a.b.t] 66 (0, 0)) := by rw [← hW1]; exact World.alloc_heap_new _ _
      have gq : W1.heap[q]? = some (.cells #[.int .i64 s.l0, .int .i64 s.l1] 64 (0, 0)) := by rw [← hW1]; exact (Below.heap_alloc _ _ _ lqr).trans HQ.out
      have gp : W1.heap[p]? = some (.cells #[.int .i64 each, .int .i64 more] 62 (0, 0)) := by rw [← hW1]; exact (Below.heap_alloc _ _ _ lpr).trans ((hK.same p hpq lp).trans GP.out)
      have gs : W1.heap.size = wr.heap.size + 1 := by rw [← hW1]; simp
      have gK : Keeps (fun y => y ≠ q) W0 W1 := by rw [← hW1]; exact hK.alloc _
      have gO : W1.ownsRow W0.heap.size 3 1 (.slice sv s.ds.length c') s.ds.length (flatI s.ds) := by rw [← hW1]; exact hown.out.alloc _
      have gB : Below wr.heap.size wr W1 := by rw [← hW1]; (repeat' first | exact zbR _ _ | assumption | refine zbD ?_ | refine zbA ?_ ?_ _ | refine zbS ?_ ?_ _ | refine zbT ?_ (by assumption) ?_ | (simp; done) | (simp; omega) | omega)
      rw [hW1]
      clear hW1 c0 c1 c2 c3 c4 c5 c6 c7 c8 c9 c10 c11 c12 c13
      obtain ⟨k, hk⟩ : ∃ k, wr.heap.size = k := ⟨_, rfl⟩
      have hOlt : ∀ g, (Value.slice sv s.ds.length c').ownBlock = some g → W0.heap.size ≤ g ∧ g < k := fun g hg => by rw [← hk]; exact hown.out.lt g hg
      rw [hk] at gk gs ⊢
      have lk : k < W1.heap.size := by omega
      have lq1 : q < W1.heap.size := by omega
      have lp1 : p < W1.heap.size := by omega
      have hkq : k ≠ q := by omega
      have HRD1 := hide ((HRD.out.below gB).mono gB.size)
      have GB1 := hide (GBr.out.trans (gB.mono GBr.out.size))
      have HOW := hide gO
      have GK := hide gK
      have w01 : W0.heap.size ≤ W1.heap.size := gK.rest.size
      have GQ1 := hide gq
      have GKB := hide gk
      have HOL := hide hOlt
      have ck0 := (blk_cell gk 0).trans rfl; have ck1 := (blk_cell gk 1).trans rfl; have ck2 := (blk_cell gk 2).trans rfl; have ck3 := (blk_cell gk 3).trans rfl; have ck4 := (blk_cell gk 4).trans rfl; have ck5 := (blk_cell gk 5).trans rfl; have ck6 := (blk_cell gk 6).trans rfl; have ck7 := (blk_cell gk 7).trans rfl; have ck8 := (blk_cell gk 8).trans rfl; have ck9 := (blk_cell gk 9).trans rfl; have ck10 := (blk_cell gk 10).trans rfl; have ck11 := (blk_cell gk 11).trans rfl; have ck12 := (blk_cell gk 12).trans rfl; have ck13 := (blk_cell gk 13).trans rfl
      have cq0 := (blk_cell gq 0).trans rfl; have cq1 := (blk_cell gq 1).trans rfl
      have cp0 := (blk_cell gp 0).trans rfl; have cp1 := (blk_cell gp 1).trans rfl
      have fq0 := blk_frozen gq 0; have fq1 := blk_frozen gq 1
      have l0q : (0 : Nat) < 2 := by omega
      clear gk gq gp gK gO gB hown HQ hK hk HRD HW GBr qK hOlt lpr lqr hbB gs
      by_cases hk1 : a.kind = 1
      · have d1 : (a.kind == 1) = true := by rw [hk1]; rfl
        have d2 : (a.kind == 2) = false := by rw [hk1]; rfl
        have d3 : (a.kind == 3) = false := by rw [hk1]; rfl
        have KW : L.within a.kind 1 3 = true := by rw [hk1]; rfl
        have HE := hide (show L.stepR each more s a = { s with l0 := each, l1 := each } by unfold L.stepR; rw [if_pos hk1])
        clear hk1 HBADX
        cases a0s : (a.side != 0) <;> cases a1s : (a.side != 1)
        all_goals
          go_wp2_with (go_at_call 57; refine (refWithin_any _ _ _ _).mono ?_; rintro e w4 ⟨rfl, rfl⟩; rw [KW])
          go_roundw
          case rel => exact ⟨i + 1, by omega, by go_num, ⟨_, HNX, hide (by rw [HE.out]; exact HSB.out), HNB, by rw [HE.out]; show s.ds.length ≤ i + 1; omega, ⟨sv, c', by rw [HE.out], hide (by rw [HE.out]; exact ownsRow_setCell_below (ownsRow_setCell_below HOW.out lq _) lq _)⟩, hide (by rw [HE.out]; exact blk_set (blk_set GQ1.out 0 _) 1 _)⟩, (GK.out.st (fun h => h rfl)).st (fun h => h rfl)⟩
          case measure => simp [intOf]; omega
      · by_cases hk2 : a.kind = 2
        · have d1 : (a.kind == 1) = false := by rw [hk2]; rfl
          have d2 : (a.kind == 2) = true := by rw [hk2]; rfl
          have d3 : (a.kind == 3) = false := by rw [hk2]; rfl
          have KW : L.within a.kind 1 3 = true := by rw [hk2]; rfl
          have HE := hide (show L.stepR each more s a = { s with l0 := s.l0 + more, l1 := s.l1 + more } by unfold L.stepR; rw [if_neg hk1, if_pos hk2])
          clear hk1 hk2 HBADX
          cases a0s : (a.side != 0) <;> cases a1s : (a.side != 1)
          all_goals
            go_wp2_with (go_at_call 57; refine (refWithin_any _ _ _ _).mono ?_; rintro e w4 ⟨rfl, rfl⟩; rw [KW])
            go_roundw
            case rel => exact ⟨i + 1, by omega, by go_num, ⟨_, HNX, hide (by rw [HE.out]; exact HSB.out), HNB, by rw [HE.out]; show s.ds.length ≤ i + 1; omega, ⟨sv, c', by rw [HE.out], hide (by rw [HE.out]; exact ownsRow_setCell_below (ownsRow_setCell_below HOW.out lq _) lq _)⟩, hide (by rw [HE.out]; exact blk_set (blk_set GQ1.out 0 _) 1 _)⟩, (GK.out.st (fun h => h rfl)).st (fun h => h rfl)⟩
            case measure => simp [intOf]; omega
        · by_cases hk3 : a.kind = 3
          · have d1 : (a.kind == 1) = false := by rw [hk3]; rfl
            have d2 : (a.kind == 2) = false := by rw [hk3]; rfl
            have d3 : (a.kind == 3) = true := by rw [hk3]; rfl
            have KW : L.within a.kind 1 3 = true := by rw [hk3]; rfl
            obtain ⟨dv, hdv⟩ : ∃ dv, L.decV a.said a.v a.b = dv := ⟨_, rfl⟩
            obtain ⟨dk, hdk⟩ : ∃ dk, L.decK a.said a.v a.b = dk := ⟨_, rfl⟩
            obtain ⟨de, hde⟩ : ∃ de, L.decE a.said a.v a.b = de := ⟨_, rfl⟩
            have HDV := hide hdv
            have HDK := hide hdk
            have HDE := hide hde
            have HE3 := hide (show L.stepR each more s a = if L.askOk a s then { s with ds := s.ds ++ [dv], l0 := if a.side = 0 ∧ dk = false then s.l0 - 1 else s.l0, l1 := if a.side = 1 ∧ dk = false then s.l1 - 1 else s.l1 } else { s with bad := true } by unfold L.stepR; rw [if_neg hk1, if_neg hk2, if_pos hk3, hdv, hdk])
            have HAO := hide (show L.askOk a s = (decide (de = 0) && L.within a.side 0 1 && !(s.left a.side == 0)) by unfold L.askOk; rw [hde])
            clear hk1 hk2 hk3 hdv hdk hde
            by_cases hs0 : a.side = 0
            · have SW : L.within a.side 0 1 = true := by rw [hs0]; rfl
              have SL : s.left a.side = s.l0 := by unfold L.Rs.left; rw [hs0]; rfl
              rw [hs0] at ck1
              have n0 : ((0 : Int) != 0) = false := by rfl
              have n1 : ((0 : Int) != 1) = true := by rfl
              by_cases hd : de = 0
              · by_cases hl : s.l0 = 0
                · have HE := hide (show (L.stepR each more s a).bad = true by rw [HE3.out, HAO.out, SW, SL, hl]; simp)
                  have dl : (s.l0 == 0) = true := by rw [hl]; rfl
                  subst hd
                  clear SL hl
                  go_wp2_with (first | (go_at_call 43; refine (refDecide_any a.said a.v a.A a.n a.c a.b _ HLEN.out ((HRD1.out.below (by (repeat' first | exact zbR _ _ | assumption | refine zbD ?_ | refine zbA ?_ ?_ _ | refine zbS ?_ ?_ _ | refine zbT ?_ (by assumption) ?_ | (simp; done) | (simp; omega) | omega))).mono (by first | (simp; done) | (simp; omega) | omega))).mono ?_; rintro e w3 ⟨rfl, hb3⟩; rw [HDE.out, HDV.out, HDK.out]; obtain ⟨hc3, hf3⟩ := bcell hb3; have q3 := hb3.size; have z3k : k < w3.heap.size := (by omega); have z3q : q < w3.heap.size := (by omega); have z3p : p < w3.heap.size := (by omega); have c3q0 : w3.cell? ⟨q, 0, none⟩ = some (.int .i64 s.l0) := (hb3.cell (p := ⟨q, 0, none⟩) lq1).trans cq0; have c3q1 : w3.cell? ⟨q, 1, none⟩ = some (.int .i64 s.l1) := (hb3.cell (p := ⟨q, 1, none⟩) lq1).trans cq1; have c3k1 := (hb3.cell (p := ⟨k, 1, none⟩) lk).trans ck1) | (go_at_call 57; refine (refWithin_any _ _ _ _).mono ?_; rintro e w4 ⟨rfl, rfl⟩; rw [KW]))
                  refine bodyPost_ret (v := .tuple #[.slice none 0 0, .agg #[.int .i64 0, .int .i64 0], .int .i64 23]) (refRun_results (blk_set (blk_set ((hb3.block q lq1).trans GQ1.out) 0 (.int .i64 0)) 1 (.int .i64 0)) rfl rfl rfl rfl) rfl ?_
                  exact run_bad (HBADX.out HE.out) (zbS (zbS (GB1.out.trans (hb3.mono (by have := GB1.out.size; omega))) hwq _) hwq _)
                · have HOKA : L.askOk a s = true := by rw [HAO.out, SW, SL, hd]; simp [hl]
                  have dl : (s.l0 == 0) = false := by simpa using hl
                  subst hd
                  cases hdk : dk
                  · have HE := hide (show L.stepR each more s a = { s with ds := s.ds ++ [dv], l0 := s.l0 - 1 } by rw [HE3.out, HOKA, hdk, hs0]; rfl)
                    have HL := hide (show (s.ds ++ [dv]).length = s.ds.length + 1 by simp)
                    subst hdk
                    clear SL hl HOKA HE3 HAO HBADX
                    go_wp2_with (first | (go_at_call 43; refine (refDecide_any a.said a.v a.A a.n a.c a.b _ HLEN.out ((HRD1.out.below (by (repeat' first | exact zbR _ _ | assumption | refine zbD ?_ | refine zbA ?_ ?_ _ | refine zbS ?_ ?_ _ | refine zbT ?_ (by assumption) ?_ | (simp; done) | (simp; omega) | omega))).mono (by first | (simp; done) | (simp; omega) | omega))).mono ?_; rintro e w3 ⟨rfl, hb3⟩; rw [HDE.out, HDV.out, HDK.out]; obtain ⟨hc3, hf3⟩ := bcell hb3; have q3 := hb3.size; have z3k : k < w3.heap.size := (by omega); have z3q : q < w3.heap.size := (by omega); have z3p : p < w3.heap.size := (by omega); have c3q0 : w3.cell? ⟨q, 0, none⟩ = some (.int .i64 s.l0) := (hb3.cell (p := ⟨q, 0, none⟩) lq1).trans cq0; have c3q1 : w3.cell? ⟨q, 1, none⟩ = some (.int .i64 s.l1) := (hb3.cell (p := ⟨q, 1, none⟩) lq1).trans cq1; have c3k1 := (hb3.cell (p := ⟨k, 1, none⟩) lk).trans ck1) | (go_at_call 57; refine (refWithin_any _ _ _ _).mono ?_; rintro e w4 ⟨rfl, rfl⟩; rw [KW]) | (refine wpList_app_at rfl (.tmp 103) (.tmp 105) rfl W0.heap.size _ s.ds _ rfl ((owns_below HOW.out (hb3.mono (by omega))).alloc _) (some ⟨_, 0, none⟩) 1 1 [dv] rfl rfl (rdI_one (World.alloc_heap_new _ _)) (fun e => by cases e) (by omega) (by omega) (by simp; omega) ?_; intro A2 c2 w7 hown2 hgrow; have HO2 := hide hown2; have ck71 := (hgrow.cell_far ⟨k, 1, none⟩ (by simp; omega) (by intro e; have := HOL.out k e.symm; omega)).trans ((zcP _ _ _ z3k).trans ((hb3.cell (p := ⟨k, 1, none⟩) lk).trans ck1)); have gq7 := (hgrow.block q (by simp; omega) (by intro e; have := HOL.out q e.symm; omega)).trans ((Below.heap_alloc _ _ _ z3q).trans ((hb3.block q lq1).trans GQ1.out)); have GQ7 := hide gq7; have cq70 := (blk_cell gq7 0).trans rfl; have cq71 := (blk_cell gq7 1).trans rfl; have fq70 := blk_frozen gq7 0; have fq71 := blk_frozen gq7 1; have z7 := hgrow.size; (try simp at z7); have z7k : k < w7.heap.size := (by omega); have z7q : q < w7.heap.size := (by omega); have hg7 := grown_below (B := W0.heap.size) hgrow (by simp; omega) (fun g hg => (HOL.out g hg).1); have GK7 := hide (((GK.out.trans (Keeps.of_below hb3)).alloc _).then_below hg7); clear hown2 hgrow gq7))
                    go_roundw
                    case rel => exact ⟨i + 1, by omega, by go_num, ⟨_, HNX, hide (by rw [HE.out]; exact HSB.out), HNB, by rw [HE.out]; show (s.ds ++ [dv]).length ≤ i + 1; have := HL.out; omega, ⟨A2, c2, by rw [HE.out, ← HL.out], hide (by rw [HE.out]; show World.ownsRow _ _ _ _ (.slice A2 (s.ds ++ [dv]).length c2) (s.ds ++ [dv]).length _; rw [HL.out]; exact ownsRow_setCell_below HO2.out lq _)⟩, hide (by rw [HE.out]; exact blk_set GQ7.out 0 _)⟩, GK7.out.st (fun h => h rfl)⟩
                    case measure => simp [intOf]; omega
                  · have HE := hide (show L.stepR each more s a = { s with ds := s.ds ++ [dv] } by rw [HE3.out, HOKA, hdk]; simp)
                    have HL := hide (show (s.ds ++ [dv]).length = s.ds.length + 1 by simp)
                    subst hdk
                    clear SL hl HOKA HE3 HAO HBADX
                    go_wp2_with (first | (go_at_call 43; refine (refDecide_any a.said a.v a.A a.n a.c a.b _ HLEN.out ((HRD1.out.below (by (repeat' first | exact zbR _ _ | assumption | refine zbD ?_ | refine zbA ?_ ?_ _ | refine zbS ?_ ?_ _ | refine zbT ?_ (by assumption) ?_ | (simp; done) | (simp; omega) | omega))).mono (by first | (simp; done) | (simp; omega) | omega))).mono ?_; rintro e w3 ⟨rfl, hb3⟩; rw [HDE.out, HDV.out, HDK.out]; obtain ⟨hc3, hf3⟩ := bcell hb3; have q3 := hb3.size; have z3k : k < w3.heap.size := (by omega); have z3q : q < w3.heap.size := (by omega); have z3p : p < w3.heap.size := (by omega); have c3q0 : w3.cell? ⟨q, 0, none⟩ = some (.int .i64 s.l0) := (hb3.cell (p := ⟨q, 0, none⟩) lq1).trans cq0; have c3q1 : w3.cell? ⟨q, 1, none⟩ = some (.int .i64 s.l1) := (hb3.cell (p := ⟨q, 1, none⟩) lq1).trans cq1; have c3k1 := (hb3.cell (p := ⟨k, 1, none⟩) lk).trans ck1) | (go_at_call 57; refine (refWithin_any _ _ _ _).mono ?_; rintro e w4 ⟨rfl, rfl⟩; rw [KW]) | (refine wpList_app_at rfl (.tmp 103) (.tmp 105) rfl W0.heap.size _ s.ds _ rfl ((owns_below HOW.out (hb3.mono (by omega))).alloc _) (some ⟨_, 0, none⟩) 1 1 [dv] rfl rfl (rdI_one (World.alloc_heap_new _ _)) (fun e => by cases e) (by omega) (by omega) (by simp; omega) ?_; intro A2 c2 w7 hown2 hgrow; have HO2 := hide hown2; have ck71 := (hgrow.cell_far ⟨k, 1, none⟩ (by simp; omega) (by intro e; have := HOL.out k e.symm; omega)).trans ((zcP _ _ _ z3k).trans ((hb3.cell (p := ⟨k, 1, none⟩) lk).trans ck1)); have gq7 := (hgrow.block q (by simp; omega) (by intro e; have := HOL.out q e.symm; omega)).trans ((Below.heap_alloc _ _ _ z3q).trans ((hb3.block q lq1).trans GQ1.out)); have GQ7 := hide gq7; have cq70 := (blk_cell gq7 0).trans rfl; have cq71 := (blk_cell gq7 1).trans rfl; have fq70 := blk_frozen gq7 0; have fq71 := blk_frozen gq7 1; have z7 := hgrow.size; (try simp at z7); have z7k : k < w7.heap.size := (by omega); have z7q : q < w7.heap.size := (by omega); have hg7 := grown_below (B := W0.heap.size) hgrow (by simp; omega) (fun g hg => (HOL.out g hg).1); have GK7 := hide (((GK.out.trans (Keeps.of_below hb3)).alloc _).then_below hg7); clear hown2 hgrow gq7))
                    go_roundw
                    case rel => exact ⟨i + 1, by omega, by go_num, ⟨_, HNX, hide (by rw [HE.out]; exact HSB.out), HNB, by rw [HE.out]; show (s.ds ++ [dv]).length ≤ i + 1; have := HL.out; omega, ⟨A2, c2, by rw [HE.out, ← HL.out], hide (by rw [HE.out]; show World.ownsRow _ _ _ _ (.slice A2 (s.ds ++ [dv]).length c2) (s.ds ++ [dv]).length _; rw [HL.out]; exact HO2.out)⟩, hide (by rw [HE.out]; exact GQ7.out)⟩, GK7.out⟩
                    case measure => simp [intOf]; omega
              · have HE := hide (show (L.stepR each more s a).bad = true by rw [HE3.out, HAO.out, decide_eq_false hd]; rfl)
                have dd : (de == 0) = false := by simpa using hd
                have dd' : (de != 0) = true := by simpa using hd
                clear SL hd
                go_wp2_with (first | (go_at_call 43; refine (refDecide_any a.said a.v a.A a.n a.c a.b _ HLEN.out ((HRD1.out.below (by (repeat' first | exact zbR _ _ | assumption | refine zbD ?_ | refine zbA ?_ ?_ _ | refine zbS ?_ ?_ _ | refine zbT ?_ (by assumption) ?_ | (simp; done) | (simp; omega) | omega))).mono (by first | (simp; done) | (simp; omega) | omega))).mono ?_; rintro e w3 ⟨rfl, hb3⟩; rw [HDE.out, HDV.out, HDK.out]; obtain ⟨hc3, hf3⟩ := bcell hb3; have q3 := hb3.size; have z3k : k < w3.heap.size := (by omega); have z3q : q < w3.heap.size := (by omega); have z3p : p < w3.heap.size := (by omega); have c3q0 : w3.cell? ⟨q, 0, none⟩ = some (.int .i64 s.l0) := (hb3.cell (p := ⟨q, 0, none⟩) lq1).trans cq0; have c3q1 : w3.cell? ⟨q, 1, none⟩ = some (.int .i64 s.l1) := (hb3.cell (p := ⟨q, 1, none⟩) lq1).trans cq1; have c3k1 := (hb3.cell (p := ⟨k, 1, none⟩) lk).trans ck1) | (go_at_call 57; refine (refWithin_any _ _ _ _).mono ?_; rintro e w4 ⟨rfl, rfl⟩; rw [KW]))
                refine bodyPost_ret (v := .tuple #[.slice none 0 0, .agg #[.int .i64 0, .int .i64 0], .int .i64 23]) (refRun_results (blk_set (blk_set ((hb3.block q lq1).trans GQ1.out) 0 (.int .i64 0)) 1 (.int .i64 0)) rfl rfl rfl rfl) rfl ?_
                exact run_bad (HBADX.out HE.out) (zbS (zbS (GB1.out.trans (hb3.mono (by have := GB1.out.size; omega))) hwq _) hwq _)
            · by_cases hs1 : a.side = 1
              · have SW : L.within a.side 0 1 = true := by rw [hs1]; rfl
                have SL : s.left a.side = s.l1 := by unfold L.Rs.left; rw [hs1]; rfl
                rw [hs1] at ck1
                have n0 : ((1 : Int) != 0) = true := by rfl
                have n1 : ((1 : Int) != 1) = false := by rfl
                by_cases hd : de = 0
                · by_cases hl : s.l1 = 0
                  · have HE := hide (show (L.stepR each more s a).bad = true by rw [HE3.out, HAO.out, SW, SL, hl]; simp)
                    have dl : (s.l1 == 0) = true := by rw [hl]; rfl
                    subst hd
                    clear SL hl
                    go_wp2_with (first | (go_at_call 43; refine (refDecide_any a.said a.v a.A a.n a.c a.b _ HLEN.out ((HRD1.out.below (by (repeat' first | exact zbR _ _ | assumption | refine zbD ?_ | refine zbA ?_ ?_ _ | refine zbS ?_ ?_ _ | refine zbT ?_ (by assumption) ?_ | (simp; done) | (simp; omega) | omega))).mono (by first | (simp; done) | (simp; omega) | omega))).mono ?_; rintro e w3 ⟨rfl, hb3⟩; rw [HDE.out, HDV.out, HDK.out]; obtain ⟨hc3, hf3⟩ := bcell hb3; have q3 := hb3.size; have z3k : k < w3.heap.size := (by omega); have z3q : q < w3.heap.size := (by omega); have z3p : p < w3.heap.size := (by omega); have c3q0 : w3.cell? ⟨q, 0, none⟩ = some (.int .i64 s.l0) := (hb3.cell (p := ⟨q, 0, none⟩) lq1).trans cq0; have c3q1 : w3.cell? ⟨q, 1, none⟩ = some (.int .i64 s.l1) := (hb3.cell (p := ⟨q, 1, none⟩) lq1).trans cq1; have c3k1 := (hb3.cell (p := ⟨k, 1, none⟩) lk).trans ck1) | (go_at_call 57; refine (refWithin_any _ _ _ _).mono ?_; rintro e w4 ⟨rfl, rfl⟩; rw [KW]))
                    refine bodyPost_ret (v := .tuple #[.slice none 0 0, .agg #[.int .i64 0, .int .i64 0], .int .i64 23]) (refRun_results (blk_set (blk_set ((hb3.block q lq1).trans GQ1.out) 0 (.int .i64 0)) 1 (.int .i64 0)) rfl rfl rfl rfl) rfl ?_
                    exact run_bad (HBADX.out HE.out) (zbS (zbS (GB1.out.trans (hb3.mono (by have := GB1.out.size; omega))) hwq _) hwq _)
                  · have HOKA : L.askOk a s = true := by rw [HAO.out, SW, SL, hd]; simp [hl]
                    have dl : (s.l1 == 0) = false := by simpa using hl
                    subst hd
                    cases hdk : dk
                    · have HE := hide (show L.stepR each more s a = { s with ds := s.ds ++ [dv], l1 := s.l1 - 1 } by rw [HE3.out, HOKA, hdk, hs1]; rfl)
                      have HL := hide (show (s.ds ++ [dv]).length = s.ds.length + 1 by simp)
                      subst hdk
                      clear SL hl HOKA HE3 HAO HBADX
                      go_wp2_with (first | (go_at_call 43; refine (refDecide_any a.said a.v a.A a.n a.c a.b _ HLEN.out ((HRD1.out.below (by (repeat' first | exact zbR _ _ | assumption | refine zbD ?_ | refine zbA ?_ ?_ _ | refine zbS ?_ ?_ _ | refine zbT ?_ (by assumption) ?_ | (simp; done) | (simp; omega) | omega))).mono (by first | (simp; done) | (simp; omega) | omega))).mono ?_; rintro e w3 ⟨rfl, hb3⟩; rw [HDE.out, HDV.out, HDK.out]; obtain ⟨hc3, hf3⟩ := bcell hb3; have q3 := hb3.size; have z3k : k < w3.heap.size := (by omega); have z3q : q < w3.heap.size := (by omega); have z3p : p < w3.heap.size := (by omega); have c3q0 : w3.cell? ⟨q, 0, none⟩ = some (.int .i64 s.l0) := (hb3.cell (p := ⟨q, 0, none⟩) lq1).trans cq0; have c3q1 : w3.cell? ⟨q, 1, none⟩ = some (.int .i64 s.l1) := (hb3.cell (p := ⟨q, 1, none⟩) lq1).trans cq1; have c3k1 := (hb3.cell (p := ⟨k, 1, none⟩) lk).trans ck1) | (go_at_call 57; refine (refWithin_any _ _ _ _).mono ?_; rintro e w4 ⟨rfl, rfl⟩; rw [KW]) | (refine wpList_app_at rfl (.tmp 103) (.tmp 105) rfl W0.heap.size _ s.ds _ rfl ((owns_below HOW.out (hb3.mono (by omega))).alloc _) (some ⟨_, 0, none⟩) 1 1 [dv] rfl rfl (rdI_one (World.alloc_heap_new _ _)) (fun e => by cases e) (by omega) (by omega) (by simp; omega) ?_; intro A2 c2 w7 hown2 hgrow; have HO2 := hide hown2; have ck71 := (hgrow.cell_far ⟨k, 1, none⟩ (by simp; omega) (by intro e; have := HOL.out k e.symm; omega)).trans ((zcP _ _ _ z3k).trans ((hb3.cell (p := ⟨k, 1, none⟩) lk).trans ck1)); have gq7 := (hgrow.block q (by simp; omega) (by intro e; have := HOL.out q e.symm; omega)).trans ((Below.heap_alloc _ _ _ z3q).trans ((hb3.block q lq1).trans GQ1.out)); have GQ7 := hide gq7; have cq70 := (blk_cell gq7 0).trans rfl; have cq71 := (blk_cell gq7 1).trans rfl; have fq70 := blk_frozen gq7 0; have fq71 := blk_frozen gq7 1; have z7 := hgrow.size; (try simp at z7); have z7k : k < w7.heap.size := (by omega); have z7q : q < w7.heap.size := (by omega); have hg7 := grown_below (B := W0.heap.size) hgrow (by simp; omega) (fun g hg => (HOL.out g hg).1); have GK7 := hide (((GK.out.trans (Keeps.of_below hb3)).alloc _).then_below hg7); clear hown2 hgrow gq7))
                      go_roundw
                      case rel => exact ⟨i + 1, by omega, by go_num, ⟨_, HNX, hide (by rw [HE.out]; exact HSB.out), HNB, by rw [HE.out]; show (s.ds ++ [dv]).length ≤ i + 1; have := HL.out; omega, ⟨A2, c2, by rw [HE.out, ← HL.out], hide (by rw [HE.out]; show World.ownsRow _ _ _ _ (.slice A2 (s.ds ++ [dv]).length c2) (s.ds ++ [dv]).length _; rw [HL.out]; exact ownsRow_setCell_below HO2.out lq _)⟩, hide (by rw [HE.out]; exact blk_set GQ7.out 1 _)⟩, GK7.out.st (fun h => h rfl)⟩
                      case measure => simp [intOf]; omega
                    · have HE := hide (show L.stepR each more s a = { s with ds := s.ds ++ [dv] } by rw [HE3.out, HOKA, hdk]; simp)
                      have HL := hide (show (s.ds ++ [dv]).length = s.ds.length + 1 by simp)
                      subst hdk
                      clear SL hl HOKA HE3 HAO HBADX
                      go_wp2_with (first | (go_at_call 43; refine (refDecide_any a.said a.v a.A a.n a.c a.b _ HLEN.out ((HRD1.out.below (by (repeat' first | exact zbR _ _ | assumption | refine zbD ?_ | refine zbA ?_ ?_ _ | refine zbS ?_ ?_ _ | refine zbT ?_ (by assumption) ?_ | (simp; done) | (simp; omega) | omega))).mono (by first | (simp; done) | (simp; omega) | omega))).mono ?_; rintro e w3 ⟨rfl, hb3⟩; rw [HDE.out, HDV.out, HDK.out]; obtain ⟨hc3, hf3⟩ := bcell hb3; have q3 := hb3.size; have z3k : k < w3.heap.size := (by omega); have z3q : q < w3.heap.size := (by omega); have z3p : p < w3.heap.size := (by omega); have c3q0 : w3.cell? ⟨q, 0, none⟩ = some (.int .i64 s.l0) := (hb3.cell (p := ⟨q, 0, none⟩) lq1).trans cq0; have c3q1 : w3.cell? ⟨q, 1, none⟩ = some (.int .i64 s.l1) := (hb3.cell (p := ⟨q, 1, none⟩) lq1).trans cq1; have c3k1 := (hb3.cell (p := ⟨k, 1, none⟩) lk).trans ck1) | (go_at_call 57; refine (refWithin_any _ _ _ _).mono ?_; rintro e w4 ⟨rfl, rfl⟩; rw [KW]) | (refine wpList_app_at rfl (.tmp 103) (.tmp 105) rfl W0.heap.size _ s.ds _ rfl ((owns_below HOW.out (hb3.mono (by omega))).alloc _) (some ⟨_, 0, none⟩) 1 1 [dv] rfl rfl (rdI_one (World.alloc_heap_new _ _)) (fun e => by cases e) (by omega) (by omega) (by simp; omega) ?_; intro A2 c2 w7 hown2 hgrow; have HO2 := hide hown2; have ck71 := (hgrow.cell_far ⟨k, 1, none⟩ (by simp; omega) (by intro e; have := HOL.out k e.symm; omega)).trans ((zcP _ _ _ z3k).trans ((hb3.cell (p := ⟨k, 1, none⟩) lk).trans ck1)); have gq7 := (hgrow.block q (by simp; omega) (by intro e; have := HOL.out q e.symm; omega)).trans ((Below.heap_alloc _ _ _ z3q).trans ((hb3.block q lq1).trans GQ1.out)); have GQ7 := hide gq7; have cq70 := (blk_cell gq7 0).trans rfl; have cq71 := (blk_cell gq7 1).trans rfl; have fq70 := blk_frozen gq7 0; have fq71 := blk_frozen gq7 1; have z7 := hgrow.size; (try simp at z7); have z7k : k < w7.heap.size := (by omega); have z7q : q < w7.heap.size := (by omega); have hg7 := grown_below (B := W0.heap.size) hgrow (by simp; omega) (fun g hg => (HOL.out g hg).1); have GK7 := hide (((GK.out.trans (Keeps.of_below hb3)).alloc _).then_below hg7); clear hown2 hgrow gq7))
                      go_roundw
                      case rel => exact ⟨i + 1, by omega, by go_num, ⟨_, HNX, hide (by rw [HE.out]; exact HSB.out), HNB, by rw [HE.out]; show (s.ds ++ [dv]).length ≤ i + 1; have := HL.out; omega, ⟨A2, c2, by rw [HE.out, ← HL.out], hide (by rw [HE.out]; show World.ownsRow _ _ _ _ (.slice A2 (s.ds ++ [dv]).length c2) (s.ds ++ [dv]).length _; rw [HL.out]; exact HO2.out)⟩, hide (by rw [HE.out]; exact GQ7.out)⟩, GK7.out⟩
                      case measure => simp [intOf]; omega
                · have HE := hide (show (L.stepR each more s a).bad = true by rw [HE3.out, HAO.out, decide_eq_false hd]; rfl)
                  have dd : (de == 0) = false := by simpa using hd
                  have dd' : (de != 0) = true := by simpa using hd
                  clear SL hd
                  go_wp2_with (first | (go_at_call 43; refine (refDecide_any a.said a.v a.A a.n a.c a.b _ HLEN.out ((HRD1.out.below (by (repeat' first | exact zbR _ _ | assumption | refine zbD ?_ | refine zbA ?_ ?_ _ | refine zbS ?_ ?_ _ | refine zbT ?_ (by assumption) ?_ | (simp; done) | (simp; omega) | omega))).mono (by first | (simp; done) | (simp; omega) | omega))).mono ?_; rintro e w3 ⟨rfl, hb3⟩; rw [HDE.out, HDV.out, HDK.out]; obtain ⟨hc3, hf3⟩ := bcell hb3; have q3 := hb3.size; have z3k : k < w3.heap.size := (by omega); have z3q : q < w3.heap.size := (by omega); have z3p : p < w3.heap.size := (by omega); have c3q0 : w3.cell? ⟨q, 0, none⟩ = some (.int .i64 s.l0) := (hb3.cell (p := ⟨q, 0, none⟩) lq1).trans cq0; have c3q1 : w3.cell? ⟨q, 1, none⟩ = some (.int .i64 s.l1) := (hb3.cell (p := ⟨q, 1, none⟩) lq1).trans cq1; have c3k1 := (hb3.cell (p := ⟨k, 1, none⟩) lk).trans ck1) | (go_at_call 57; refine (refWithin_any _ _ _ _).mono ?_; rintro e w4 ⟨rfl, rfl⟩; rw [KW]))
                  refine bodyPost_ret (v := .tuple #[.slice none 0 0, .agg #[.int .i64 0, .int .i64 0], .int .i64 23]) (refRun_results (blk_set (blk_set ((hb3.block q lq1).trans GQ1.out) 0 (.int .i64 0)) 1 (.int .i64 0)) rfl rfl rfl rfl) rfl ?_
                  exact run_bad (HBADX.out HE.out) (zbS (zbS (GB1.out.trans (hb3.mono (by have := GB1.out.size; omega))) hwq _) hwq _)
              · have SW : L.within a.side 0 1 = false := by simp [L.within]; omega
                have s0 : (a.side == 0) = false := by simpa using hs0
                have s1 : (a.side == 1) = false := by simpa using hs1
                have s0' : (a.side != 0) = true := by simpa using hs0
                have s1' : (a.side != 1) = true := by simpa using hs1
                have HE := hide (show (L.stepR each more s a).bad = true by rw [HE3.out, HAO.out, SW]; simp)
                clear hs0 hs1
                go_wp2_with (go_at_call 57; refine (refWithin_any _ _ _ _).mono ?_; rintro e w4 ⟨rfl, rfl⟩; rw [KW])
                refine bodyPost_ret (v := .tuple #[.slice none 0 0, .agg #[.int .i64 0, .int .i64 0], .int .i64 23]) (refRun_results (blk_set (blk_set GQ1.out 0 (.int .i64 0)) 1 (.int .i64 0)) rfl rfl rfl rfl) rfl ?_
                exact run_bad (HBADX.out HE.out) (zbS (zbS GB1.out hwq _) hwq _)
          · have d1 : (a.kind == 1) = false := by simpa using hk1
            have d2 : (a.kind == 2) = false := by simpa using hk2
            have d3 : (a.kind == 3) = false := by simpa using hk3
            have KW : L.within a.kind 1 3 = false := by simp [L.within]; omega
            have HE := hide (show (L.stepR each more s a).bad = true by unfold L.stepR; rw [if_neg hk1, if_neg hk2, if_neg hk3])
            clear hk1 hk2 hk3
            go_wp2_with (go_at_call 57; refine (refWithin_any _ _ _ _).mono ?_; rintro e w4 ⟨rfl, rfl⟩; rw [KW])
            refine bodyPost_ret (v := .tuple #[.slice none 0 0, .agg #[.int .i64 0, .int .i64 0], .int .i64 23]) (refRun_results (blk_set (blk_set GQ1.out 0 (.int .i64 0)) 1 (.int .i64 0)) rfl rfl rfl rfl) rfl ?_
            exact run_bad (HBADX.out HE.out) (zbS (zbS GB1.out hwq _) hwq _)
    · have hin : i = n := by omega
      subst hin
      have HALL := hide (show L.runR each more l = s by unfold L.runR; rw [← HS.out, List.take_of_length_le (by have := HN.out; omega)])
      have HGOOD := hide (show L.runBad each more l = false by unfold L.runBad; rw [HRO.out, HALL.out, HSB.out]; rfl)
      have hq2 := HQ.out
      have cq0 := (blk_cell hq2 0).trans rfl; have cq1 := (blk_cell hq2 1).trans rfl
      have fq0 := blk_frozen hq2 0; have fq1 := blk_frozen hq2 1
      have hS : (fun w' => q < w'.heap.size ∧ w'.frozen? ⟨q, 0, none⟩ = false ∧ w'.frozen? ⟨q, 1, none⟩ = false ∧ w'.cell? ⟨q, 0, none⟩ = some (.int .i64 s.l0) ∧ w'.cell? ⟨q, 1, none⟩ = some (.int .i64 s.l1)) wr := ⟨lqr, fq0, fq1, cq0, cq1⟩
      clear hq2
      go_upto_region 21 with fail
      (try dsimp only at hS)
      refine wp_region_held_drew (S := (fun w' => q < w'.heap.size ∧ w'.frozen? ⟨q, 0, none⟩ = false ∧ w'.frozen? ⟨q, 1, none⟩ = false ∧ w'.cell? ⟨q, 0, none⟩ = some (.int .i64 s.l0) ∧ w'.cell? ⟨q, 1, none⟩ = some (.int .i64 s.l1))) (by kernel_rfl) ?_ (fun hHeld0 => ?_)
      · (try dsimp only); (first | (go_keep; done) | (go_split_ands; (repeat' apply And.intro) <;> first | (go_keep; done) | (simp [*, zcA, zcP, zfA, zfP]; done) | (simp [zcA, zcP] <;> rfl) | (simp [*, zsS, zsO, zsA]; done) | ((first | refine (hc _ _ ?_).trans ?_ | refine (hf _ _ ?_).trans ?_) <;> first | assumption | (simp; done) | (simp; omega) | omega | (go_keep; done) | (simp [*, zcA, zcP, zfA, zfP]; done) | (simp [zcA, zcP]; rfl)) | (repeat' first | exact zbR _ _ | assumption | refine zbD ?_ | refine zbA ?_ ?_ _ | refine zbS ?_ ?_ _ | refine zbT ?_ (by assumption) ?_ | (simp; done) | (simp; omega) | omega)))
      refine tL (v := ?_) 0 rfl (by kernel_rfl) (fun _ _ _ h => h) (Or.inl ⟨by rfl, ?_⟩) (by assumption) ?_; rotate_left
      · (intro w hSw; (try dsimp only at hSw); go_simp; try with_reducible rfl)
      try simp only [Act.put, zl, z0, z1]
      refine tL (v := ?_) 1 rfl (by kernel_rfl) (fun _ _ _ h => h) (Or.inl ⟨by rfl, ?_⟩) (by assumption) ?_; rotate_left
      · (intro w hSw; (try dsimp only at hSw); go_simp; try with_reducible rfl)
      try simp only [Act.put, zl, z0, z1]
      refine tL (v := ?_) 2 rfl (by kernel_rfl) (fun _ _ _ h => h) (Or.inl ⟨by rfl, ?_⟩) (by assumption) ?_; rotate_left
      · (intro w hSw; (try dsimp only at hSw); go_simp; try with_reducible rfl)
      try simp only [Act.put, zl, z0, z1]
      refine wpAnyH_ready (rs := [3]) (by kernel_rfl) (by simp) ?_
      refine consL 3 rfl (fun K hK => ?_) AllReadyH.nil
      go_simp
      refine hK.out _ _ ?_ (fun hHeld1 => ?_)
      · (try dsimp only); (first | (go_keep; done) | (go_split_ands; (repeat' apply And.intro) <;> first | (go_keep; done) | (simp [*, zcA, zcP, zfA, zfP]; done) | (simp [zcA, zcP] <;> rfl) | (simp [*, zsS, zsO, zsA]; done) | ((first | refine (hc _ _ ?_).trans ?_ | refine (hf _ _ ?_).trans ?_) <;> first | assumption | (simp; done) | (simp; omega) | omega | (go_keep; done) | (simp [*, zcA, zcP, zfA, zfP]; done) | (simp [zcA, zcP]; rfl)) | (repeat' first | exact zbR _ _ | assumption | refine zbD ?_ | refine zbA ?_ ?_ _ | refine zbS ?_ ?_ _ | refine zbT ?_ (by assumption) ?_ | (simp; done) | (simp; omega) | omega)))
      clear hK K hHeld0
      try simp only [Act.put, zl, z0, z1]
      refine tL (v := ?_) 4 rfl (by kernel_rfl) (fun _ _ _ h => h) (Or.inl ⟨by rfl, ?_⟩) (by assumption) ?_; rotate_left
      · (intro w hSw; (try dsimp only at hSw); go_simp; try with_reducible rfl)
      try simp only [Act.put, zl, z0, z1]
      refine wpAnyH_done (by kernel_rfl) ?_ _
      go_wp2_with fail
      refine bodyPost_ret (v := .tuple #[.slice sv s.ds.length c', .agg #[.int .i64 s.l0, .int .i64 s.l1], .int .i64 0]) (refRun_results (blk_set (blk_set (drew_blk HQ.out) 0 _) 1 _) rfl rfl rfl rfl) rfl ?_
      exact run_good HGOOD.out HALL.out (owns_mono (ownsRow_setCell_below (ownsRow_setCell_below (by exact hown.out) lq _) lq _) (by omega)) (zbS (zbS GBr.out.drew hwq _) hwq _)

theorem refRun_any (each more : Int) (l : List L.Ap) (A : Option Addr) (n c : Nat) (w : World) (hn : l.length = n) (hr : RdA w w.heap.size A l) :
    Calls Try.prog 45 #[.agg #[.int .i64 each, .int .i64 more], .slice A n c] w fun e w' => RunPost each more l w e w' := by
  cases X1 : L.within each 0 9
  · exact refRun_rule1 each more l A n c w hn hr X1
  · cases X2 : L.within more 0 9
    · exact refRun_rule2 each more l A n c w hn hr X1 X2
    · rcases Nat.lt_or_ge 30 n with X3 | X3
      · exact refRun_rule3 each more l A n c w hn hr X1 X2 X3
      · exact refRun_yes each more l A n c w hn hr X1 X2 X3

end Go.Proofs.Ytampfpnkkdihaaa

namespace Go.Proofs.Ytampfpnkkdihaaa
open Go.RowKit
attribute [local go_sem ↓] Go.wp_at_zero Go.wp_at_succ

def apC (a : L.Ap) : List Value := [.int .i64 a.kind, .int .i64 a.side, .int .i64 a.said, .int .i64 a.v.size, .slice a.A a.n a.c, .int .i64 a.v.wrong, .int .i64 a.v.hxl, .int .i64 a.v.hxh, .int .i64 a.v.hyl, .int .i64 a.v.hyh, .int .i64 a.b.l, .int .i64 a.b.r, .int .i64 a.b.b, .int .i64 a.b.t]
def flatA (l : List L.Ap) : List Value := l.flatMap apC
theorem apC_len (a : L.Ap) : (apC a).length = 14 := rfl
theorem flatA_length : ∀ l : List L.Ap, (flatA l).length = l.length * 14
  | [] => rfl
  | s :: r => by
    have := flatA_length r
    unfold flatA at this ⊢
    rw [List.flatMap_cons, List.length_append, this, apC_len, List.length_cons]
    omega
theorem flatA_at : ∀ {l : List L.Ap} {k : Nat} {a : L.Ap}, l[k]? = some a → ∀ j, j < 14 → (flatA l)[k * 14 + j]? = (apC a)[j]?
  | [], k, a, h, _, _ => by simp at h
  | b :: r, 0, a, h, j, hj => by
    have h' : b = a := Option.some.inj h
    subst h'
    unfold flatA
    rw [List.flatMap_cons, Nat.zero_mul, Nat.zero_add, List.getElem?_append_left (by rw [apC_len]; exact hj)]
  | b :: r, k + 1, a, h, j, hj => by
    have ih := flatA_at (l := r) (k := k) (a := a) h j hj
    unfold flatA at ih ⊢
    rw [List.flatMap_cons, List.getElem?_append_right (by rw [apC_len]; omega), apC_len]
    rw [show (k + 1) * 14 + j - 14 = k * 14 + j by omega]
    exact ih
theorem flatA_one (l : List L.Ap) : ∀ u ∈ flatA l, u.oneCell' = true := by
  intro u hu
  unfold flatA at hu
  obtain ⟨a, _, h⟩ := List.mem_flatMap.1 hu
  simp only [apC, List.mem_cons, List.not_mem_nil, or_false] at h
  obtain rfl | rfl | rfl | rfl | rfl | rfl | rfl | rfl | rfl | rfl | rfl | rfl | rfl | rfl := h <;> rfl
theorem flatA_app (a b : List L.Ap) : flatA (a ++ b) = flatA a ++ flatA b := by unfold flatA; simp
theorem ApAt.at {w : World} {B b o : Nat} {a : L.Ap} (h : ApAt w B b o a) : ∀ j u, (apC a)[j]? = some u → w.cell? ⟨b, o + j, none⟩ = some u
  | 0, u, hj => (h.c0).trans hj
  | 1, u, hj => (h.c1).trans hj
  | 2, u, hj => (h.c2).trans hj
  | 3, u, hj => (h.c3).trans hj
  | 4, u, hj => (h.c4).trans hj
  | 5, u, hj => (h.c5).trans hj
  | 6, u, hj => (h.c6).trans hj
  | 7, u, hj => (h.c7).trans hj
  | 8, u, hj => (h.c8).trans hj
  | 9, u, hj => (h.c9).trans hj
  | 10, u, hj => (h.c10).trans hj
  | 11, u, hj => (h.c11).trans hj
  | 12, u, hj => (h.c12).trans hj
  | 13, u, hj => (h.c13).trans hj
  | j + 14, u, hj => by simp [apC] at hj
theorem apAt_of {w : World} {B b o : Nat} {a : L.Ap} (h : ∀ j, j < 14 → w.cell? ⟨b, o + j, none⟩ = (apC a)[j]?) (h1 : a.v.ss.length = a.n) (h2 : RdS w B a.A a.v.ss) (h3 : a.A = none → a.c = 0) : ApAt w B b o a :=
  ⟨h 0 (by omega), h 1 (by omega), h 2 (by omega), h 3 (by omega), h 4 (by omega), h 5 (by omega), h 6 (by omega), h 7 (by omega), h 8 (by omega), h 9 (by omega), h 10 (by omega), h 11 (by omega), h 12 (by omega), h 13 (by omega), h1, h2, h3⟩
theorem flatA_cells {w : World} {B : Nat} {a : Addr} {l : List L.Ap} (h : RdA w B (some a) l) : ∀ j u, (flatA l)[j]? = some u → w.cell? (a.add j) = some u := by
  intro j u hj
  have hl : j < l.length * 14 := by rw [← flatA_length]; exact (List.getElem?_eq_some_iff.1 hj).1
  obtain ⟨s, hs⟩ : ∃ s, l[j / 14]? = some s := ⟨_, List.getElem?_eq_getElem (by omega)⟩
  obtain ⟨b, o, e, _, hat⟩ := h (j / 14) s hs
  injection e with e
  subst e
  have h1 := flatA_at hs (j % 14) (by omega)
  rw [show j / 14 * 14 + j % 14 = j by omega, hj] at h1
  rw [add_plain]
  have h2 := hat.at (j % 14) u h1.symm
  rw [show o + j / 14 * 14 + j % 14 = o + j by omega] at h2
  exact h2
def ApsIn (w : World) (B : Nat) (l : List L.Ap) : Prop := ∀ a ∈ l, a.v.ss.length = a.n ∧ RdS w B a.A a.v.ss ∧ (a.A = none → a.c = 0)
theorem RdA.ins {w : World} {B : Nat} {A : Option Addr} {l : List L.Ap} (h : RdA w B A l) : ApsIn w B l := fun a ha => by
  obtain ⟨k, hk, e⟩ := List.getElem_of_mem ha
  obtain ⟨b, o, _, _, hat⟩ := h k a (by rw [← e]; exact List.getElem?_eq_getElem hk)
  exact ⟨hat.len, hat.rd, hat.nil⟩
theorem owns_RdA {w : World} {base B : Nat} {A : Option Addr} {n c : Nat} {l : List L.Ap} (h : w.ownsRow base 66 14 (.slice A n c) n (flatA l)) (hn : l.length = n) (hB : B = w.heap.size) (hs : ApsIn w B l) : RdA w B A l := by
  subst hB
  intro k a hk
  have hkl : k < n := by rw [← hn]; exact (List.getElem?_eq_some_iff.1 hk).1
  obtain ⟨g, cap, e, hbg, hh⟩ := h.form (by omega)
  have e' : A = some ⟨g, 0, none⟩ ∧ c = cap := by
    simp only [Value.slice.injEq] at e
    exact ⟨e.1, e.2.2⟩
  obtain ⟨rfl, rfl⟩ := e'
  obtain ⟨h1, h2, h3⟩ := hs a (List.mem_of_getElem? hk)
  refine ⟨g, 0, rfl, (h.lt g rfl).2, apAt_of (fun j hj => ?_) h1 h2 h3⟩
  rw [Nat.zero_add, h.cellAt (k * 14 + j) (by omega)]
  exact flatA_at hk j hj
theorem ap_info : (Try.prog.info? 66).map (fun i => (i.zero, i.size, i.bytes)) = some (some (.agg #[.int .i64 0, .int .i64 0, .int .i64 0, .int .i64 0, .slice none 0 0, .int .i64 0, .int .i64 0, .int .i64 0, .int .i64 0, .int .i64 0, .int .i64 0, .int .i64 0, .int .i64 0, .int .i64 0]), 14, 128) := by kernel_rfl
theorem RdA.none {w : World} {B : Nat} {l : List L.Ap} (h : RdA w B none l) : l = [] := by
  match l, h with
  | [], _ => rfl
  | x :: r, h => obtain ⟨_, _, e, _⟩ := h 0 x rfl; cases e
theorem run_app_aps {w : World} (ty : TypeId) (base : Nat) (v : Value) (ps : List L.Ap) (m0 : Nat) (hown : w.ownsRow base 66 14 v m0 (flatA ps))
    (A : Option Addr) (n c : Nat) (ss : List L.Ap) (hn : ss.length = n) (hr : RdA w w.heap.size A ss) (hA : A = none → c = 0) (h0 : m0 ≤ 1000000) (h1 : n ≤ 1000) (hbase : base ≤ w.heap.size) :
    ∃ A' c' w', (Builtin.append_ #[63, 63] ty #[v, .slice A n c]).run Try.prog w = .ok (.slice A' (m0 + n) c') w' ∧ w'.ownsRow base 66 14 (.slice A' (m0 + n) c') (m0 + n) (flatA (ps ++ ss)) ∧ w.grownBy w' v.ownBlock ∧ ((Value.slice A' (m0 + n) c').ownBlock = v.ownBlock ∨ (Value.slice A' (m0 + n) c').ownBlock = some w.heap.size) := by
  obtain ⟨i, hi, hz0, hz1, hz2⟩ := info_parts ap_info
  rcases A with _ | ad
  · have hx0 : ss = [] := hr.none
    subst hx0
    have hn0 : n = 0 := by simpa using hn.symm
    subst hn0
    have hc0 := hA rfl
    subst hc0
    obtain ⟨A', c', rfl⟩ := own_form hown
    have hrun := run_append_owned_none (P := Try.prog) (w := w) base 63 ty 66 i 14 Try.underlying63 hi (.slice A' m0 c') m0 (flatA ps) hown
    exact ⟨A', c', w, hrun, by simpa using hown, World.grownBy.refl w _, .inl rfl⟩
  · obtain ⟨v', w', hrun, h2, h3, _, h5⟩ := run_append_own_at (P := Try.prog) w base 63 ty 66 i _ 14 128 Try.underlying63 hi hz0 hz1 hz2 (by rfl) (by decide) v m0 (flatA ps) hown ad n c (flatA ss) (by rw [flatA_length]; omega) (flatA_cells hr) (flatA_one ss) (by unfold maxLen; omega) (by omega) hbase
    obtain ⟨A', c', rfl⟩ := own_form h2
    exact ⟨A', c', w', hrun, by rw [flatA_app]; exact h2, h3, h5⟩
theorem wpList_app_aps {w : World} {ops : Array Oper} {rest : List Oper} {o : Oper} {a : Act} {Q : Exit → Act → World → Prop} (hgd : o.guard = none) (s x : Operand)
    (ho : o.op = .call { callee := .builtin .append, args := #[s, x], argTypes := #[63, 63] }) (base : Nat) (v : Value) (ps : List L.Ap) (m0 : Nat) (hs : a.eval s = v) (hown : w.ownsRow base 66 14 v m0 (flatA ps))
    (A : Option Addr) (n c : Nat) (ss : List L.Ap) (hx : a.eval x = .slice A n c) (hn : ss.length = n) (hr : RdA w w.heap.size A ss) (hA : A = none → c = 0) (h0 : m0 ≤ 1000000) (h1 : n ≤ 1000) (hbase : base ≤ w.heap.size) (N : Nat) (hN : m0 + n = N)
    (h : ∀ A' c' w', w'.ownsRow base 66 14 (.slice A' N c') N (flatA (ps ++ ss)) → w.grownBy w' v.ownBlock → ((Value.slice A' N c').ownBlock = v.ownBlock ∨ (Value.slice A' N c').ownBlock = some w.heap.size) → wpList Try.prog ops Q rest (a.put o.dst (.slice A' N c')) w') :
    wpList Try.prog ops Q (o :: rest) a w := by
  subst hN
  refine wpList_plain hgd fun K hK => ?_
  obtain ⟨A', c', w', hr', h2, h3, h4⟩ := run_app_aps o.type base v ps m0 hown A n c ss hn hr hA h0 h1 hbase
  unfold Oper.wp execOp
  simp only [ho, resolve, invoke, builtin, Sem.run_bind, Sem.run_pure, Result.andThen_ok, List.map_toArray, List.map_cons, List.map_nil, hs, hx, hr']
  exact hK _ _ (h A' c' w' h2 h3 h4)
theorem rdA_one {w : World} {q : Nat} {a : L.Ap} (hq : w.heap[q]? = some (.cells #[.int .i64 a.kind, .int .i64 a.side, .int .i64 a.said, .int .i64 a.v.size, .slice a.A a.n a.c, .int .i64 a.v.wrong, .int .i64 a.v.hxl, .int .i64 a.v.hxh, .int .i64 a.v.hyl, .int .i64 a.v.hyh, .int .i64 a.b.l, .int .i64 a.b.r, .int .i64 a.b.b, .int .i64 a.b.t] 66 (0, 0))) (h1 : a.v.ss.length = a.n) (h2 : RdS w w.heap.size a.A a.v.ss) (h3 : a.A = none → a.c = 0) : RdA w w.heap.size (some ⟨q, 0, none⟩) [a] := by
  intro k y hk
  match k, hk with
  | 0, hk =>
    have hy : a = y := Option.some.inj hk
    subst hy
    exact ⟨_, 0, rfl, blk_lt hq, (blk_cell hq 0).trans rfl, (blk_cell hq 1).trans rfl, (blk_cell hq 2).trans rfl, (blk_cell hq 3).trans rfl, (blk_cell hq 4).trans rfl, (blk_cell hq 5).trans rfl, (blk_cell hq 6).trans rfl, (blk_cell hq 7).trans rfl, (blk_cell hq 8).trans rfl, (blk_cell hq 9).trans rfl, (blk_cell hq 10).trans rfl, (blk_cell hq 11).trans rfl, (blk_cell hq 12).trans rfl, (blk_cell hq 13).trans rfl, h1, h2, h3⟩
  | k + 1, hk => cases hk
theorem ApsIn.below {w w' : World} {B : Nat} {l : List L.Ap} (h : ApsIn w B l) (hb : Below B w w') : ApsIn w' B l := fun a ha => ⟨(h a ha).1, (h a ha).2.1.below hb, (h a ha).2.2⟩
theorem ApsIn.mono {w : World} {B B' : Nat} {l : List L.Ap} (h : ApsIn w B l) (hb : B ≤ B') : ApsIn w B' l := fun a ha => ⟨(h a ha).1, (h a ha).2.1.mono hb, (h a ha).2.2⟩
theorem ApsIn.app {w : World} {B : Nat} {l r : List L.Ap} (h : ApsIn w B l) (k : ApsIn w B r) : ApsIn w B (l ++ r) := fun a ha => (List.mem_append.1 ha).elim (h a) (k a)

end Go.Proofs.Ytampfpnkkdihaaa

namespace Go.Proofs.Ytampfpnkkdihaaa
open Go.RowKit
attribute [local go_sem ↓] Go.wp_at_zero Go.wp_at_succ

set_option maxHeartbeats 4000000 in
theorem sameInts_any (A1 A2 : Option Addr) (n c1 c2 : Nat) (xs : List Int) (w : World) (hn : xs.length = n) (hr1 : RdI w w.heap.size A1 xs) (hr2 : RdI w w.heap.size A2 xs) (hm : n ≤ 1000000) :
    Calls Try.prog 34 #[.slice A1 n c1, .slice A2 n c2] w fun e w' => e = .returned (.bool true) ∧ Below w.heap.size w w' := by
  have HN := hide hn
  have HR1 := hide hr1
  have HR2 := hide hr2
  clear hn hr1 hr2
  go_enter Try.func34, Try.ntmps34
  go_wp2_with fail
  go_loopw [5] (fun i wr => ∃ k : Nat, k ≤ n ∧ i = .int .i64 k ∧ Below w.heap.size w wr) (fun i _ => n - (intOf i).toNat)
  case atStart => exact ⟨0, by omega, rfl, by (repeat' first | exact zbR _ _ | assumption | refine zbD ?_ | refine zbA ?_ ?_ _ | refine zbS ?_ ?_ _ | refine zbT ?_ (by assumption) ?_ | (simp; done) | (simp; omega) | omega)⟩
  case round =>
    obtain ⟨k, hk, rfl, hB⟩ := hrel
    by_cases hlt : k < n
    · obtain ⟨p, hp'⟩ : ∃ q, xs[k]? = some q := ⟨_, List.getElem?_eq_getElem (by have := HN.out; omega)⟩
      obtain ⟨b, o, hA, hbB, c0⟩ := (HR1.out.below hB) k p hp'
      obtain ⟨b2, o2, hA2, hbB2, d0⟩ := (HR2.out.below hB) k p hp'
      subst hA hA2
      clear hp'
      have hlt' : (k : Int) < (n : Int) := by omega
      have hk0 : (0 : Int) ≤ (k : Int) := by omega
      go_wp2_with fail
      go_quiet (fail)
      go_wp2_with fail
      go_roundw
      case rel => exact ⟨k + 1, by omega, by go_num, below_drewN hB _⟩
      case measure => simp [intOf]; omega
    · have hkn : k = n := by omega
      subst hkn
      go_wp2_with fail
      go_ret
      exact ⟨rfl, hB⟩

theorem L.markB_f {m : L.Mk} (h : L.markB m 40 1 9 1 9 = false) : (L.within m.x 0 40 = false) ∨ (L.within m.x 0 40 = true ∧ L.within m.y 0 40 = false) ∨ (L.within m.x 0 40 = true ∧ L.within m.y 0 40 = true ∧ L.within m.hx 1 9 = false) ∨ (L.within m.x 0 40 = true ∧ L.within m.y 0 40 = true ∧ L.within m.hx 1 9 = true ∧ L.within m.hy 1 9 = false) := by
  unfold L.markB at h
  cases a : L.within m.x 0 40 <;> cases b : L.within m.y 0 40 <;> cases c : L.within m.hx 1 9 <;> cases d : L.within m.hy 1 9 <;> simp_all
theorem L.markB_t {m : L.Mk} (h : L.markB m 40 1 9 1 9 = true) : L.within m.x 0 40 = true ∧ L.within m.y 0 40 = true ∧ L.within m.hx 1 9 = true ∧ L.within m.hy 1 9 = true := by
  unfold L.markB at h
  simp only [Bool.and_eq_true] at h
  exact ⟨h.1.1.1, h.1.1.2, h.1.2, h.2⟩

set_option maxRecDepth 100000 in
set_option maxHeartbeats 1600000 in
theorem refTouches_any (m : L.Mk) (b : L.Bx) (w : World) :
    Calls Try.prog 36 #[.agg #[.int .i64 m.x, .int .i64 m.y, .int .i64 m.hx, .int .i64 m.hy], .agg #[.int .i64 b.l, .int .i64 b.r, .int .i64 b.b, .int .i64 b.t]] w fun e w' => e = .returned (.tuple #[.bool (L.touV m b), .int .i64 (L.touE m b)]) ∧ Below w.heap.size w w' := by
  cases hb : L.boxB b
  · have E1 := hide (show L.touV m b = false by unfold L.touV; rw [hb]; rfl)
    have E2 := hide (show L.touE m b = 21 by unfold L.touE; rw [hb]; rfl)
    have HB := hide hb
    clear hb
    go_enter Try.func36, Try.ntmps36
    go_wp2_with (go_at_call 25; refine (isBox_any b _).mono ?_; rintro e w2 ⟨rfl, hb2⟩; rw [HB.out]; obtain ⟨hc2, hf2⟩ := bcell hb2; have q2 := hb2.size; (try simp only [World.size_alloc] at q2); have z2_0 : w.heap.size < w2.heap.size := (by omega); have z2_1 : w.heap.size + 1 < w2.heap.size := (by omega))
    go_ret2
    exact ⟨by rw [E1.out, E2.out]; rfl, by (repeat' first | exact zbR _ _ | assumption | refine zbD ?_ | refine zbA ?_ ?_ _ | refine zbS ?_ ?_ _ | refine zbT ?_ (by assumption) ?_ | (simp; done) | (simp; omega) | omega)⟩
  cases hm : L.markB m 40 1 9 1 9
  · have E1 := hide (show L.touV m b = false by unfold L.touV; rw [hb, hm]; rfl)
    have E2 := hide (show L.touE m b = 22 by unfold L.touE; rw [hb, hm]; rfl)
    have HB := hide hb
    have hm' := L.markB_f hm
    clear hb hm
    rcases hm' with h1 | ⟨h1, h2⟩ | ⟨h1, h2, h3⟩ | ⟨h1, h2, h3, h4⟩
    all_goals
      go_enter Try.func36, Try.ntmps36
      go_wp2_with (first | (go_at_call 25; refine (isBox_any b _).mono ?_; rintro e w2 ⟨rfl, hb2⟩; rw [HB.out]; obtain ⟨hc2, hf2⟩ := bcell hb2; have q2 := hb2.size; (try simp only [World.size_alloc] at q2); have z2_0 : w.heap.size < w2.heap.size := (by omega); have z2_1 : w.heap.size + 1 < w2.heap.size := (by omega)) | (go_at_call 57; refine (refWithin_any _ _ _ _).mono ?_; rintro e w' ⟨rfl, rfl⟩))
      go_ret2
      exact ⟨by rw [E1.out, E2.out]; (first | rfl | (simp [*]; done)), by (repeat' first | exact zbR _ _ | assumption | refine zbD ?_ | refine zbA ?_ ?_ _ | refine zbS ?_ ?_ _ | refine zbT ?_ (by assumption) ?_ | (simp; done) | (simp; omega) | omega)⟩
  · have E1 := hide (show L.touV m b = L.touch m b by unfold L.touV; rw [hb, hm]; rfl)
    have E2 := hide (show L.touE m b = 0 by unfold L.touE; rw [hb, hm]; rfl)
    have HB := hide hb
    have HM := hide hm
    obtain ⟨h1, h2, h3, h4⟩ := L.markB_t hm
    clear hb hm
    go_enter Try.func36, Try.ntmps36
    go_wp2_with (first | (go_at_call 25; refine (isBox_any b _).mono ?_; rintro e w2 ⟨rfl, hb2⟩; rw [HB.out]; obtain ⟨hc2, hf2⟩ := bcell hb2; have q2 := hb2.size; (try simp only [World.size_alloc] at q2); have z2_0 : w.heap.size < w2.heap.size := (by omega); have z2_1 : w.heap.size + 1 < w2.heap.size := (by omega)) | (go_at_call 57; refine (refWithin_any _ _ _ _).mono ?_; rintro e w' ⟨rfl, rfl⟩) | (go_at_call 21; refine (refTouch_any m b _ (L.boxB_ok HB.out) (L.markB_ok HM.out)).mono ?_; rintro e w4 ⟨rfl, hb4⟩; obtain ⟨hc4, hf4⟩ := bcell hb4; have q4 := hb4.size; (try simp only [World.size_alloc] at q4); have z4_0 : w.heap.size < w4.heap.size := (by omega); have z4_1 : w.heap.size + 1 < w4.heap.size := (by omega)))
    go_ret2
    exact ⟨by rw [E1.out, E2.out]; rfl, by (repeat' first | exact zbR _ _ | assumption | refine zbD ?_ | refine zbA ?_ ?_ _ | refine zbS ?_ ?_ _ | refine zbT ?_ (by assumption) ?_ | (simp; done) | (simp; omega) | omega)⟩

end Go.Proofs.Ytampfpnkkdihaaa
