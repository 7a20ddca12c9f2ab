/-
  Part of a claim's texts: contracts of the program's functions and the plain functions that they compute, in build order.
-/
import Derived.Deep.Cut
import Derived.Deep.CutRange
import Derived.Test.YtmhaapghiecfcaaZB09
import Derived.Test.YtmhaapghiecfcaaZB10
namespace Go.Proofs.Ytmhaapghiecfcaa
open Go.RowKit
attribute [local go_sem ↓] Go.wp_at_zero Go.wp_at_succ

def LS (w w2 : World) (A : Option Addr) (n c : Nat) (g p : M.Pr) (w' : World) : Prop := Below w2.heap.size w2 w' ∧ w.heap.size < w'.heap.size ∧ w.heap.size + 1 < w'.heap.size ∧ w'.cell? ⟨w.heap.size + 1, 0, none⟩ = some (.slice A n c) ∧ w'.cell? ⟨w.heap.size + 1, 1, none⟩ = some (.int .i64 g.A) ∧ w'.cell? ⟨w.heap.size + 1, 2, none⟩ = some (.int .i64 g.B) ∧ w'.cell? ⟨w.heap.size + 1, 3, none⟩ = some (.int .i64 p.A) ∧ w'.cell? ⟨w.heap.size + 1, 4, none⟩ = some (.int .i64 p.B)
theorem LS.b {w w2 : World} {A : Option Addr} {n c : Nat} {g p : M.Pr} {w' : World} (h : LS w w2 A n c g p w') : Below w2.heap.size w2 w' := by
  unfold LS at h
  exact h.1
theorem cel2 {W : World} {q : Nat} {a b : Int} (h : Hid (W.heap[q]? = some (.cells #[.int .i64 a, .int .i64 b] 32 (0, 0)))) : W.cell? ⟨q, 0, none⟩ = some (.int .i64 a) ∧ W.cell? ⟨q, 1, none⟩ = some (.int .i64 b) := ⟨(blk_cell h.out 0).trans rfl, (blk_cell h.out 1).trans rfl⟩
theorem bkT {u v : World} {q : Nat} {o : Obj} (hb : Below u.heap.size u v) (h : Hid (u.heap[q]? = some o)) : Hid (v.heap[q]? = some o) := hide ((hb.block _ (blk_lt h.out)).trans h.out)
theorem bkN {u v : World} {q q' : Nat} {o : Obj} (hb : u.grownBy v (some q')) (hn : q ≠ q') (h : Hid (u.heap[q]? = some o)) : Hid (v.heap[q]? = some o) := hide ((hb.block _ (blk_lt h.out) (fun e => hn (Option.some.inj e))).trans h.out)
theorem capRow {K : Act → World → Prop} {a : Act} {u : World} {q : Nat} {cs old : Array Value} {t : TypeId} (hq : u.heap[q]? = some (.cells old t (0, 0))) (h : ∀ W : World, W.heap[q]? = some (.cells cs t (0, 0)) → u.grownBy W (some q) → (∀ (B : Nat) (w0 : World), Below B w0 u → B ≤ q → Below B w0 W) → K a W) : K a (u.setRow q cs) :=
  h _ (setRow_heap _ _ _ _ _ _ hq) ⟨rfl, rfl, rfl, by simp, fun k _ hk => setRow_other u _ k _ (fun e => hk (by rw [e]))⟩ (fun B w0 hb hB => ⟨hb.os, hb.tape, hb.output, by simp only [size_setRow]; exact hb.size, fun i hi => (setRow_other _ _ i _ (by omega)).trans (hb.block i hi)⟩)
theorem step_store_row {P : Program} {w : World} {ops : Array Oper} {o : Oper} {a : Act} {K : Act → World → Prop} {Q : Exit → Act → World → Prop} {E : Prop} (hgd : o.guard = none) (ty : TypeId) (x y : Operand) (ho : o.op = .store ty x y)
    (g : Nat) (cells : Array Value) (hx : a.eval x = .pointer (some ⟨g, 0, none⟩)) (hy : a.eval y = .agg cells)
    (t : TypeId) (old : Array Value) (hg : w.heap[g]? = some (.cells old t (0, 0))) (hi : (P.info? ty).map (·.size) = some cells.size)
    (hold : old.size = cells.size) (h1 : cells.all (·.oneCell') = true)
    (h : K (a.put o.dst undef) (w.setRow g cells)) : if Region.wanted o (yielded ops a.tmps) = true then Oper.wp P o a w K Q else E := by
  have hw : Region.wanted o (yielded ops a.tmps) = true := by simp [Region.wanted, hgd]
  rw [if_pos hw]
  exact wp_store_row ty x y ho g cells hx hy t old hg hi hold h1 h
theorem fine_sw {side : Int} {g : M.Pr} (h : M.fine g = true) : M.fine (M.sw side g) = true := by
  unfold M.sw
  split
  · have hb := fine_bd h
    unfold M.fine M.swap
    simp only [Bool.and_eq_true, decide_eq_true_eq]
    omega
  · exact h
theorem sw_no {side : Int} (h : ¬ side = 1) (p : M.Pr) : M.sw side p = p := if_neg h
set_option maxHeartbeats 12800000 in
set_option maxRecDepth 100000 in
theorem refLeast_ok (f : M.Fm) (A : Option Addr) (n c : Nat) (ps : List M.Pr) (g p : M.Pr) (side : Int) (w : World) (hn : ps.length = n) (hr : RdP w w.heap.size A ps) (hA : A = none → c = 0) (hm : n ≤ 40) (hnc : n ≤ c) (hcm : c ≤ maxLen)
    (h0 : M.swE f ps g p = 0) (hsd : M.within side 0 1 = true) :
    Calls Try.prog 21 #[.agg #[.int .i64 f.sets, .int .i64 f.games, .bool f.noAd, .int .i64 f.tie, .int .i64 f.to, .int .i64 f.lastTie, .int .i64 f.lastTo, .int .i64 f.first, .int .i64 f.next, .bool f.doubles], .agg #[.slice A n c, .int .i64 g.A, .int .i64 g.B, .int .i64 p.A, .int .i64 p.B], .int .i64 side] w fun e w' => e = .returned (.tuple #[.int .i64 (M.leastV f ps g p side), .int .i64 (M.leastE f ps g p side)]) ∧ Below w.heap.size w w' := by
  have HN := hide hn
  have HR := hide hr
  have HCAP := hide hA
  clear hn hr hA
  obtain ⟨hvv, hnu, hst, hwon⟩ := sw_ok h0
  obtain ⟨h5, hpa, hgf, hpf⟩ := M.numbered_parts hnu
  have HVV := hide hvv
  have HSW := hide h0
  have HAB := hide (show M.arisesB f ps g p = true by unfold M.arisesB; rw [(M.validB_iff f).2 hvv, hnu, hst]; rfl)
  have HSD := hide (show side = 0 ∨ side = 1 by unfold M.within at hsd; simp only [Bool.and_eq_true, decide_eq_true_eq] at hsd; omega)
  have HAE := hide (show M.arisesE f ps g p = 0 by unfold M.arisesE; rw [(M.validB_iff f).2 hvv, hnu]; rfl)
  have HST := hide (M.stand_wonR hvv hpa hst)
  have HGF := hide hgf
  have HPF := hide hpf
  obtain ⟨won, hwn⟩ : ∃ q, M.wonR M.zero ps = q := ⟨_, rfl⟩
  have HWN := hide hwn
  rw [hwn] at HST
  clear hvv hnu hst hwon h5 hpa hgf hpf h0 hwn
  obtain ⟨lv, hlv⟩ : ∃ q, M.leastV f ps g p side = q := ⟨_, rfl⟩
  obtain ⟨le, hle⟩ : ∃ q, M.leastE f ps g p side = q := ⟨_, rfl⟩
  have HLV := hide hlv
  have HLE := hide hle
  rw [hlv, hle]
  clear hlv hle
  go_enter Try.func21, Try.ntmps21
  go_upto_region 8 with (first | (go_at_call 19; refine (refArises_any f A n c ps g p _ HN.out ((HR.out.below (by (exact kb))).mono (by first | (simp; done) | (simp; omega))) HCAP.out hm hnc hcm).mono ?_; rw [HAB.out, HAE.out]; rintro e w1 ⟨rfl, hb⟩; obtain ⟨hc, hf⟩ := bcell hb; have hz := hb.size; (try simp at hz); have hSn : ((fun w' => Below w.heap.size w w' ∧ w.heap.size < w'.heap.size ∧ w.heap.size + 1 < w'.heap.size ∧ w'.cell? ⟨w.heap.size + 1, 0, none⟩ = some (.slice A n c) ∧ w'.cell? ⟨w.heap.size + 1, 1, none⟩ = some (.int .i64 g.A) ∧ w'.cell? ⟨w.heap.size + 1, 2, none⟩ = some (.int .i64 g.B) ∧ w'.cell? ⟨w.heap.size + 1, 3, none⟩ = some (.int .i64 p.A) ∧ w'.cell? ⟨w.heap.size + 1, 4, none⟩ = some (.int .i64 p.B) ∧ w'.cell? ⟨w.heap.size, 0, none⟩ = some (.int .i64 f.sets) ∧ w'.cell? ⟨w.heap.size, 1, none⟩ = some (.int .i64 f.games) ∧ w'.cell? ⟨w.heap.size, 2, none⟩ = some (.bool f.noAd) ∧ w'.cell? ⟨w.heap.size, 3, none⟩ = some (.int .i64 f.tie) ∧ w'.cell? ⟨w.heap.size, 4, none⟩ = some (.int .i64 f.to) ∧ w'.cell? ⟨w.heap.size, 5, none⟩ = some (.int .i64 f.lastTie) ∧ w'.cell? ⟨w.heap.size, 6, none⟩ = some (.int .i64 f.lastTo) ∧ w'.cell? ⟨w.heap.size, 7, none⟩ = some (.int .i64 f.first) ∧ w'.cell? ⟨w.heap.size, 8, none⟩ = some (.int .i64 f.next) ∧ w'.cell? ⟨w.heap.size, 9, none⟩ = some (.bool f.doubles))) w1 := (by (try dsimp only); (exact kp)); (try dsimp only at hSn); (try clear hS); have hS := hSn; clear hSn hc hf) | (go_at_call 37; refine (refWithin_t side 0 1 _ hsd).mono ?_; rintro e w2 ⟨rfl, hb⟩; obtain ⟨hc, hf⟩ := bcell hb; have hz := hb.size; (try simp at hz); have hSn : ((fun w' => Below w.heap.size w w' ∧ w.heap.size < w'.heap.size ∧ w.heap.size + 1 < w'.heap.size ∧ w'.cell? ⟨w.heap.size + 1, 0, none⟩ = some (.slice A n c) ∧ w'.cell? ⟨w.heap.size + 1, 1, none⟩ = some (.int .i64 g.A) ∧ w'.cell? ⟨w.heap.size + 1, 2, none⟩ = some (.int .i64 g.B) ∧ w'.cell? ⟨w.heap.size + 1, 3, none⟩ = some (.int .i64 p.A) ∧ w'.cell? ⟨w.heap.size + 1, 4, none⟩ = some (.int .i64 p.B) ∧ w'.cell? ⟨w.heap.size, 0, none⟩ = some (.int .i64 f.sets) ∧ w'.cell? ⟨w.heap.size, 1, none⟩ = some (.int .i64 f.games) ∧ w'.cell? ⟨w.heap.size, 2, none⟩ = some (.bool f.noAd) ∧ w'.cell? ⟨w.heap.size, 3, none⟩ = some (.int .i64 f.tie) ∧ w'.cell? ⟨w.heap.size, 4, none⟩ = some (.int .i64 f.to) ∧ w'.cell? ⟨w.heap.size, 5, none⟩ = some (.int .i64 f.lastTie) ∧ w'.cell? ⟨w.heap.size, 6, none⟩ = some (.int .i64 f.lastTo) ∧ w'.cell? ⟨w.heap.size, 7, none⟩ = some (.int .i64 f.first) ∧ w'.cell? ⟨w.heap.size, 8, none⟩ = some (.int .i64 f.next) ∧ w'.cell? ⟨w.heap.size, 9, none⟩ = some (.bool f.doubles))) w2 := (by (try dsimp only); (exact kp)); (try dsimp only at hSn); (try clear hS); have hS := hSn; clear hSn hc hf))
  have HBW2 := hide (show Below w.heap.size w w2 by exact hS.1)
  have HSO := hide (fun (W : World) (hb : Below w2.heap.size w2 W) => (show (fun w' => Below w2.heap.size w2 w' ∧ w.heap.size < w'.heap.size ∧ w.heap.size + 1 < w'.heap.size ∧ w'.cell? ⟨w.heap.size + 1, 0, none⟩ = some (.slice A n c) ∧ w'.cell? ⟨w.heap.size + 1, 1, none⟩ = some (.int .i64 g.A) ∧ w'.cell? ⟨w.heap.size + 1, 2, none⟩ = some (.int .i64 g.B) ∧ w'.cell? ⟨w.heap.size + 1, 3, none⟩ = some (.int .i64 p.A) ∧ w'.cell? ⟨w.heap.size + 1, 4, none⟩ = some (.int .i64 p.B) ∧ w'.cell? ⟨w.heap.size, 0, none⟩ = some (.int .i64 f.sets) ∧ w'.cell? ⟨w.heap.size, 1, none⟩ = some (.int .i64 f.games) ∧ w'.cell? ⟨w.heap.size, 2, none⟩ = some (.bool f.noAd) ∧ w'.cell? ⟨w.heap.size, 3, none⟩ = some (.int .i64 f.tie) ∧ w'.cell? ⟨w.heap.size, 4, none⟩ = some (.int .i64 f.to) ∧ w'.cell? ⟨w.heap.size, 5, none⟩ = some (.int .i64 f.lastTie) ∧ w'.cell? ⟨w.heap.size, 6, none⟩ = some (.int .i64 f.lastTo) ∧ w'.cell? ⟨w.heap.size, 7, none⟩ = some (.int .i64 f.first) ∧ w'.cell? ⟨w.heap.size, 8, none⟩ = some (.int .i64 f.next) ∧ w'.cell? ⟨w.heap.size, 9, none⟩ = some (.bool f.doubles)) W from by
      obtain ⟨hc, hf⟩ := bcell hb
      have hz := hb.size
      go_split_ands
      exact ⟨hb, by omega, by omega, (hc _ _ (by omega)).trans (by assumption), (hc _ _ (by omega)).trans (by assumption), (hc _ _ (by omega)).trans (by assumption), (hc _ _ (by omega)).trans (by assumption), (hc _ _ (by omega)).trans (by assumption), (hc _ _ (by omega)).trans (by assumption), (hc _ _ (by omega)).trans (by assumption), (hc _ _ (by omega)).trans (by assumption), (hc _ _ (by omega)).trans (by assumption), (hc _ _ (by omega)).trans (by assumption), (hc _ _ (by omega)).trans (by assumption), (hc _ _ (by omega)).trans (by assumption), (hc _ _ (by omega)).trans (by assumption), (hc _ _ (by omega)).trans (by assumption), (hc _ _ (by omega)).trans (by assumption)⟩))
  go_cut [10, 11, 12] from 34 to 40 (fun v10 v11 v12 wx => ∃ q0 q1 q2 : Nat, v10 = .pointer (some ⟨q0, 0, none⟩) ∧ v11 = .pointer (some ⟨q1, 0, none⟩) ∧ v12 = .pointer (some ⟨q2, 0, none⟩) ∧ Hid (q0 ≠ q1 ∧ q0 ≠ q2 ∧ q1 ≠ q2) ∧ Hid (wx.heap[q0]? = some (.cells #[.int .i64 won.A, .int .i64 won.B] 32 (0, 0))) ∧ Hid (wx.heap[q1]? = some (.cells #[.int .i64 g.A, .int .i64 g.B] 32 (0, 0))) ∧ Hid (wx.heap[q2]? = some (.cells #[.int .i64 p.A, .int .i64 p.B] 32 (0, 0))) ∧ Hid (w2.heap.size ≤ q0 ∧ w2.heap.size ≤ q1 ∧ w2.heap.size ≤ q2) ∧ Hid (Below w2.heap.size w2 wx))
  case first =>
    have HR2 := hide ((HR.out.below (by exact hS.1)).mono (by exact hS.1.size))
    have hSof : ∀ w', Below w2.heap.size w2 w' → (LS w w2 A n c g p) w' := fun w' hb => by
      obtain ⟨hc, hf⟩ := bcell hb
      have hz := hb.size
      go_split_ands
      exact ⟨hb, by omega, by omega, (hc _ _ (by omega)).trans (by assumption), (hc _ _ (by omega)).trans (by assumption), (hc _ _ (by omega)).trans (by assumption), (hc _ _ (by omega)).trans (by assumption), (hc _ _ (by omega)).trans (by assumption)⟩
    clear hS
    have hS : (LS w w2 A n c g p) w2 := hSof _ (zbR _ _)
    (try dsimp only at hS)
    refine wp_region_held_drew (S := (LS w w2 A n c g p)) (by kernel_rfl) ?_ (fun hD0 => ?_)
    · (try dsimp only); first | assumption | exact hSof _ (zbD (zbR _ _))
    refine tW ?_ 0 rfl (by kernel_rfl) (fun _ _ _ h => h) (by rfl) (by assumption) ?_ ?_; rotate_left; (focus (intro w hSw; (try dsimp only [LS] at hSw); go_simp; try with_reducible rfl)); try simp only [Act.put, zl, z0, z1]
    refine tW ?_ 1 rfl (by kernel_rfl) (fun _ _ _ h => h) (by rfl) (by assumption) ?_ ?_; rotate_left; (focus (intro w hSw; (try dsimp only [LS] at hSw); go_simp; try with_reducible rfl)); try simp only [Act.put, zl, z0, z1]
    refine tW ?_ 3 rfl (by kernel_rfl) (fun _ _ _ h => h) (by rfl) (by assumption) ?_ ?_; rotate_left; (focus (intro w hSw; (try dsimp only [LS] at hSw); go_simp; try with_reducible rfl)); try simp only [Act.put, zl, z0, z1]
    refine tW ?_ 4 rfl (by kernel_rfl) (fun _ _ _ h => h) (by rfl) (by assumption) ?_ ?_; rotate_left; (focus (intro w hSw; (try dsimp only [LS] at hSw); go_simp; try with_reducible rfl)); try simp only [Act.put, zl, z0, z1]
    refine tW ?_ 5 rfl (by kernel_rfl) (fun _ _ _ h => h) (by rfl) (by assumption) ?_ ?_; rotate_left; (focus (intro w hSw; (try dsimp only [LS] at hSw); go_simp; try with_reducible rfl)); try simp only [Act.put, zl, z0, z1]
    refine tW ?_ 6 rfl (by kernel_rfl) (fun _ _ _ h => h) (by rfl) (by assumption) ?_ ?_; rotate_left; (focus (intro w hSw; (try dsimp only [LS] at hSw); go_simp; try with_reducible rfl)); try simp only [Act.put, zl, z0, z1]
    refine wpAnyH_ready (rs := [2, 7, 8, 9]) (by kernel_rfl) (by simp) ?_; refine consL 2 rfl (fun K hK => ?_) ?_
    · skip
      (go_simp; go_at_call 31; refine (refWon_any A n c ps _ HN.out ((HR2.out.below (LS.b hD0)).mono (LS.b hD0).size) (by omega)).mono ?_; rw [HWN.out]; rintro e W ⟨rfl, hb⟩; have hSn : (LS w w2 A n c g p) W := hSof _ (zbT (LS.b hD0) hb (LS.b hD0).size); (try dsimp only at hSn); (try replace HQ0 := bkT hb HQ0); (try replace HQ1 := bkT hb HQ1); (try replace HQ2 := bkT hb HQ2); clear hb)
      refine hK.out _ _ ?_ (fun hD1 => ?_)
      · (try dsimp only); first | assumption | exact hSof _ (zbD (zbR _ _))
      clear hK K hD0; try simp only [Act.put, zl, z0, z1]
      refine wpAnyH_ready (rs := [7, 8, 9]) (by kernel_rfl) (by simp) ?_; refine consL 7 rfl (fun K hK => ?_) ?_
      · skip
        (go_simp; (first | refine capN (fun W q0 hq hQ hB hgr => ?_) | refine capND (fun W q0 hq hQ hB hgr => ?_)); have hSn : (LS w w2 A n c g p) W := hSof _ (hB _ _ (by first | exact (LS.b hD1) | exact LS.b hS) (by first | exact (LS.b hD1).size | exact (LS.b hS).size)); (try dsimp only at hSn); have L0 := hide (show w2.heap.size ≤ q0 by have h1 := (LS.b hD1).size; omega); (try have D01 := hide (show q0 ≠ q1 by have h1 := blk_lt HQ1.out; omega)); (try have D02 := hide (show q0 ≠ q2 by have h1 := blk_lt HQ2.out; omega)); have hb := hB _ _ (zbR _ _) (Nat.le_refl _); (try replace HQ0 := bkT hb HQ0); (try replace HQ1 := bkT hb HQ1); (try replace HQ2 := bkT hb HQ2); (first | rw [hq] | simp only [hq]); have HQ0 := hide (hQ.trans (show _ = some (Obj.cells #[.int .i64 0, .int .i64 0] 32 (0, 0)) from rfl)); clear hq hQ hB hgr hb)
        refine hK.out _ _ ?_ (fun hD2 => ?_)
        · (try dsimp only); first | assumption | exact hSof _ (zbD (zbR _ _))
        clear hK K hD1; try simp only [Act.put, zl, z0, z1]
        refine wpAnyH_ready (rs := [8, 9]) (by kernel_rfl) (by simp) ?_; refine consL 8 rfl (fun K hK => ?_) ?_
        · skip
          (go_simp; (first | refine capN (fun W q1 hq hQ hB hgr => ?_) | refine capND (fun W q1 hq hQ hB hgr => ?_)); have hSn : (LS w w2 A n c g p) W := hSof _ (hB _ _ (by first | exact (LS.b hD2) | exact LS.b hS) (by first | exact (LS.b hD2).size | exact (LS.b hS).size)); (try dsimp only at hSn); have L1 := hide (show w2.heap.size ≤ q1 by have h1 := (LS.b hD2).size; omega); (try have D01 := hide (show q0 ≠ q1 by have h1 := blk_lt HQ0.out; omega)); (try have D12 := hide (show q1 ≠ q2 by have h1 := blk_lt HQ2.out; omega)); have hb := hB _ _ (zbR _ _) (Nat.le_refl _); (try replace HQ0 := bkT hb HQ0); (try replace HQ1 := bkT hb HQ1); (try replace HQ2 := bkT hb HQ2); (first | rw [hq] | simp only [hq]); have HQ1 := hide (hQ.trans (show _ = some (Obj.cells #[.int .i64 0, .int .i64 0] 32 (0, 0)) from rfl)); clear hq hQ hB hgr hb)
          refine hK.out _ _ ?_ (fun hD3 => ?_)
          · (try dsimp only); first | assumption | exact hSof _ (zbD (zbR _ _))
          clear hK K hD2; try simp only [Act.put, zl, z0, z1]
          refine wpAnyH_ready (rs := [9]) (by kernel_rfl) (by simp) ?_; refine consL 9 rfl (fun K hK => ?_) AllReadyH.nil
          (go_simp; (first | refine capN (fun W q2 hq hQ hB hgr => ?_) | refine capND (fun W q2 hq hQ hB hgr => ?_)); have hSn : (LS w w2 A n c g p) W := hSof _ (hB _ _ (by first | exact (LS.b hD3) | exact LS.b hS) (by first | exact (LS.b hD3).size | exact (LS.b hS).size)); (try dsimp only at hSn); have L2 := hide (show w2.heap.size ≤ q2 by have h1 := (LS.b hD3).size; omega); (try have D02 := hide (show q0 ≠ q2 by have h1 := blk_lt HQ0.out; omega)); (try have D12 := hide (show q1 ≠ q2 by have h1 := blk_lt HQ1.out; omega)); have hb := hB _ _ (zbR _ _) (Nat.le_refl _); (try replace HQ0 := bkT hb HQ0); (try replace HQ1 := bkT hb HQ1); (try replace HQ2 := bkT hb HQ2); (first | rw [hq] | simp only [hq]); have HQ2 := hide (hQ.trans (show _ = some (Obj.cells #[.int .i64 0, .int .i64 0] 32 (0, 0)) from rfl)); clear hq hQ hB hgr hb)
          refine hK.out _ _ ?_ (fun hD4 => ?_)
          · (try dsimp only); first | assumption | exact hSof _ (zbD (zbR _ _))
          clear hK K hD3; try simp only [Act.put, zl, z0, z1]
          refine wpAnyH_ready (rs := [10]) (by kernel_rfl) (by simp) ?_; refine consL 10 rfl (fun K hK => ?_) AllReadyH.nil
          (refine step_store_row rfl 32 (.tmp 10) (.tmp 36) rfl q0 #[.int .i64 won.A, .int .i64 won.B] rfl rfl 32 _ HQ0.out (by kernel_rfl) rfl (by simp [Value.oneCell']) ?_; refine capRow HQ0.out (fun W hQ hgr hB => ?_); have hSn : (LS w w2 A n c g p) W := hSof _ (hB _ _ (LS.b hD4) L0.out); (try dsimp only at hSn); replace HQ1 := bkN hgr D01.out.symm HQ1; replace HQ2 := bkN hgr D02.out.symm HQ2; have HQ0 := hide hQ; clear hQ hgr hB)
          refine hK.out _ _ ?_ (fun hD5 => ?_)
          · (try dsimp only); first | assumption | exact hSof _ (zbD (zbR _ _))
          clear hK K hD4; try simp only [Act.put, zl, z0, z1]
          refine wpAnyH_ready (rs := [11]) (by kernel_rfl) (by simp) ?_; refine consL 11 rfl (fun K hK => ?_) AllReadyH.nil
          (refine step_store_row rfl 32 (.tmp 11) (.tmp 38) rfl q1 #[.int .i64 g.A, .int .i64 g.B] rfl rfl 32 _ HQ1.out (by kernel_rfl) rfl (by simp [Value.oneCell']) ?_; refine capRow HQ1.out (fun W hQ hgr hB => ?_); have hSn : (LS w w2 A n c g p) W := hSof _ (hB _ _ (LS.b hD5) L1.out); (try dsimp only at hSn); replace HQ0 := bkN hgr D01.out HQ0; replace HQ2 := bkN hgr D12.out.symm HQ2; have HQ1 := hide hQ; clear hQ hgr hB)
          refine hK.out _ _ ?_ (fun hD6 => ?_)
          · (try dsimp only); first | assumption | exact hSof _ (zbD (zbR _ _))
          clear hK K hD5; try simp only [Act.put, zl, z0, z1]
          refine wpAnyH_ready (rs := [12]) (by kernel_rfl) (by simp) ?_; refine consL 12 rfl (fun K hK => ?_) AllReadyH.nil
          (refine step_store_row rfl 32 (.tmp 12) (.tmp 40) rfl q2 #[.int .i64 p.A, .int .i64 p.B] rfl rfl 32 _ HQ2.out (by kernel_rfl) rfl (by simp [Value.oneCell']) ?_; refine capRow HQ2.out (fun W hQ hgr hB => ?_); have hSn : (LS w w2 A n c g p) W := hSof _ (hB _ _ (LS.b hD6) L2.out); (try dsimp only at hSn); replace HQ0 := bkN hgr D02.out HQ0; replace HQ1 := bkN hgr D12.out HQ1; have HQ2 := hide hQ; clear hQ hgr hB)
          refine hK.out _ _ ?_ (fun hD7 => ?_)
          · (try dsimp only); first | assumption | exact hSof _ (zbD (zbR _ _))
          clear hK K hD6; try simp only [Act.put, zl, z0, z1]
          refine wpAnyH_done (by kernel_rfl) ?_ _
          (try dsimp only [Act.put, List.getElem_toArray, List.getElem_cons_succ, List.getElem_cons_zero])
          (try simp only [zl, z0, z1])
          go_wp2_with fail
          go_meet
          case rel => exact ⟨q0, q1, q2, rfl, rfl, rfl, hide ⟨D01.out, D02.out, D12.out⟩, HQ0, HQ1, HQ2, hide ⟨L0.out, L1.out, L2.out⟩, hide (LS.b hSn)⟩
        refine consL 9 rfl (fun K hK => ?_) AllReadyH.nil
        focus
          (go_simp; (first | refine capN (fun W q2 hq hQ hB hgr => ?_) | refine capND (fun W q2 hq hQ hB hgr => ?_)); have hSn : (LS w w2 A n c g p) W := hSof _ (hB _ _ (by first | exact (LS.b hD2) | exact LS.b hS) (by first | exact (LS.b hD2).size | exact (LS.b hS).size)); (try dsimp only at hSn); have L2 := hide (show w2.heap.size ≤ q2 by have h1 := (LS.b hD2).size; omega); (try have D02 := hide (show q0 ≠ q2 by have h1 := blk_lt HQ0.out; omega)); (try have D12 := hide (show q1 ≠ q2 by have h1 := blk_lt HQ1.out; omega)); have hb := hB _ _ (zbR _ _) (Nat.le_refl _); (try replace HQ0 := bkT hb HQ0); (try replace HQ1 := bkT hb HQ1); (try replace HQ2 := bkT hb HQ2); (first | rw [hq] | simp only [hq]); have HQ2 := hide (hQ.trans (show _ = some (Obj.cells #[.int .i64 0, .int .i64 0] 32 (0, 0)) from rfl)); clear hq hQ hB hgr hb)
          refine hK.out _ _ ?_ (fun hD3 => ?_)
          · (try dsimp only); first | assumption | exact hSof _ (zbD (zbR _ _))
          clear hK K hD2; try simp only [Act.put, zl, z0, z1]
          refine wpAnyH_ready (rs := [8]) (by kernel_rfl) (by simp) ?_; refine consL 8 rfl (fun K hK => ?_) AllReadyH.nil
          (go_simp; (first | refine capN (fun W q1 hq hQ hB hgr => ?_) | refine capND (fun W q1 hq hQ hB hgr => ?_)); have hSn : (LS w w2 A n c g p) W := hSof _ (hB _ _ (by first | exact (LS.b hD3) | exact LS.b hS) (by first | exact (LS.b hD3).size | exact (LS.b hS).size)); (try dsimp only at hSn); have L1 := hide (show w2.heap.size ≤ q1 by have h1 := (LS.b hD3).size; omega); (try have D01 := hide (show q0 ≠ q1 by have h1 := blk_lt HQ0.out; omega)); (try have D12 := hide (show q1 ≠ q2 by have h1 := blk_lt HQ2.out; omega)); have hb := hB _ _ (zbR _ _) (Nat.le_refl _); (try replace HQ0 := bkT hb HQ0); (try replace HQ1 := bkT hb HQ1); (try replace HQ2 := bkT hb HQ2); (first | rw [hq] | simp only [hq]); have HQ1 := hide (hQ.trans (show _ = some (Obj.cells #[.int .i64 0, .int .i64 0] 32 (0, 0)) from rfl)); clear hq hQ hB hgr hb)
          refine hK.out _ _ ?_ (fun hD4 => ?_)
          · (try dsimp only); first | assumption | exact hSof _ (zbD (zbR _ _))
          clear hK K hD3; try simp only [Act.put, zl, z0, z1]
          refine wpAnyH_ready (rs := [10]) (by kernel_rfl) (by simp) ?_; refine consL 10 rfl (fun K hK => ?_) AllReadyH.nil
          (refine step_store_row rfl 32 (.tmp 10) (.tmp 36) rfl q0 #[.int .i64 won.A, .int .i64 won.B] rfl rfl 32 _ HQ0.out (by kernel_rfl) rfl (by simp [Value.oneCell']) ?_; refine capRow HQ0.out (fun W hQ hgr hB => ?_); have hSn : (LS w w2 A n c g p) W := hSof _ (hB _ _ (LS.b hD4) L0.out); (try dsimp only at hSn); replace HQ1 := bkN hgr D01.out.symm HQ1; replace HQ2 := bkN hgr D02.out.symm HQ2; have HQ0 := hide hQ; clear hQ hgr hB)
          refine hK.out _ _ ?_ (fun hD5 => ?_)
          · (try dsimp only); first | assumption | exact hSof _ (zbD (zbR _ _))
          clear hK K hD4; try simp only [Act.put, zl, z0, z1]
          refine wpAnyH_ready (rs := [11]) (by kernel_rfl) (by simp) ?_; refine consL 11 rfl (fun K hK => ?_) AllReadyH.nil
          (refine step_store_row rfl 32 (.tmp 11) (.tmp 38) rfl q1 #[.int .i64 g.A, .int .i64 g.B] rfl rfl 32 _ HQ1.out (by kernel_rfl) rfl (by simp [Value.oneCell']) ?_; refine capRow HQ1.out (fun W hQ hgr hB => ?_); have hSn : (LS w w2 A n c g p) W := hSof _ (hB _ _ (LS.b hD5) L1.out); (try dsimp only at hSn); replace HQ0 := bkN hgr D01.out HQ0; replace HQ2 := bkN hgr D12.out.symm HQ2; have HQ1 := hide hQ; clear hQ hgr hB)
          refine hK.out _ _ ?_ (fun hD6 => ?_)
          · (try dsimp only); first | assumption | exact hSof _ (zbD (zbR _ _))
          clear hK K hD5; try simp only [Act.put, zl, z0, z1]
          refine wpAnyH_ready (rs := [12]) (by kernel_rfl) (by simp) ?_; refine consL 12 rfl (fun K hK => ?_) AllReadyH.nil
          (refine step_store_row rfl 32 (.tmp 12) (.tmp 40) rfl q2 #[.int .i64 p.A, .int .i64 p.B] rfl rfl 32 _ HQ2.out (by kernel_rfl) rfl (by simp [Value.oneCell']) ?_; refine capRow HQ2.out (fun W hQ hgr hB => ?_); have hSn : (LS w w2 A n c g p) W := hSof _ (hB _ _ (LS.b hD6) L2.out); (try dsimp only at hSn); replace HQ0 := bkN hgr D02.out HQ0; replace HQ1 := bkN hgr D12.out HQ1; have HQ2 := hide hQ; clear hQ hgr hB)
          refine hK.out _ _ ?_ (fun hD7 => ?_)
          · (try dsimp only); first | assumption | exact hSof _ (zbD (zbR _ _))
          clear hK K hD6; try simp only [Act.put, zl, z0, z1]
          refine wpAnyH_done (by kernel_rfl) ?_ _
          (try dsimp only [Act.put, List.getElem_toArray, List.getElem_cons_succ, List.getElem_cons_zero])
          (try simp only [zl, z0, z1])
          go_wp2_with fail
          go_meet
          case rel => exact ⟨q0, q1, q2, rfl, rfl, rfl, hide ⟨D01.out, D02.out, D12.out⟩, HQ0, HQ1, HQ2, hide ⟨L0.out, L1.out, L2.out⟩, hide (LS.b hSn)⟩
      refine consL 8 rfl (fun K hK => ?_) ?_
      · skip
        (go_simp; (first | refine capN (fun W q1 hq hQ hB hgr => ?_) | refine capND (fun W q1 hq hQ hB hgr => ?_)); have hSn : (LS w w2 A n c g p) W := hSof _ (hB _ _ (by first | exact (LS.b hD1) | exact LS.b hS) (by first | exact (LS.b hD1).size | exact (LS.b hS).size)); (try dsimp only at hSn); have L1 := hide (show w2.heap.size ≤ q1 by have h1 := (LS.b hD1).size; omega); (try have D01 := hide (show q0 ≠ q1 by have h1 := blk_lt HQ0.out; omega)); (try have D12 := hide (show q1 ≠ q2 by have h1 := blk_lt HQ2.out; omega)); have hb := hB _ _ (zbR _ _) (Nat.le_refl _); (try replace HQ0 := bkT hb HQ0); (try replace HQ1 := bkT hb HQ1); (try replace HQ2 := bkT hb HQ2); (first | rw [hq] | simp only [hq]); have HQ1 := hide (hQ.trans (show _ = some (Obj.cells #[.int .i64 0, .int .i64 0] 32 (0, 0)) from rfl)); clear hq hQ hB hgr hb)
        refine hK.out _ _ ?_ (fun hD2 => ?_)
        · (try dsimp only); first | assumption | exact hSof _ (zbD (zbR _ _))
        clear hK K hD1; try simp only [Act.put, zl, z0, z1]
        refine wpAnyH_ready (rs := [7, 9]) (by kernel_rfl) (by simp) ?_; refine consL 7 rfl (fun K hK => ?_) ?_
        · skip
          (go_simp; (first | refine capN (fun W q0 hq hQ hB hgr => ?_) | refine capND (fun W q0 hq hQ hB hgr => ?_)); have hSn : (LS w w2 A n c g p) W := hSof _ (hB _ _ (by first | exact (LS.b hD2) | exact LS.b hS) (by first | exact (LS.b hD2).size | exact (LS.b hS).size)); (try dsimp only at hSn); have L0 := hide (show w2.heap.size ≤ q0 by have h1 := (LS.b hD2).size; omega); (try have D01 := hide (show q0 ≠ q1 by have h1 := blk_lt HQ1.out; omega)); (try have D02 := hide (show q0 ≠ q2 by have h1 := blk_lt HQ2.out; omega)); have hb := hB _ _ (zbR _ _) (Nat.le_refl _); (try replace HQ0 := bkT hb HQ0); (try replace HQ1 := bkT hb HQ1); (try replace HQ2 := bkT hb HQ2); (first | rw [hq] | simp only [hq]); have HQ0 := hide (hQ.trans (show _ = some (Obj.cells #[.int .i64 0, .int .i64 0] 32 (0, 0)) from rfl)); clear hq hQ hB hgr hb)
          refine hK.out _ _ ?_ (fun hD3 => ?_)
          · (try dsimp only); first | assumption | exact hSof _ (zbD (zbR _ _))
          clear hK K hD2; try simp only [Act.put, zl, z0, z1]
          refine wpAnyH_ready (rs := [9]) (by kernel_rfl) (by simp) ?_; refine consL 9 rfl (fun K hK => ?_) AllReadyH.nil
          (go_simp; (first | refine capN (fun W q2 hq hQ hB hgr => ?_) | refine capND (fun W q2 hq hQ hB hgr => ?_)); have hSn : (LS w w2 A n c g p) W := hSof _ (hB _ _ (by first | exact (LS.b hD3) | exact LS.b hS) (by first | exact (LS.b hD3).size | exact (LS.b hS).size)); (try dsimp only at hSn); have L2 := hide (show w2.heap.size ≤ q2 by have h1 := (LS.b hD3).size; omega); (try have D02 := hide (show q0 ≠ q2 by have h1 := blk_lt HQ0.out; omega)); (try have D12 := hide (show q1 ≠ q2 by have h1 := blk_lt HQ1.out; omega)); have hb := hB _ _ (zbR _ _) (Nat.le_refl _); (try replace HQ0 := bkT hb HQ0); (try replace HQ1 := bkT hb HQ1); (try replace HQ2 := bkT hb HQ2); (first | rw [hq] | simp only [hq]); have HQ2 := hide (hQ.trans (show _ = some (Obj.cells #[.int .i64 0, .int .i64 0] 32 (0, 0)) from rfl)); clear hq hQ hB hgr hb)
          refine hK.out _ _ ?_ (fun hD4 => ?_)
          · (try dsimp only); first | assumption | exact hSof _ (zbD (zbR _ _))
          clear hK K hD3; try simp only [Act.put, zl, z0, z1]
          refine wpAnyH_ready (rs := [10]) (by kernel_rfl) (by simp) ?_; refine consL 10 rfl (fun K hK => ?_) AllReadyH.nil
          (refine step_store_row rfl 32 (.tmp 10) (.tmp 36) rfl q0 #[.int .i64 won.A, .int .i64 won.B] rfl rfl 32 _ HQ0.out (by kernel_rfl) rfl (by simp [Value.oneCell']) ?_; refine capRow HQ0.out (fun W hQ hgr hB => ?_); have hSn : (LS w w2 A n c g p) W := hSof _ (hB _ _ (LS.b hD4) L0.out); (try dsimp only at hSn); replace HQ1 := bkN hgr D01.out.symm HQ1; replace HQ2 := bkN hgr D02.out.symm HQ2; have HQ0 := hide hQ; clear hQ hgr hB)
          refine hK.out _ _ ?_ (fun hD5 => ?_)
          · (try dsimp only); first | assumption | exact hSof _ (zbD (zbR _ _))
          clear hK K hD4; try simp only [Act.put, zl, z0, z1]
          refine wpAnyH_ready (rs := [11]) (by kernel_rfl) (by simp) ?_; refine consL 11 rfl (fun K hK => ?_) AllReadyH.nil
          (refine step_store_row rfl 32 (.tmp 11) (.tmp 38) rfl q1 #[.int .i64 g.A, .int .i64 g.B] rfl rfl 32 _ HQ1.out (by kernel_rfl) rfl (by simp [Value.oneCell']) ?_; refine capRow HQ1.out (fun W hQ hgr hB => ?_); have hSn : (LS w w2 A n c g p) W := hSof _ (hB _ _ (LS.b hD5) L1.out); (try dsimp only at hSn); replace HQ0 := bkN hgr D01.out HQ0; replace HQ2 := bkN hgr D12.out.symm HQ2; have HQ1 := hide hQ; clear hQ hgr hB)
          refine hK.out _ _ ?_ (fun hD6 => ?_)
          · (try dsimp only); first | assumption | exact hSof _ (zbD (zbR _ _))
          clear hK K hD5; try simp only [Act.put, zl, z0, z1]
          refine wpAnyH_ready (rs := [12]) (by kernel_rfl) (by simp) ?_; refine consL 12 rfl (fun K hK => ?_) AllReadyH.nil
          (refine step_store_row rfl 32 (.tmp 12) (.tmp 40) rfl q2 #[.int .i64 p.A, .int .i64 p.B] rfl rfl 32 _ HQ2.out (by kernel_rfl) rfl (by simp [Value.oneCell']) ?_; refine capRow HQ2.out (fun W hQ hgr hB => ?_); have hSn : (LS w w2 A n c g p) W := hSof _ (hB _ _ (LS.b hD6) L2.out); (try dsimp only at hSn); replace HQ0 := bkN hgr D02.out HQ0; replace HQ1 := bkN hgr D12.out HQ1; have HQ2 := hide hQ; clear hQ hgr hB)
          refine hK.out _ _ ?_ (fun hD7 => ?_)
          · (try dsimp only); first | assumption | exact hSof _ (zbD (zbR _ _))
          clear hK K hD6; try simp only [Act.put, zl, z0, z1]
          refine wpAnyH_done (by kernel_rfl) ?_ _
          (try dsimp only [Act.put, List.getElem_toArray, List.getElem_cons_succ, List.getElem_cons_zero])
          (try simp only [zl, z0, z1])
          go_wp2_with fail
          go_meet
          case rel => exact ⟨q0, q1, q2, rfl, rfl, rfl, hide ⟨D01.out, D02.out, D12.out⟩, HQ0, HQ1, HQ2, hide ⟨L0.out, L1.out, L2.out⟩, hide (LS.b hSn)⟩
        refine consL 9 rfl (fun K hK => ?_) AllReadyH.nil
        focus
          (go_simp; (first | refine capN (fun W q2 hq hQ hB hgr => ?_) | refine capND (fun W q2 hq hQ hB hgr => ?_)); have hSn : (LS w w2 A n c g p) W := hSof _ (hB _ _ (by first | exact (LS.b hD2) | exact LS.b hS) (by first | exact (LS.b hD2).size | exact (LS.b hS).size)); (try dsimp only at hSn); have L2 := hide (show w2.heap.size ≤ q2 by have h1 := (LS.b hD2).size; omega); (try have D02 := hide (show q0 ≠ q2 by have h1 := blk_lt HQ0.out; omega)); (try have D12 := hide (show q1 ≠ q2 by have h1 := blk_lt HQ1.out; omega)); have hb := hB _ _ (zbR _ _) (Nat.le_refl _); (try replace HQ0 := bkT hb HQ0); (try replace HQ1 := bkT hb HQ1); (try replace HQ2 := bkT hb HQ2); (first | rw [hq] | simp only [hq]); have HQ2 := hide (hQ.trans (show _ = some (Obj.cells #[.int .i64 0, .int .i64 0] 32 (0, 0)) from rfl)); clear hq hQ hB hgr hb)
          refine hK.out _ _ ?_ (fun hD3 => ?_)
          · (try dsimp only); first | assumption | exact hSof _ (zbD (zbR _ _))
          clear hK K hD2; try simp only [Act.put, zl, z0, z1]
          refine wpAnyH_ready (rs := [7]) (by kernel_rfl) (by simp) ?_; refine consL 7 rfl (fun K hK => ?_) AllReadyH.nil
          (go_simp; (first | refine capN (fun W q0 hq hQ hB hgr => ?_) | refine capND (fun W q0 hq hQ hB hgr => ?_)); have hSn : (LS w w2 A n c g p) W := hSof _ (hB _ _ (by first | exact (LS.b hD3) | exact LS.b hS) (by first | exact (LS.b hD3).size | exact (LS.b hS).size)); (try dsimp only at hSn); have L0 := hide (show w2.heap.size ≤ q0 by have h1 := (LS.b hD3).size; omega); (try have D01 := hide (show q0 ≠ q1 by have h1 := blk_lt HQ1.out; omega)); (try have D02 := hide (show q0 ≠ q2 by have h1 := blk_lt HQ2.out; omega)); have hb := hB _ _ (zbR _ _) (Nat.le_refl _); (try replace HQ0 := bkT hb HQ0); (try replace HQ1 := bkT hb HQ1); (try replace HQ2 := bkT hb HQ2); (first | rw [hq] | simp only [hq]); have HQ0 := hide (hQ.trans (show _ = some (Obj.cells #[.int .i64 0, .int .i64 0] 32 (0, 0)) from rfl)); clear hq hQ hB hgr hb)
          refine hK.out _ _ ?_ (fun hD4 => ?_)
          · (try dsimp only); first | assumption | exact hSof _ (zbD (zbR _ _))
          clear hK K hD3; try simp only [Act.put, zl, z0, z1]
          refine wpAnyH_ready (rs := [10]) (by kernel_rfl) (by simp) ?_; refine consL 10 rfl (fun K hK => ?_) AllReadyH.nil
          (refine step_store_row rfl 32 (.tmp 10) (.tmp 36) rfl q0 #[.int .i64 won.A, .int .i64 won.B] rfl rfl 32 _ HQ0.out (by kernel_rfl) rfl (by simp [Value.oneCell']) ?_; refine capRow HQ0.out (fun W hQ hgr hB => ?_); have hSn : (LS w w2 A n c g p) W := hSof _ (hB _ _ (LS.b hD4) L0.out); (try dsimp only at hSn); replace HQ1 := bkN hgr D01.out.symm HQ1; replace HQ2 := bkN hgr D02.out.symm HQ2; have HQ0 := hide hQ; clear hQ hgr hB)
          refine hK.out _ _ ?_ (fun hD5 => ?_)
          · (try dsimp only); first | assumption | exact hSof _ (zbD (zbR _ _))
          clear hK K hD4; try simp only [Act.put, zl, z0, z1]
          refine wpAnyH_ready (rs := [11]) (by kernel_rfl) (by simp) ?_; refine consL 11 rfl (fun K hK => ?_) AllReadyH.nil
          (refine step_store_row rfl 32 (.tmp 11) (.tmp 38) rfl q1 #[.int .i64 g.A, .int .i64 g.B] rfl rfl 32 _ HQ1.out (by kernel_rfl) rfl (by simp [Value.oneCell']) ?_; refine capRow HQ1.out (fun W hQ hgr hB => ?_); have hSn : (LS w w2 A n c g p) W := hSof _ (hB _ _ (LS.b hD5) L1.out); (try dsimp only at hSn); replace HQ0 := bkN hgr D01.out HQ0; replace HQ2 := bkN hgr D12.out.symm HQ2; have HQ1 := hide hQ; clear hQ hgr hB)
          refine hK.out _ _ ?_ (fun hD6 => ?_)
          · (try dsimp only); first | assumption | exact hSof _ (zbD (zbR _ _))
          clear hK K hD5; try simp only [Act.put, zl, z0, z1]
          refine wpAnyH_ready (rs := [12]) (by kernel_rfl) (by simp) ?_; refine consL 12 rfl (fun K hK => ?_) AllReadyH.nil
          (refine step_store_row rfl 32 (.tmp 12) (.tmp 40) rfl q2 #[.int .i64 p.A, .int .i64 p.B] rfl rfl 32 _ HQ2.out (by kernel_rfl) rfl (by simp [Value.oneCell']) ?_; refine capRow HQ2.out (fun W hQ hgr hB => ?_); have hSn : (LS w w2 A n c g p) W := hSof _ (hB _ _ (LS.b hD6) L2.out); (try dsimp only at hSn); replace HQ0 := bkN hgr D02.out HQ0; replace HQ1 := bkN hgr D12.out HQ1; have HQ2 := hide hQ; clear hQ hgr hB)
          refine hK.out _ _ ?_ (fun hD7 => ?_)
          · (try dsimp only); first | assumption | exact hSof _ (zbD (zbR _ _))
          clear hK K hD6; try simp only [Act.put, zl, z0, z1]
          refine wpAnyH_done (by kernel_rfl) ?_ _
          (try dsimp only [Act.put, List.getElem_toArray, List.getElem_cons_succ, List.getElem_cons_zero])
          (try simp only [zl, z0, z1])
          go_wp2_with fail
          go_meet
          case rel => exact ⟨q0, q1, q2, rfl, rfl, rfl, hide ⟨D01.out, D02.out, D12.out⟩, HQ0, HQ1, HQ2, hide ⟨L0.out, L1.out, L2.out⟩, hide (LS.b hSn)⟩
      refine consL 9 rfl (fun K hK => ?_) AllReadyH.nil
      focus
        (go_simp; (first | refine capN (fun W q2 hq hQ hB hgr => ?_) | refine capND (fun W q2 hq hQ hB hgr => ?_)); have hSn : (LS w w2 A n c g p) W := hSof _ (hB _ _ (by first | exact (LS.b hD1) | exact LS.b hS) (by first | exact (LS.b hD1).size | exact (LS.b hS).size)); (try dsimp only at hSn); have L2 := hide (show w2.heap.size ≤ q2 by have h1 := (LS.b hD1).size; omega); (try have D02 := hide (show q0 ≠ q2 by have h1 := blk_lt HQ0.out; omega)); (try have D12 := hide (show q1 ≠ q2 by have h1 := blk_lt HQ1.out; omega)); have hb := hB _ _ (zbR _ _) (Nat.le_refl _); (try replace HQ0 := bkT hb HQ0); (try replace HQ1 := bkT hb HQ1); (try replace HQ2 := bkT hb HQ2); (first | rw [hq] | simp only [hq]); have HQ2 := hide (hQ.trans (show _ = some (Obj.cells #[.int .i64 0, .int .i64 0] 32 (0, 0)) from rfl)); clear hq hQ hB hgr hb)
        refine hK.out _ _ ?_ (fun hD2 => ?_)
        · (try dsimp only); first | assumption | exact hSof _ (zbD (zbR _ _))
        clear hK K hD1; try simp only [Act.put, zl, z0, z1]
        refine wpAnyH_ready (rs := [7, 8]) (by kernel_rfl) (by simp) ?_; refine consL 7 rfl (fun K hK => ?_) ?_
        · skip
          (go_simp; (first | refine capN (fun W q0 hq hQ hB hgr => ?_) | refine capND (fun W q0 hq hQ hB hgr => ?_)); have hSn : (LS w w2 A n c g p) W := hSof _ (hB _ _ (by first | exact (LS.b hD2) | exact LS.b hS) (by first | exact (LS.b hD2).size | exact (LS.b hS).size)); (try dsimp only at hSn); have L0 := hide (show w2.heap.size ≤ q0 by have h1 := (LS.b hD2).size; omega); (try have D01 := hide (show q0 ≠ q1 by have h1 := blk_lt HQ1.out; omega)); (try have D02 := hide (show q0 ≠ q2 by have h1 := blk_lt HQ2.out; omega)); have hb := hB _ _ (zbR _ _) (Nat.le_refl _); (try replace HQ0 := bkT hb HQ0); (try replace HQ1 := bkT hb HQ1); (try replace HQ2 := bkT hb HQ2); (first | rw [hq] | simp only [hq]); have HQ0 := hide (hQ.trans (show _ = some (Obj.cells #[.int .i64 0, .int .i64 0] 32 (0, 0)) from rfl)); clear hq hQ hB hgr hb)
          refine hK.out _ _ ?_ (fun hD3 => ?_)
          · (try dsimp only); first | assumption | exact hSof _ (zbD (zbR _ _))
          clear hK K hD2; try simp only [Act.put, zl, z0, z1]
          refine wpAnyH_ready (rs := [8]) (by kernel_rfl) (by simp) ?_; refine consL 8 rfl (fun K hK => ?_) AllReadyH.nil
          (go_simp; (first | refine capN (fun W q1 hq hQ hB hgr => ?_) | refine capND (fun W q1 hq hQ hB hgr => ?_)); have hSn : (LS w w2 A n c g p) W := hSof _ (hB _ _ (by first | exact (LS.b hD3) | exact LS.b hS) (by first | exact (LS.b hD3).size | exact (LS.b hS).size)); (try dsimp only at hSn); have L1 := hide (show w2.heap.size ≤ q1 by have h1 := (LS.b hD3).size; omega); (try have D01 := hide (show q0 ≠ q1 by have h1 := blk_lt HQ0.out; omega)); (try have D12 := hide (show q1 ≠ q2 by have h1 := blk_lt HQ2.out; omega)); have hb := hB _ _ (zbR _ _) (Nat.le_refl _); (try replace HQ0 := bkT hb HQ0); (try replace HQ1 := bkT hb HQ1); (try replace HQ2 := bkT hb HQ2); (first | rw [hq] | simp only [hq]); have HQ1 := hide (hQ.trans (show _ = some (Obj.cells #[.int .i64 0, .int .i64 0] 32 (0, 0)) from rfl)); clear hq hQ hB hgr hb)
          refine hK.out _ _ ?_ (fun hD4 => ?_)
          · (try dsimp only); first | assumption | exact hSof _ (zbD (zbR _ _))
          clear hK K hD3; try simp only [Act.put, zl, z0, z1]
          refine wpAnyH_ready (rs := [10]) (by kernel_rfl) (by simp) ?_; refine consL 10 rfl (fun K hK => ?_) AllReadyH.nil
          (refine step_store_row rfl 32 (.tmp 10) (.tmp 36) rfl q0 #[.int .i64 won.A, .int .i64 won.B] rfl rfl 32 _ HQ0.out (by kernel_rfl) rfl (by simp [Value.oneCell']) ?_; refine capRow HQ0.out (fun W hQ hgr hB => ?_); have hSn : (LS w w2 A n c g p) W := hSof _ (hB _ _ (LS.b hD4) L0.out); (try dsimp only at hSn); replace HQ1 := bkN hgr D01.out.symm HQ1; replace HQ2 := bkN hgr D02.out.symm HQ2; have HQ0 := hide hQ; clear hQ hgr hB)
          refine hK.out _ _ ?_ (fun hD5 => ?_)
          · (try dsimp only); first | assumption | exact hSof _ (zbD (zbR _ _))
          clear hK K hD4; try simp only [Act.put, zl, z0, z1]
          refine wpAnyH_ready (rs := [11]) (by kernel_rfl) (by simp) ?_; refine consL 11 rfl (fun K hK => ?_) AllReadyH.nil
          (refine step_store_row rfl 32 (.tmp 11) (.tmp 38) rfl q1 #[.int .i64 g.A, .int .i64 g.B] rfl rfl 32 _ HQ1.out (by kernel_rfl) rfl (by simp [Value.oneCell']) ?_; refine capRow HQ1.out (fun W hQ hgr hB => ?_); have hSn : (LS w w2 A n c g p) W := hSof _ (hB _ _ (LS.b hD5) L1.out); (try dsimp only at hSn); replace HQ0 := bkN hgr D01.out HQ0; replace HQ2 := bkN hgr D12.out.symm HQ2; have HQ1 := hide hQ; clear hQ hgr hB)
          refine hK.out _ _ ?_ (fun hD6 => ?_)
          · (try dsimp only); first | assumption | exact hSof _ (zbD (zbR _ _))
          clear hK K hD5; try simp only [Act.put, zl, z0, z1]
          refine wpAnyH_ready (rs := [12]) (by kernel_rfl) (by simp) ?_; refine consL 12 rfl (fun K hK => ?_) AllReadyH.nil
          (refine step_store_row rfl 32 (.tmp 12) (.tmp 40) rfl q2 #[.int .i64 p.A, .int .i64 p.B] rfl rfl 32 _ HQ2.out (by kernel_rfl) rfl (by simp [Value.oneCell']) ?_; refine capRow HQ2.out (fun W hQ hgr hB => ?_); have hSn : (LS w w2 A n c g p) W := hSof _ (hB _ _ (LS.b hD6) L2.out); (try dsimp only at hSn); replace HQ0 := bkN hgr D02.out HQ0; replace HQ1 := bkN hgr D12.out HQ1; have HQ2 := hide hQ; clear hQ hgr hB)
          refine hK.out _ _ ?_ (fun hD7 => ?_)
          · (try dsimp only); first | assumption | exact hSof _ (zbD (zbR _ _))
          clear hK K hD6; try simp only [Act.put, zl, z0, z1]
          refine wpAnyH_done (by kernel_rfl) ?_ _
          (try dsimp only [Act.put, List.getElem_toArray, List.getElem_cons_succ, List.getElem_cons_zero])
          (try simp only [zl, z0, z1])
          go_wp2_with fail
          go_meet
          case rel => exact ⟨q0, q1, q2, rfl, rfl, rfl, hide ⟨D01.out, D02.out, D12.out⟩, HQ0, HQ1, HQ2, hide ⟨L0.out, L1.out, L2.out⟩, hide (LS.b hSn)⟩
        refine consL 8 rfl (fun K hK => ?_) AllReadyH.nil
        focus
          (go_simp; (first | refine capN (fun W q1 hq hQ hB hgr => ?_) | refine capND (fun W q1 hq hQ hB hgr => ?_)); have hSn : (LS w w2 A n c g p) W := hSof _ (hB _ _ (by first | exact (LS.b hD2) | exact LS.b hS) (by first | exact (LS.b hD2).size | exact (LS.b hS).size)); (try dsimp only at hSn); have L1 := hide (show w2.heap.size ≤ q1 by have h1 := (LS.b hD2).size; omega); (try have D01 := hide (show q0 ≠ q1 by have h1 := blk_lt HQ0.out; omega)); (try have D12 := hide (show q1 ≠ q2 by have h1 := blk_lt HQ2.out; omega)); have hb := hB _ _ (zbR _ _) (Nat.le_refl _); (try replace HQ0 := bkT hb HQ0); (try replace HQ1 := bkT hb HQ1); (try replace HQ2 := bkT hb HQ2); (first | rw [hq] | simp only [hq]); have HQ1 := hide (hQ.trans (show _ = some (Obj.cells #[.int .i64 0, .int .i64 0] 32 (0, 0)) from rfl)); clear hq hQ hB hgr hb)
          refine hK.out _ _ ?_ (fun hD3 => ?_)
          · (try dsimp only); first | assumption | exact hSof _ (zbD (zbR _ _))
          clear hK K hD2; try simp only [Act.put, zl, z0, z1]
          refine wpAnyH_ready (rs := [7]) (by kernel_rfl) (by simp) ?_; refine consL 7 rfl (fun K hK => ?_) AllReadyH.nil
          (go_simp; (first | refine capN (fun W q0 hq hQ hB hgr => ?_) | refine capND (fun W q0 hq hQ hB hgr => ?_)); have hSn : (LS w w2 A n c g p) W := hSof _ (hB _ _ (by first | exact (LS.b hD3) | exact LS.b hS) (by first | exact (LS.b hD3).size | exact (LS.b hS).size)); (try dsimp only at hSn); have L0 := hide (show w2.heap.size ≤ q0 by have h1 := (LS.b hD3).size; omega); (try have D01 := hide (show q0 ≠ q1 by have h1 := blk_lt HQ1.out; omega)); (try have D02 := hide (show q0 ≠ q2 by have h1 := blk_lt HQ2.out; omega)); have hb := hB _ _ (zbR _ _) (Nat.le_refl _); (try replace HQ0 := bkT hb HQ0); (try replace HQ1 := bkT hb HQ1); (try replace HQ2 := bkT hb HQ2); (first | rw [hq] | simp only [hq]); have HQ0 := hide (hQ.trans (show _ = some (Obj.cells #[.int .i64 0, .int .i64 0] 32 (0, 0)) from rfl)); clear hq hQ hB hgr hb)
          refine hK.out _ _ ?_ (fun hD4 => ?_)
          · (try dsimp only); first | assumption | exact hSof _ (zbD (zbR _ _))
          clear hK K hD3; try simp only [Act.put, zl, z0, z1]
          refine wpAnyH_ready (rs := [10]) (by kernel_rfl) (by simp) ?_; refine consL 10 rfl (fun K hK => ?_) AllReadyH.nil
          (refine step_store_row rfl 32 (.tmp 10) (.tmp 36) rfl q0 #[.int .i64 won.A, .int .i64 won.B] rfl rfl 32 _ HQ0.out (by kernel_rfl) rfl (by simp [Value.oneCell']) ?_; refine capRow HQ0.out (fun W hQ hgr hB => ?_); have hSn : (LS w w2 A n c g p) W := hSof _ (hB _ _ (LS.b hD4) L0.out); (try dsimp only at hSn); replace HQ1 := bkN hgr D01.out.symm HQ1; replace HQ2 := bkN hgr D02.out.symm HQ2; have HQ0 := hide hQ; clear hQ hgr hB)
          refine hK.out _ _ ?_ (fun hD5 => ?_)
          · (try dsimp only); first | assumption | exact hSof _ (zbD (zbR _ _))
          clear hK K hD4; try simp only [Act.put, zl, z0, z1]
          refine wpAnyH_ready (rs := [11]) (by kernel_rfl) (by simp) ?_; refine consL 11 rfl (fun K hK => ?_) AllReadyH.nil
          (refine step_store_row rfl 32 (.tmp 11) (.tmp 38) rfl q1 #[.int .i64 g.A, .int .i64 g.B] rfl rfl 32 _ HQ1.out (by kernel_rfl) rfl (by simp [Value.oneCell']) ?_; refine capRow HQ1.out (fun W hQ hgr hB => ?_); have hSn : (LS w w2 A n c g p) W := hSof _ (hB _ _ (LS.b hD5) L1.out); (try dsimp only at hSn); replace HQ0 := bkN hgr D01.out HQ0; replace HQ2 := bkN hgr D12.out.symm HQ2; have HQ1 := hide hQ; clear hQ hgr hB)
          refine hK.out _ _ ?_ (fun hD6 => ?_)
          · (try dsimp only); first | assumption | exact hSof _ (zbD (zbR _ _))
          clear hK K hD5; try simp only [Act.put, zl, z0, z1]
          refine wpAnyH_ready (rs := [12]) (by kernel_rfl) (by simp) ?_; refine consL 12 rfl (fun K hK => ?_) AllReadyH.nil
          (refine step_store_row rfl 32 (.tmp 12) (.tmp 40) rfl q2 #[.int .i64 p.A, .int .i64 p.B] rfl rfl 32 _ HQ2.out (by kernel_rfl) rfl (by simp [Value.oneCell']) ?_; refine capRow HQ2.out (fun W hQ hgr hB => ?_); have hSn : (LS w w2 A n c g p) W := hSof _ (hB _ _ (LS.b hD6) L2.out); (try dsimp only at hSn); replace HQ0 := bkN hgr D02.out HQ0; replace HQ1 := bkN hgr D12.out HQ1; have HQ2 := hide hQ; clear hQ hgr hB)
          refine hK.out _ _ ?_ (fun hD7 => ?_)
          · (try dsimp only); first | assumption | exact hSof _ (zbD (zbR _ _))
          clear hK K hD6; try simp only [Act.put, zl, z0, z1]
          refine wpAnyH_done (by kernel_rfl) ?_ _
          (try dsimp only [Act.put, List.getElem_toArray, List.getElem_cons_succ, List.getElem_cons_zero])
          (try simp only [zl, z0, z1])
          go_wp2_with fail
          go_meet
          case rel => exact ⟨q0, q1, q2, rfl, rfl, rfl, hide ⟨D01.out, D02.out, D12.out⟩, HQ0, HQ1, HQ2, hide ⟨L0.out, L1.out, L2.out⟩, hide (LS.b hSn)⟩
    refine consL 7 rfl (fun K hK => ?_) ?_
    · skip
      (go_simp; (first | refine capN (fun W q0 hq hQ hB hgr => ?_) | refine capND (fun W q0 hq hQ hB hgr => ?_)); have hSn : (LS w w2 A n c g p) W := hSof _ (hB _ _ (by first | exact (LS.b hD0) | exact LS.b hS) (by first | exact (LS.b hD0).size | exact (LS.b hS).size)); (try dsimp only at hSn); have L0 := hide (show w2.heap.size ≤ q0 by have h1 := (LS.b hD0).size; omega); (try have D01 := hide (show q0 ≠ q1 by have h1 := blk_lt HQ1.out; omega)); (try have D02 := hide (show q0 ≠ q2 by have h1 := blk_lt HQ2.out; omega)); have hb := hB _ _ (zbR _ _) (Nat.le_refl _); (try replace HQ0 := bkT hb HQ0); (try replace HQ1 := bkT hb HQ1); (try replace HQ2 := bkT hb HQ2); (first | rw [hq] | simp only [hq]); have HQ0 := hide (hQ.trans (show _ = some (Obj.cells #[.int .i64 0, .int .i64 0] 32 (0, 0)) from rfl)); clear hq hQ hB hgr hb)
      refine hK.out _ _ ?_ (fun hD1 => ?_)
      · (try dsimp only); first | assumption | exact hSof _ (zbD (zbR _ _))
      clear hK K hD0; try simp only [Act.put, zl, z0, z1]
      refine wpAnyH_ready (rs := [2, 8, 9]) (by kernel_rfl) (by simp) ?_; refine consL 2 rfl (fun K hK => ?_) ?_
      · skip
        (go_simp; go_at_call 31; refine (refWon_any A n c ps _ HN.out ((HR2.out.below (LS.b hD1)).mono (LS.b hD1).size) (by omega)).mono ?_; rw [HWN.out]; rintro e W ⟨rfl, hb⟩; have hSn : (LS w w2 A n c g p) W := hSof _ (zbT (LS.b hD1) hb (LS.b hD1).size); (try dsimp only at hSn); (try replace HQ0 := bkT hb HQ0); (try replace HQ1 := bkT hb HQ1); (try replace HQ2 := bkT hb HQ2); clear hb)
        refine hK.out _ _ ?_ (fun hD2 => ?_)
        · (try dsimp only); first | assumption | exact hSof _ (zbD (zbR _ _))
        clear hK K hD1; try simp only [Act.put, zl, z0, z1]
        refine wpAnyH_ready (rs := [8, 9]) (by kernel_rfl) (by simp) ?_; refine consL 8 rfl (fun K hK => ?_) ?_
        · skip
          (go_simp; (first | refine capN (fun W q1 hq hQ hB hgr => ?_) | refine capND (fun W q1 hq hQ hB hgr => ?_)); have hSn : (LS w w2 A n c g p) W := hSof _ (hB _ _ (by first | exact (LS.b hD2) | exact LS.b hS) (by first | exact (LS.b hD2).size | exact (LS.b hS).size)); (try dsimp only at hSn); have L1 := hide (show w2.heap.size ≤ q1 by have h1 := (LS.b hD2).size; omega); (try have D01 := hide (show q0 ≠ q1 by have h1 := blk_lt HQ0.out; omega)); (try have D12 := hide (show q1 ≠ q2 by have h1 := blk_lt HQ2.out; omega)); have hb := hB _ _ (zbR _ _) (Nat.le_refl _); (try replace HQ0 := bkT hb HQ0); (try replace HQ1 := bkT hb HQ1); (try replace HQ2 := bkT hb HQ2); (first | rw [hq] | simp only [hq]); have HQ1 := hide (hQ.trans (show _ = some (Obj.cells #[.int .i64 0, .int .i64 0] 32 (0, 0)) from rfl)); clear hq hQ hB hgr hb)
          refine hK.out _ _ ?_ (fun hD3 => ?_)
          · (try dsimp only); first | assumption | exact hSof _ (zbD (zbR _ _))
          clear hK K hD2; try simp only [Act.put, zl, z0, z1]
          refine wpAnyH_ready (rs := [9]) (by kernel_rfl) (by simp) ?_; refine consL 9 rfl (fun K hK => ?_) AllReadyH.nil
          (go_simp; (first | refine capN (fun W q2 hq hQ hB hgr => ?_) | refine capND (fun W q2 hq hQ hB hgr => ?_)); have hSn : (LS w w2 A n c g p) W := hSof _ (hB _ _ (by first | exact (LS.b hD3) | exact LS.b hS) (by first | exact (LS.b hD3).size | exact (LS.b hS).size)); (try dsimp only at hSn); have L2 := hide (show w2.heap.size ≤ q2 by have h1 := (LS.b hD3).size; omega); (try have D02 := hide (show q0 ≠ q2 by have h1 := blk_lt HQ0.out; omega)); (try have D12 := hide (show q1 ≠ q2 by have h1 := blk_lt HQ1.out; omega)); have hb := hB _ _ (zbR _ _) (Nat.le_refl _); (try replace HQ0 := bkT hb HQ0); (try replace HQ1 := bkT hb HQ1); (try replace HQ2 := bkT hb HQ2); (first | rw [hq] | simp only [hq]); have HQ2 := hide (hQ.trans (show _ = some (Obj.cells #[.int .i64 0, .int .i64 0] 32 (0, 0)) from rfl)); clear hq hQ hB hgr hb)
          refine hK.out _ _ ?_ (fun hD4 => ?_)
          · (try dsimp only); first | assumption | exact hSof _ (zbD (zbR _ _))
          clear hK K hD3; try simp only [Act.put, zl, z0, z1]
          refine wpAnyH_ready (rs := [10]) (by kernel_rfl) (by simp) ?_; refine consL 10 rfl (fun K hK => ?_) AllReadyH.nil
          (refine step_store_row rfl 32 (.tmp 10) (.tmp 36) rfl q0 #[.int .i64 won.A, .int .i64 won.B] rfl rfl 32 _ HQ0.out (by kernel_rfl) rfl (by simp [Value.oneCell']) ?_; refine capRow HQ0.out (fun W hQ hgr hB => ?_); have hSn : (LS w w2 A n c g p) W := hSof _ (hB _ _ (LS.b hD4) L0.out); (try dsimp only at hSn); replace HQ1 := bkN hgr D01.out.symm HQ1; replace HQ2 := bkN hgr D02.out.symm HQ2; have HQ0 := hide hQ; clear hQ hgr hB)
          refine hK.out _ _ ?_ (fun hD5 => ?_)
          · (try dsimp only); first | assumption | exact hSof _ (zbD (zbR _ _))
          clear hK K hD4; try simp only [Act.put, zl, z0, z1]
          refine wpAnyH_ready (rs := [11]) (by kernel_rfl) (by simp) ?_; refine consL 11 rfl (fun K hK => ?_) AllReadyH.nil
          (refine step_store_row rfl 32 (.tmp 11) (.tmp 38) rfl q1 #[.int .i64 g.A, .int .i64 g.B] rfl rfl 32 _ HQ1.out (by kernel_rfl) rfl (by simp [Value.oneCell']) ?_; refine capRow HQ1.out (fun W hQ hgr hB => ?_); have hSn : (LS w w2 A n c g p) W := hSof _ (hB _ _ (LS.b hD5) L1.out); (try dsimp only at hSn); replace HQ0 := bkN hgr D01.out HQ0; replace HQ2 := bkN hgr D12.out.symm HQ2; have HQ1 := hide hQ; clear hQ hgr hB)
          refine hK.out _ _ ?_ (fun hD6 => ?_)
          · (try dsimp only); first | assumption | exact hSof _ (zbD (zbR _ _))
          clear hK K hD5; try simp only [Act.put, zl, z0, z1]
          refine wpAnyH_ready (rs := [12]) (by kernel_rfl) (by simp) ?_; refine consL 12 rfl (fun K hK => ?_) AllReadyH.nil
          (refine step_store_row rfl 32 (.tmp 12) (.tmp 40) rfl q2 #[.int .i64 p.A, .int .i64 p.B] rfl rfl 32 _ HQ2.out (by kernel_rfl) rfl (by simp [Value.oneCell']) ?_; refine capRow HQ2.out (fun W hQ hgr hB => ?_); have hSn : (LS w w2 A n c g p) W := hSof _ (hB _ _ (LS.b hD6) L2.out); (try dsimp only at hSn); replace HQ0 := bkN hgr D02.out HQ0; replace HQ1 := bkN hgr D12.out HQ1; have HQ2 := hide hQ; clear hQ hgr hB)
          refine hK.out _ _ ?_ (fun hD7 => ?_)
          · (try dsimp only); first | assumption | exact hSof _ (zbD (zbR _ _))
          clear hK K hD6; try simp only [Act.put, zl, z0, z1]
          refine wpAnyH_done (by kernel_rfl) ?_ _
          (try dsimp only [Act.put, List.getElem_toArray, List.getElem_cons_succ, List.getElem_cons_zero])
          (try simp only [zl, z0, z1])
          go_wp2_with fail
          go_meet
          case rel => exact ⟨q0, q1, q2, rfl, rfl, rfl, hide ⟨D01.out, D02.out, D12.out⟩, HQ0, HQ1, HQ2, hide ⟨L0.out, L1.out, L2.out⟩, hide (LS.b hSn)⟩
        refine consL 9 rfl (fun K hK => ?_) AllReadyH.nil
        focus
          (go_simp; (first | refine capN (fun W q2 hq hQ hB hgr => ?_) | refine capND (fun W q2 hq hQ hB hgr => ?_)); have hSn : (LS w w2 A n c g p) W := hSof _ (hB _ _ (by first | exact (LS.b hD2) | exact LS.b hS) (by first | exact (LS.b hD2).size | exact (LS.b hS).size)); (try dsimp only at hSn); have L2 := hide (show w2.heap.size ≤ q2 by have h1 := (LS.b hD2).size; omega); (try have D02 := hide (show q0 ≠ q2 by have h1 := blk_lt HQ0.out; omega)); (try have D12 := hide (show q1 ≠ q2 by have h1 := blk_lt HQ1.out; omega)); have hb := hB _ _ (zbR _ _) (Nat.le_refl _); (try replace HQ0 := bkT hb HQ0); (try replace HQ1 := bkT hb HQ1); (try replace HQ2 := bkT hb HQ2); (first | rw [hq] | simp only [hq]); have HQ2 := hide (hQ.trans (show _ = some (Obj.cells #[.int .i64 0, .int .i64 0] 32 (0, 0)) from rfl)); clear hq hQ hB hgr hb)
          refine hK.out _ _ ?_ (fun hD3 => ?_)
          · (try dsimp only); first | assumption | exact hSof _ (zbD (zbR _ _))
          clear hK K hD2; try simp only [Act.put, zl, z0, z1]
          refine wpAnyH_ready (rs := [8]) (by kernel_rfl) (by simp) ?_; refine consL 8 rfl (fun K hK => ?_) AllReadyH.nil
          (go_simp; (first | refine capN (fun W q1 hq hQ hB hgr => ?_) | refine capND (fun W q1 hq hQ hB hgr => ?_)); have hSn : (LS w w2 A n c g p) W := hSof _ (hB _ _ (by first | exact (LS.b hD3) | exact LS.b hS) (by first | exact (LS.b hD3).size | exact (LS.b hS).size)); (try dsimp only at hSn); have L1 := hide (show w2.heap.size ≤ q1 by have h1 := (LS.b hD3).size; omega); (try have D01 := hide (show q0 ≠ q1 by have h1 := blk_lt HQ0.out; omega)); (try have D12 := hide (show q1 ≠ q2 by have h1 := blk_lt HQ2.out; omega)); have hb := hB _ _ (zbR _ _) (Nat.le_refl _); (try replace HQ0 := bkT hb HQ0); (try replace HQ1 := bkT hb HQ1); (try replace HQ2 := bkT hb HQ2); (first | rw [hq] | simp only [hq]); have HQ1 := hide (hQ.trans (show _ = some (Obj.cells #[.int .i64 0, .int .i64 0] 32 (0, 0)) from rfl)); clear hq hQ hB hgr hb)
          refine hK.out _ _ ?_ (fun hD4 => ?_)
          · (try dsimp only); first | assumption | exact hSof _ (zbD (zbR _ _))
          clear hK K hD3; try simp only [Act.put, zl, z0, z1]
          refine wpAnyH_ready (rs := [10]) (by kernel_rfl) (by simp) ?_; refine consL 10 rfl (fun K hK => ?_) AllReadyH.nil
          (refine step_store_row rfl 32 (.tmp 10) (.tmp 36) rfl q0 #[.int .i64 won.A, .int .i64 won.B] rfl rfl 32 _ HQ0.out (by kernel_rfl) rfl (by simp [Value.oneCell']) ?_; refine capRow HQ0.out (fun W hQ hgr hB => ?_); have hSn : (LS w w2 A n c g p) W := hSof _ (hB _ _ (LS.b hD4) L0.out); (try dsimp only at hSn); replace HQ1 := bkN hgr D01.out.symm HQ1; replace HQ2 := bkN hgr D02.out.symm HQ2; have HQ0 := hide hQ; clear hQ hgr hB)
          refine hK.out _ _ ?_ (fun hD5 => ?_)
          · (try dsimp only); first | assumption | exact hSof _ (zbD (zbR _ _))
          clear hK K hD4; try simp only [Act.put, zl, z0, z1]
          refine wpAnyH_ready (rs := [11]) (by kernel_rfl) (by simp) ?_; refine consL 11 rfl (fun K hK => ?_) AllReadyH.nil
          (refine step_store_row rfl 32 (.tmp 11) (.tmp 38) rfl q1 #[.int .i64 g.A, .int .i64 g.B] rfl rfl 32 _ HQ1.out (by kernel_rfl) rfl (by simp [Value.oneCell']) ?_; refine capRow HQ1.out (fun W hQ hgr hB => ?_); have hSn : (LS w w2 A n c g p) W := hSof _ (hB _ _ (LS.b hD5) L1.out); (try dsimp only at hSn); replace HQ0 := bkN hgr D01.out HQ0; replace HQ2 := bkN hgr D12.out.symm HQ2; have HQ1 := hide hQ; clear hQ hgr hB)
          refine hK.out _ _ ?_ (fun hD6 => ?_)
          · (try dsimp only); first | assumption | exact hSof _ (zbD (zbR _ _))
          clear hK K hD5; try simp only [Act.put, zl, z0, z1]
          refine wpAnyH_ready (rs := [12]) (by kernel_rfl) (by simp) ?_; refine consL 12 rfl (fun K hK => ?_) AllReadyH.nil
          (refine step_store_row rfl 32 (.tmp 12) (.tmp 40) rfl q2 #[.int .i64 p.A, .int .i64 p.B] rfl rfl 32 _ HQ2.out (by kernel_rfl) rfl (by simp [Value.oneCell']) ?_; refine capRow HQ2.out (fun W hQ hgr hB => ?_); have hSn : (LS w w2 A n c g p) W := hSof _ (hB _ _ (LS.b hD6) L2.out); (try dsimp only at hSn); replace HQ0 := bkN hgr D02.out HQ0; replace HQ1 := bkN hgr D12.out HQ1; have HQ2 := hide hQ; clear hQ hgr hB)
          refine hK.out _ _ ?_ (fun hD7 => ?_)
          · (try dsimp only); first | assumption | exact hSof _ (zbD (zbR _ _))
          clear hK K hD6; try simp only [Act.put, zl, z0, z1]
          refine wpAnyH_done (by kernel_rfl) ?_ _
          (try dsimp only [Act.put, List.getElem_toArray, List.getElem_cons_succ, List.getElem_cons_zero])
          (try simp only [zl, z0, z1])
          go_wp2_with fail
          go_meet
          case rel => exact ⟨q0, q1, q2, rfl, rfl, rfl, hide ⟨D01.out, D02.out, D12.out⟩, HQ0, HQ1, HQ2, hide ⟨L0.out, L1.out, L2.out⟩, hide (LS.b hSn)⟩
      refine consL 8 rfl (fun K hK => ?_) ?_
      · skip
        (go_simp; (first | refine capN (fun W q1 hq hQ hB hgr => ?_) | refine capND (fun W q1 hq hQ hB hgr => ?_)); have hSn : (LS w w2 A n c g p) W := hSof _ (hB _ _ (by first | exact (LS.b hD1) | exact LS.b hS) (by first | exact (LS.b hD1).size | exact (LS.b hS).size)); (try dsimp only at hSn); have L1 := hide (show w2.heap.size ≤ q1 by have h1 := (LS.b hD1).size; omega); (try have D01 := hide (show q0 ≠ q1 by have h1 := blk_lt HQ0.out; omega)); (try have D12 := hide (show q1 ≠ q2 by have h1 := blk_lt HQ2.out; omega)); have hb := hB _ _ (zbR _ _) (Nat.le_refl _); (try replace HQ0 := bkT hb HQ0); (try replace HQ1 := bkT hb HQ1); (try replace HQ2 := bkT hb HQ2); (first | rw [hq] | simp only [hq]); have HQ1 := hide (hQ.trans (show _ = some (Obj.cells #[.int .i64 0, .int .i64 0] 32 (0, 0)) from rfl)); clear hq hQ hB hgr hb)
        refine hK.out _ _ ?_ (fun hD2 => ?_)
        · (try dsimp only); first | assumption | exact hSof _ (zbD (zbR _ _))
        clear hK K hD1; try simp only [Act.put, zl, z0, z1]
        refine wpAnyH_ready (rs := [2, 9]) (by kernel_rfl) (by simp) ?_; refine consL 2 rfl (fun K hK => ?_) ?_
        · skip
          (go_simp; go_at_call 31; refine (refWon_any A n c ps _ HN.out ((HR2.out.below (LS.b hD2)).mono (LS.b hD2).size) (by omega)).mono ?_; rw [HWN.out]; rintro e W ⟨rfl, hb⟩; have hSn : (LS w w2 A n c g p) W := hSof _ (zbT (LS.b hD2) hb (LS.b hD2).size); (try dsimp only at hSn); (try replace HQ0 := bkT hb HQ0); (try replace HQ1 := bkT hb HQ1); (try replace HQ2 := bkT hb HQ2); clear hb)
          refine hK.out _ _ ?_ (fun hD3 => ?_)
          · (try dsimp only); first | assumption | exact hSof _ (zbD (zbR _ _))
          clear hK K hD2; try simp only [Act.put, zl, z0, z1]
          refine wpAnyH_ready (rs := [9]) (by kernel_rfl) (by simp) ?_; refine consL 9 rfl (fun K hK => ?_) AllReadyH.nil
          (go_simp; (first | refine capN (fun W q2 hq hQ hB hgr => ?_) | refine capND (fun W q2 hq hQ hB hgr => ?_)); have hSn : (LS w w2 A n c g p) W := hSof _ (hB _ _ (by first | exact (LS.b hD3) | exact LS.b hS) (by first | exact (LS.b hD3).size | exact (LS.b hS).size)); (try dsimp only at hSn); have L2 := hide (show w2.heap.size ≤ q2 by have h1 := (LS.b hD3).size; omega); (try have D02 := hide (show q0 ≠ q2 by have h1 := blk_lt HQ0.out; omega)); (try have D12 := hide (show q1 ≠ q2 by have h1 := blk_lt HQ1.out; omega)); have hb := hB _ _ (zbR _ _) (Nat.le_refl _); (try replace HQ0 := bkT hb HQ0); (try replace HQ1 := bkT hb HQ1); (try replace HQ2 := bkT hb HQ2); (first | rw [hq] | simp only [hq]); have HQ2 := hide (hQ.trans (show _ = some (Obj.cells #[.int .i64 0, .int .i64 0] 32 (0, 0)) from rfl)); clear hq hQ hB hgr hb)
          refine hK.out _ _ ?_ (fun hD4 => ?_)
          · (try dsimp only); first | assumption | exact hSof _ (zbD (zbR _ _))
          clear hK K hD3; try simp only [Act.put, zl, z0, z1]
          refine wpAnyH_ready (rs := [10]) (by kernel_rfl) (by simp) ?_; refine consL 10 rfl (fun K hK => ?_) AllReadyH.nil
          (refine step_store_row rfl 32 (.tmp 10) (.tmp 36) rfl q0 #[.int .i64 won.A, .int .i64 won.B] rfl rfl 32 _ HQ0.out (by kernel_rfl) rfl (by simp [Value.oneCell']) ?_; refine capRow HQ0.out (fun W hQ hgr hB => ?_); have hSn : (LS w w2 A n c g p) W := hSof _ (hB _ _ (LS.b hD4) L0.out); (try dsimp only at hSn); replace HQ1 := bkN hgr D01.out.symm HQ1; replace HQ2 := bkN hgr D02.out.symm HQ2; have HQ0 := hide hQ; clear hQ hgr hB)
          refine hK.out _ _ ?_ (fun hD5 => ?_)
          · (try dsimp only); first | assumption | exact hSof _ (zbD (zbR _ _))
          clear hK K hD4; try simp only [Act.put, zl, z0, z1]
          refine wpAnyH_ready (rs := [11]) (by kernel_rfl) (by simp) ?_; refine consL 11 rfl (fun K hK => ?_) AllReadyH.nil
          (refine step_store_row rfl 32 (.tmp 11) (.tmp 38) rfl q1 #[.int .i64 g.A, .int .i64 g.B] rfl rfl 32 _ HQ1.out (by kernel_rfl) rfl (by simp [Value.oneCell']) ?_; refine capRow HQ1.out (fun W hQ hgr hB => ?_); have hSn : (LS w w2 A n c g p) W := hSof _ (hB _ _ (LS.b hD5) L1.out); (try dsimp only at hSn); replace HQ0 := bkN hgr D01.out HQ0; replace HQ2 := bkN hgr D12.out.symm HQ2; have HQ1 := hide hQ; clear hQ hgr hB)
          refine hK.out _ _ ?_ (fun hD6 => ?_)
          · (try dsimp only); first | assumption | exact hSof _ (zbD (zbR _ _))
          clear hK K hD5; try simp only [Act.put, zl, z0, z1]
          refine wpAnyH_ready (rs := [12]) (by kernel_rfl) (by simp) ?_; refine consL 12 rfl (fun K hK => ?_) AllReadyH.nil
          (refine step_store_row rfl 32 (.tmp 12) (.tmp 40) rfl q2 #[.int .i64 p.A, .int .i64 p.B] rfl rfl 32 _ HQ2.out (by kernel_rfl) rfl (by simp [Value.oneCell']) ?_; refine capRow HQ2.out (fun W hQ hgr hB => ?_); have hSn : (LS w w2 A n c g p) W := hSof _ (hB _ _ (LS.b hD6) L2.out); (try dsimp only at hSn); replace HQ0 := bkN hgr D02.out HQ0; replace HQ1 := bkN hgr D12.out HQ1; have HQ2 := hide hQ; clear hQ hgr hB)
          refine hK.out _ _ ?_ (fun hD7 => ?_)
          · (try dsimp only); first | assumption | exact hSof _ (zbD (zbR _ _))
          clear hK K hD6; try simp only [Act.put, zl, z0, z1]
          refine wpAnyH_done (by kernel_rfl) ?_ _
          (try dsimp only [Act.put, List.getElem_toArray, List.getElem_cons_succ, List.getElem_cons_zero])
          (try simp only [zl, z0, z1])
          go_wp2_with fail
          go_meet
          case rel => exact ⟨q0, q1, q2, rfl, rfl, rfl, hide ⟨D01.out, D02.out, D12.out⟩, HQ0, HQ1, HQ2, hide ⟨L0.out, L1.out, L2.out⟩, hide (LS.b hSn)⟩
        refine consL 9 rfl (fun K hK => ?_) AllReadyH.nil
        focus
          (go_simp; (first | refine capN (fun W q2 hq hQ hB hgr => ?_) | refine capND (fun W q2 hq hQ hB hgr => ?_)); have hSn : (LS w w2 A n c g p) W := hSof _ (hB _ _ (by first | exact (LS.b hD2) | exact LS.b hS) (by first | exact (LS.b hD2).size | exact (LS.b hS).size)); (try dsimp only at hSn); have L2 := hide (show w2.heap.size ≤ q2 by have h1 := (LS.b hD2).size; omega); (try have D02 := hide (show q0 ≠ q2 by have h1 := blk_lt HQ0.out; omega)); (try have D12 := hide (show q1 ≠ q2 by have h1 := blk_lt HQ1.out; omega)); have hb := hB _ _ (zbR _ _) (Nat.le_refl _); (try replace HQ0 := bkT hb HQ0); (try replace HQ1 := bkT hb HQ1); (try replace HQ2 := bkT hb HQ2); (first | rw [hq] | simp only [hq]); have HQ2 := hide (hQ.trans (show _ = some (Obj.cells #[.int .i64 0, .int .i64 0] 32 (0, 0)) from rfl)); clear hq hQ hB hgr hb)
          refine hK.out _ _ ?_ (fun hD3 => ?_)
          · (try dsimp only); first | assumption | exact hSof _ (zbD (zbR _ _))
          clear hK K hD2; try simp only [Act.put, zl, z0, z1]
          refine wpAnyH_ready (rs := [2]) (by kernel_rfl) (by simp) ?_; refine consL 2 rfl (fun K hK => ?_) AllReadyH.nil
          (go_simp; go_at_call 31; refine (refWon_any A n c ps _ HN.out ((HR2.out.below (LS.b hD3)).mono (LS.b hD3).size) (by omega)).mono ?_; rw [HWN.out]; rintro e W ⟨rfl, hb⟩; have hSn : (LS w w2 A n c g p) W := hSof _ (zbT (LS.b hD3) hb (LS.b hD3).size); (try dsimp only at hSn); (try replace HQ0 := bkT hb HQ0); (try replace HQ1 := bkT hb HQ1); (try replace HQ2 := bkT hb HQ2); clear hb)
          refine hK.out _ _ ?_ (fun hD4 => ?_)
          · (try dsimp only); first | assumption | exact hSof _ (zbD (zbR _ _))
          clear hK K hD3; try simp only [Act.put, zl, z0, z1]
          refine wpAnyH_ready (rs := [10]) (by kernel_rfl) (by simp) ?_; refine consL 10 rfl (fun K hK => ?_) AllReadyH.nil
          (refine step_store_row rfl 32 (.tmp 10) (.tmp 36) rfl q0 #[.int .i64 won.A, .int .i64 won.B] rfl rfl 32 _ HQ0.out (by kernel_rfl) rfl (by simp [Value.oneCell']) ?_; refine capRow HQ0.out (fun W hQ hgr hB => ?_); have hSn : (LS w w2 A n c g p) W := hSof _ (hB _ _ (LS.b hD4) L0.out); (try dsimp only at hSn); replace HQ1 := bkN hgr D01.out.symm HQ1; replace HQ2 := bkN hgr D02.out.symm HQ2; have HQ0 := hide hQ; clear hQ hgr hB)
          refine hK.out _ _ ?_ (fun hD5 => ?_)
          · (try dsimp only); first | assumption | exact hSof _ (zbD (zbR _ _))
          clear hK K hD4; try simp only [Act.put, zl, z0, z1]
          refine wpAnyH_ready (rs := [11]) (by kernel_rfl) (by simp) ?_; refine consL 11 rfl (fun K hK => ?_) AllReadyH.nil
          (refine step_store_row rfl 32 (.tmp 11) (.tmp 38) rfl q1 #[.int .i64 g.A, .int .i64 g.B] rfl rfl 32 _ HQ1.out (by kernel_rfl) rfl (by simp [Value.oneCell']) ?_; refine capRow HQ1.out (fun W hQ hgr hB => ?_); have hSn : (LS w w2 A n c g p) W := hSof _ (hB _ _ (LS.b hD5) L1.out); (try dsimp only at hSn); replace HQ0 := bkN hgr D01.out HQ0; replace HQ2 := bkN hgr D12.out.symm HQ2; have HQ1 := hide hQ; clear hQ hgr hB)
          refine hK.out _ _ ?_ (fun hD6 => ?_)
          · (try dsimp only); first | assumption | exact hSof _ (zbD (zbR _ _))
          clear hK K hD5; try simp only [Act.put, zl, z0, z1]
          refine wpAnyH_ready (rs := [12]) (by kernel_rfl) (by simp) ?_; refine consL 12 rfl (fun K hK => ?_) AllReadyH.nil
          (refine step_store_row rfl 32 (.tmp 12) (.tmp 40) rfl q2 #[.int .i64 p.A, .int .i64 p.B] rfl rfl 32 _ HQ2.out (by kernel_rfl) rfl (by simp [Value.oneCell']) ?_; refine capRow HQ2.out (fun W hQ hgr hB => ?_); have hSn : (LS w w2 A n c g p) W := hSof _ (hB _ _ (LS.b hD6) L2.out); (try dsimp only at hSn); replace HQ0 := bkN hgr D02.out HQ0; replace HQ1 := bkN hgr D12.out HQ1; have HQ2 := hide hQ; clear hQ hgr hB)
          refine hK.out _ _ ?_ (fun hD7 => ?_)
          · (try dsimp only); first | assumption | exact hSof _ (zbD (zbR _ _))
          clear hK K hD6; try simp only [Act.put, zl, z0, z1]
          refine wpAnyH_done (by kernel_rfl) ?_ _
          (try dsimp only [Act.put, List.getElem_toArray, List.getElem_cons_succ, List.getElem_cons_zero])
          (try simp only [zl, z0, z1])
          go_wp2_with fail
          go_meet
          case rel => exact ⟨q0, q1, q2, rfl, rfl, rfl, hide ⟨D01.out, D02.out, D12.out⟩, HQ0, HQ1, HQ2, hide ⟨L0.out, L1.out, L2.out⟩, hide (LS.b hSn)⟩
      refine consL 9 rfl (fun K hK => ?_) AllReadyH.nil
      focus
        (go_simp; (first | refine capN (fun W q2 hq hQ hB hgr => ?_) | refine capND (fun W q2 hq hQ hB hgr => ?_)); have hSn : (LS w w2 A n c g p) W := hSof _ (hB _ _ (by first | exact (LS.b hD1) | exact LS.b hS) (by first | exact (LS.b hD1).size | exact (LS.b hS).size)); (try dsimp only at hSn); have L2 := hide (show w2.heap.size ≤ q2 by have h1 := (LS.b hD1).size; omega); (try have D02 := hide (show q0 ≠ q2 by have h1 := blk_lt HQ0.out; omega)); (try have D12 := hide (show q1 ≠ q2 by have h1 := blk_lt HQ1.out; omega)); have hb := hB _ _ (zbR _ _) (Nat.le_refl _); (try replace HQ0 := bkT hb HQ0); (try replace HQ1 := bkT hb HQ1); (try replace HQ2 := bkT hb HQ2); (first | rw [hq] | simp only [hq]); have HQ2 := hide (hQ.trans (show _ = some (Obj.cells #[.int .i64 0, .int .i64 0] 32 (0, 0)) from rfl)); clear hq hQ hB hgr hb)
        refine hK.out _ _ ?_ (fun hD2 => ?_)
        · (try dsimp only); first | assumption | exact hSof _ (zbD (zbR _ _))
        clear hK K hD1; try simp only [Act.put, zl, z0, z1]
        refine wpAnyH_ready (rs := [2, 8]) (by kernel_rfl) (by simp) ?_; refine consL 2 rfl (fun K hK => ?_) ?_
        · skip
          (go_simp; go_at_call 31; refine (refWon_any A n c ps _ HN.out ((HR2.out.below (LS.b hD2)).mono (LS.b hD2).size) (by omega)).mono ?_; rw [HWN.out]; rintro e W ⟨rfl, hb⟩; have hSn : (LS w w2 A n c g p) W := hSof _ (zbT (LS.b hD2) hb (LS.b hD2).size); (try dsimp only at hSn); (try replace HQ0 := bkT hb HQ0); (try replace HQ1 := bkT hb HQ1); (try replace HQ2 := bkT hb HQ2); clear hb)
          refine hK.out _ _ ?_ (fun hD3 => ?_)
          · (try dsimp only); first | assumption | exact hSof _ (zbD (zbR _ _))
          clear hK K hD2; try simp only [Act.put, zl, z0, z1]
          refine wpAnyH_ready (rs := [8]) (by kernel_rfl) (by simp) ?_; refine consL 8 rfl (fun K hK => ?_) AllReadyH.nil
          (go_simp; (first | refine capN (fun W q1 hq hQ hB hgr => ?_) | refine capND (fun W q1 hq hQ hB hgr => ?_)); have hSn : (LS w w2 A n c g p) W := hSof _ (hB _ _ (by first | exact (LS.b hD3) | exact LS.b hS) (by first | exact (LS.b hD3).size | exact (LS.b hS).size)); (try dsimp only at hSn); have L1 := hide (show w2.heap.size ≤ q1 by have h1 := (LS.b hD3).size; omega); (try have D01 := hide (show q0 ≠ q1 by have h1 := blk_lt HQ0.out; omega)); (try have D12 := hide (show q1 ≠ q2 by have h1 := blk_lt HQ2.out; omega)); have hb := hB _ _ (zbR _ _) (Nat.le_refl _); (try replace HQ0 := bkT hb HQ0); (try replace HQ1 := bkT hb HQ1); (try replace HQ2 := bkT hb HQ2); (first | rw [hq] | simp only [hq]); have HQ1 := hide (hQ.trans (show _ = some (Obj.cells #[.int .i64 0, .int .i64 0] 32 (0, 0)) from rfl)); clear hq hQ hB hgr hb)
          refine hK.out _ _ ?_ (fun hD4 => ?_)
          · (try dsimp only); first | assumption | exact hSof _ (zbD (zbR _ _))
          clear hK K hD3; try simp only [Act.put, zl, z0, z1]
          refine wpAnyH_ready (rs := [10]) (by kernel_rfl) (by simp) ?_; refine consL 10 rfl (fun K hK => ?_) AllReadyH.nil
          (refine step_store_row rfl 32 (.tmp 10) (.tmp 36) rfl q0 #[.int .i64 won.A, .int .i64 won.B] rfl rfl 32 _ HQ0.out (by kernel_rfl) rfl (by simp [Value.oneCell']) ?_; refine capRow HQ0.out (fun W hQ hgr hB => ?_); have hSn : (LS w w2 A n c g p) W := hSof _ (hB _ _ (LS.b hD4) L0.out); (try dsimp only at hSn); replace HQ1 := bkN hgr D01.out.symm HQ1; replace HQ2 := bkN hgr D02.out.symm HQ2; have HQ0 := hide hQ; clear hQ hgr hB)
          refine hK.out _ _ ?_ (fun hD5 => ?_)
          · (try dsimp only); first | assumption | exact hSof _ (zbD (zbR _ _))
          clear hK K hD4; try simp only [Act.put, zl, z0, z1]
          refine wpAnyH_ready (rs := [11]) (by kernel_rfl) (by simp) ?_; refine consL 11 rfl (fun K hK => ?_) AllReadyH.nil
          (refine step_store_row rfl 32 (.tmp 11) (.tmp 38) rfl q1 #[.int .i64 g.A, .int .i64 g.B] rfl rfl 32 _ HQ1.out (by kernel_rfl) rfl (by simp [Value.oneCell']) ?_; refine capRow HQ1.out (fun W hQ hgr hB => ?_); have hSn : (LS w w2 A n c g p) W := hSof _ (hB _ _ (LS.b hD5) L1.out); (try dsimp only at hSn); replace HQ0 := bkN hgr D01.out HQ0; replace HQ2 := bkN hgr D12.out.symm HQ2; have HQ1 := hide hQ; clear hQ hgr hB)
          refine hK.out _ _ ?_ (fun hD6 => ?_)
          · (try dsimp only); first | assumption | exact hSof _ (zbD (zbR _ _))
          clear hK K hD5; try simp only [Act.put, zl, z0, z1]
          refine wpAnyH_ready (rs := [12]) (by kernel_rfl) (by simp) ?_; refine consL 12 rfl (fun K hK => ?_) AllReadyH.nil
          (refine step_store_row rfl 32 (.tmp 12) (.tmp 40) rfl q2 #[.int .i64 p.A, .int .i64 p.B] rfl rfl 32 _ HQ2.out (by kernel_rfl) rfl (by simp [Value.oneCell']) ?_; refine capRow HQ2.out (fun W hQ hgr hB => ?_); have hSn : (LS w w2 A n c g p) W := hSof _ (hB _ _ (LS.b hD6) L2.out); (try dsimp only at hSn); replace HQ0 := bkN hgr D02.out HQ0; replace HQ1 := bkN hgr D12.out HQ1; have HQ2 := hide hQ; clear hQ hgr hB)
          refine hK.out _ _ ?_ (fun hD7 => ?_)
          · (try dsimp only); first | assumption | exact hSof _ (zbD (zbR _ _))
          clear hK K hD6; try simp only [Act.put, zl, z0, z1]
          refine wpAnyH_done (by kernel_rfl) ?_ _
          (try dsimp only [Act.put, List.getElem_toArray, List.getElem_cons_succ, List.getElem_cons_zero])
          (try simp only [zl, z0, z1])
          go_wp2_with fail
          go_meet
          case rel => exact ⟨q0, q1, q2, rfl, rfl, rfl, hide ⟨D01.out, D02.out, D12.out⟩, HQ0, HQ1, HQ2, hide ⟨L0.out, L1.out, L2.out⟩, hide (LS.b hSn)⟩
        refine consL 8 rfl (fun K hK => ?_) AllReadyH.nil
        focus
          (go_simp; (first | refine capN (fun W q1 hq hQ hB hgr => ?_) | refine capND (fun W q1 hq hQ hB hgr => ?_)); have hSn : (LS w w2 A n c g p) W := hSof _ (hB _ _ (by first | exact (LS.b hD2) | exact LS.b hS) (by first | exact (LS.b hD2).size | exact (LS.b hS).size)); (try dsimp only at hSn); have L1 := hide (show w2.heap.size ≤ q1 by have h1 := (LS.b hD2).size; omega); (try have D01 := hide (show q0 ≠ q1 by have h1 := blk_lt HQ0.out; omega)); (try have D12 := hide (show q1 ≠ q2 by have h1 := blk_lt HQ2.out; omega)); have hb := hB _ _ (zbR _ _) (Nat.le_refl _); (try replace HQ0 := bkT hb HQ0); (try replace HQ1 := bkT hb HQ1); (try replace HQ2 := bkT hb HQ2); (first | rw [hq] | simp only [hq]); have HQ1 := hide (hQ.trans (show _ = some (Obj.cells #[.int .i64 0, .int .i64 0] 32 (0, 0)) from rfl)); clear hq hQ hB hgr hb)
          refine hK.out _ _ ?_ (fun hD3 => ?_)
          · (try dsimp only); first | assumption | exact hSof _ (zbD (zbR _ _))
          clear hK K hD2; try simp only [Act.put, zl, z0, z1]
          refine wpAnyH_ready (rs := [2]) (by kernel_rfl) (by simp) ?_; refine consL 2 rfl (fun K hK => ?_) AllReadyH.nil
          (go_simp; go_at_call 31; refine (refWon_any A n c ps _ HN.out ((HR2.out.below (LS.b hD3)).mono (LS.b hD3).size) (by omega)).mono ?_; rw [HWN.out]; rintro e W ⟨rfl, hb⟩; have hSn : (LS w w2 A n c g p) W := hSof _ (zbT (LS.b hD3) hb (LS.b hD3).size); (try dsimp only at hSn); (try replace HQ0 := bkT hb HQ0); (try replace HQ1 := bkT hb HQ1); (try replace HQ2 := bkT hb HQ2); clear hb)
          refine hK.out _ _ ?_ (fun hD4 => ?_)
          · (try dsimp only); first | assumption | exact hSof _ (zbD (zbR _ _))
          clear hK K hD3; try simp only [Act.put, zl, z0, z1]
          refine wpAnyH_ready (rs := [10]) (by kernel_rfl) (by simp) ?_; refine consL 10 rfl (fun K hK => ?_) AllReadyH.nil
          (refine step_store_row rfl 32 (.tmp 10) (.tmp 36) rfl q0 #[.int .i64 won.A, .int .i64 won.B] rfl rfl 32 _ HQ0.out (by kernel_rfl) rfl (by simp [Value.oneCell']) ?_; refine capRow HQ0.out (fun W hQ hgr hB => ?_); have hSn : (LS w w2 A n c g p) W := hSof _ (hB _ _ (LS.b hD4) L0.out); (try dsimp only at hSn); replace HQ1 := bkN hgr D01.out.symm HQ1; replace HQ2 := bkN hgr D02.out.symm HQ2; have HQ0 := hide hQ; clear hQ hgr hB)
          refine hK.out _ _ ?_ (fun hD5 => ?_)
          · (try dsimp only); first | assumption | exact hSof _ (zbD (zbR _ _))
          clear hK K hD4; try simp only [Act.put, zl, z0, z1]
          refine wpAnyH_ready (rs := [11]) (by kernel_rfl) (by simp) ?_; refine consL 11 rfl (fun K hK => ?_) AllReadyH.nil
          (refine step_store_row rfl 32 (.tmp 11) (.tmp 38) rfl q1 #[.int .i64 g.A, .int .i64 g.B] rfl rfl 32 _ HQ1.out (by kernel_rfl) rfl (by simp [Value.oneCell']) ?_; refine capRow HQ1.out (fun W hQ hgr hB => ?_); have hSn : (LS w w2 A n c g p) W := hSof _ (hB _ _ (LS.b hD5) L1.out); (try dsimp only at hSn); replace HQ0 := bkN hgr D01.out HQ0; replace HQ2 := bkN hgr D12.out.symm HQ2; have HQ1 := hide hQ; clear hQ hgr hB)
          refine hK.out _ _ ?_ (fun hD6 => ?_)
          · (try dsimp only); first | assumption | exact hSof _ (zbD (zbR _ _))
          clear hK K hD5; try simp only [Act.put, zl, z0, z1]
          refine wpAnyH_ready (rs := [12]) (by kernel_rfl) (by simp) ?_; refine consL 12 rfl (fun K hK => ?_) AllReadyH.nil
          (refine step_store_row rfl 32 (.tmp 12) (.tmp 40) rfl q2 #[.int .i64 p.A, .int .i64 p.B] rfl rfl 32 _ HQ2.out (by kernel_rfl) rfl (by simp [Value.oneCell']) ?_; refine capRow HQ2.out (fun W hQ hgr hB => ?_); have hSn : (LS w w2 A n c g p) W := hSof _ (hB _ _ (LS.b hD6) L2.out); (try dsimp only at hSn); replace HQ0 := bkN hgr D02.out HQ0; replace HQ1 := bkN hgr D12.out HQ1; have HQ2 := hide hQ; clear hQ hgr hB)
          refine hK.out _ _ ?_ (fun hD7 => ?_)
          · (try dsimp only); first | assumption | exact hSof _ (zbD (zbR _ _))
          clear hK K hD6; try simp only [Act.put, zl, z0, z1]
          refine wpAnyH_done (by kernel_rfl) ?_ _
          (try dsimp only [Act.put, List.getElem_toArray, List.getElem_cons_succ, List.getElem_cons_zero])
          (try simp only [zl, z0, z1])
          go_wp2_with fail
          go_meet
          case rel => exact ⟨q0, q1, q2, rfl, rfl, rfl, hide ⟨D01.out, D02.out, D12.out⟩, HQ0, HQ1, HQ2, hide ⟨L0.out, L1.out, L2.out⟩, hide (LS.b hSn)⟩
    refine consL 8 rfl (fun K hK => ?_) ?_
    · skip
      (go_simp; (first | refine capN (fun W q1 hq hQ hB hgr => ?_) | refine capND (fun W q1 hq hQ hB hgr => ?_)); have hSn : (LS w w2 A n c g p) W := hSof _ (hB _ _ (by first | exact (LS.b hD0) | exact LS.b hS) (by first | exact (LS.b hD0).size | exact (LS.b hS).size)); (try dsimp only at hSn); have L1 := hide (show w2.heap.size ≤ q1 by have h1 := (LS.b hD0).size; omega); (try have D01 := hide (show q0 ≠ q1 by have h1 := blk_lt HQ0.out; omega)); (try have D12 := hide (show q1 ≠ q2 by have h1 := blk_lt HQ2.out; omega)); have hb := hB _ _ (zbR _ _) (Nat.le_refl _); (try replace HQ0 := bkT hb HQ0); (try replace HQ1 := bkT hb HQ1); (try replace HQ2 := bkT hb HQ2); (first | rw [hq] | simp only [hq]); have HQ1 := hide (hQ.trans (show _ = some (Obj.cells #[.int .i64 0, .int .i64 0] 32 (0, 0)) from rfl)); clear hq hQ hB hgr hb)
      refine hK.out _ _ ?_ (fun hD1 => ?_)
      · (try dsimp only); first | assumption | exact hSof _ (zbD (zbR _ _))
      clear hK K hD0; try simp only [Act.put, zl, z0, z1]
      refine wpAnyH_ready (rs := [2, 7, 9]) (by kernel_rfl) (by simp) ?_; refine consL 2 rfl (fun K hK => ?_) ?_
      · skip
        (go_simp; go_at_call 31; refine (refWon_any A n c ps _ HN.out ((HR2.out.below (LS.b hD1)).mono (LS.b hD1).size) (by omega)).mono ?_; rw [HWN.out]; rintro e W ⟨rfl, hb⟩; have hSn : (LS w w2 A n c g p) W := hSof _ (zbT (LS.b hD1) hb (LS.b hD1).size); (try dsimp only at hSn); (try replace HQ0 := bkT hb HQ0); (try replace HQ1 := bkT hb HQ1); (try replace HQ2 := bkT hb HQ2); clear hb)
        refine hK.out _ _ ?_ (fun hD2 => ?_)
        · (try dsimp only); first | assumption | exact hSof _ (zbD (zbR _ _))
        clear hK K hD1; try simp only [Act.put, zl, z0, z1]
        refine wpAnyH_ready (rs := [7, 9]) (by kernel_rfl) (by simp) ?_; refine consL 7 rfl (fun K hK => ?_) ?_
        · skip
          (go_simp; (first | refine capN (fun W q0 hq hQ hB hgr => ?_) | refine capND (fun W q0 hq hQ hB hgr => ?_)); have hSn : (LS w w2 A n c g p) W := hSof _ (hB _ _ (by first | exact (LS.b hD2) | exact LS.b hS) (by first | exact (LS.b hD2).size | exact (LS.b hS).size)); (try dsimp only at hSn); have L0 := hide (show w2.heap.size ≤ q0 by have h1 := (LS.b hD2).size; omega); (try have D01 := hide (show q0 ≠ q1 by have h1 := blk_lt HQ1.out; omega)); (try have D02 := hide (show q0 ≠ q2 by have h1 := blk_lt HQ2.out; omega)); have hb := hB _ _ (zbR _ _) (Nat.le_refl _); (try replace HQ0 := bkT hb HQ0); (try replace HQ1 := bkT hb HQ1); (try replace HQ2 := bkT hb HQ2); (first | rw [hq] | simp only [hq]); have HQ0 := hide (hQ.trans (show _ = some (Obj.cells #[.int .i64 0, .int .i64 0] 32 (0, 0)) from rfl)); clear hq hQ hB hgr hb)
          refine hK.out _ _ ?_ (fun hD3 => ?_)
          · (try dsimp only); first | assumption | exact hSof _ (zbD (zbR _ _))
          clear hK K hD2; try simp only [Act.put, zl, z0, z1]
          refine wpAnyH_ready (rs := [9]) (by kernel_rfl) (by simp) ?_; refine consL 9 rfl (fun K hK => ?_) AllReadyH.nil
          (go_simp; (first | refine capN (fun W q2 hq hQ hB hgr => ?_) | refine capND (fun W q2 hq hQ hB hgr => ?_)); have hSn : (LS w w2 A n c g p) W := hSof _ (hB _ _ (by first | exact (LS.b hD3) | exact LS.b hS) (by first | exact (LS.b hD3).size | exact (LS.b hS).size)); (try dsimp only at hSn); have L2 := hide (show w2.heap.size ≤ q2 by have h1 := (LS.b hD3).size; omega); (try have D02 := hide (show q0 ≠ q2 by have h1 := blk_lt HQ0.out; omega)); (try have D12 := hide (show q1 ≠ q2 by have h1 := blk_lt HQ1.out; omega)); have hb := hB _ _ (zbR _ _) (Nat.le_refl _); (try replace HQ0 := bkT hb HQ0); (try replace HQ1 := bkT hb HQ1); (try replace HQ2 := bkT hb HQ2); (first | rw [hq] | simp only [hq]); have HQ2 := hide (hQ.trans (show _ = some (Obj.cells #[.int .i64 0, .int .i64 0] 32 (0, 0)) from rfl)); clear hq hQ hB hgr hb)
          refine hK.out _ _ ?_ (fun hD4 => ?_)
          · (try dsimp only); first | assumption | exact hSof _ (zbD (zbR _ _))
          clear hK K hD3; try simp only [Act.put, zl, z0, z1]
          refine wpAnyH_ready (rs := [10]) (by kernel_rfl) (by simp) ?_; refine consL 10 rfl (fun K hK => ?_) AllReadyH.nil
          (refine step_store_row rfl 32 (.tmp 10) (.tmp 36) rfl q0 #[.int .i64 won.A, .int .i64 won.B] rfl rfl 32 _ HQ0.out (by kernel_rfl) rfl (by simp [Value.oneCell']) ?_; refine capRow HQ0.out (fun W hQ hgr hB => ?_); have hSn : (LS w w2 A n c g p) W := hSof _ (hB _ _ (LS.b hD4) L0.out); (try dsimp only at hSn); replace HQ1 := bkN hgr D01.out.symm HQ1; replace HQ2 := bkN hgr D02.out.symm HQ2; have HQ0 := hide hQ; clear hQ hgr hB)
          refine hK.out _ _ ?_ (fun hD5 => ?_)
          · (try dsimp only); first | assumption | exact hSof _ (zbD (zbR _ _))
          clear hK K hD4; try simp only [Act.put, zl, z0, z1]
          refine wpAnyH_ready (rs := [11]) (by kernel_rfl) (by simp) ?_; refine consL 11 rfl (fun K hK => ?_) AllReadyH.nil
          (refine step_store_row rfl 32 (.tmp 11) (.tmp 38) rfl q1 #[.int .i64 g.A, .int .i64 g.B] rfl rfl 32 _ HQ1.out (by kernel_rfl) rfl (by simp [Value.oneCell']) ?_; refine capRow HQ1.out (fun W hQ hgr hB => ?_); have hSn : (LS w w2 A n c g p) W := hSof _ (hB _ _ (LS.b hD5) L1.out); (try dsimp only at hSn); replace HQ0 := bkN hgr D01.out HQ0; replace HQ2 := bkN hgr D12.out.symm HQ2; have HQ1 := hide hQ; clear hQ hgr hB)
          refine hK.out _ _ ?_ (fun hD6 => ?_)
          · (try dsimp only); first | assumption | exact hSof _ (zbD (zbR _ _))
          clear hK K hD5; try simp only [Act.put, zl, z0, z1]
          refine wpAnyH_ready (rs := [12]) (by kernel_rfl) (by simp) ?_; refine consL 12 rfl (fun K hK => ?_) AllReadyH.nil
          (refine step_store_row rfl 32 (.tmp 12) (.tmp 40) rfl q2 #[.int .i64 p.A, .int .i64 p.B] rfl rfl 32 _ HQ2.out (by kernel_rfl) rfl (by simp [Value.oneCell']) ?_; refine capRow HQ2.out (fun W hQ hgr hB => ?_); have hSn : (LS w w2 A n c g p) W := hSof _ (hB _ _ (LS.b hD6) L2.out); (try dsimp only at hSn); replace HQ0 := bkN hgr D02.out HQ0; replace HQ1 := bkN hgr D12.out HQ1; have HQ2 := hide hQ; clear hQ hgr hB)
          refine hK.out _ _ ?_ (fun hD7 => ?_)
          · (try dsimp only); first | assumption | exact hSof _ (zbD (zbR _ _))
          clear hK K hD6; try simp only [Act.put, zl, z0, z1]
          refine wpAnyH_done (by kernel_rfl) ?_ _
          (try dsimp only [Act.put, List.getElem_toArray, List.getElem_cons_succ, List.getElem_cons_zero])
          (try simp only [zl, z0, z1])
          go_wp2_with fail
          go_meet
          case rel => exact ⟨q0, q1, q2, rfl, rfl, rfl, hide ⟨D01.out, D02.out, D12.out⟩, HQ0, HQ1, HQ2, hide ⟨L0.out, L1.out, L2.out⟩, hide (LS.b hSn)⟩
        refine consL 9 rfl (fun K hK => ?_) AllReadyH.nil
        focus
          (go_simp; (first | refine capN (fun W q2 hq hQ hB hgr => ?_) | refine capND (fun W q2 hq hQ hB hgr => ?_)); have hSn : (LS w w2 A n c g p) W := hSof _ (hB _ _ (by first | exact (LS.b hD2) | exact LS.b hS) (by first | exact (LS.b hD2).size | exact (LS.b hS).size)); (try dsimp only at hSn); have L2 := hide (show w2.heap.size ≤ q2 by have h1 := (LS.b hD2).size; omega); (try have D02 := hide (show q0 ≠ q2 by have h1 := blk_lt HQ0.out; omega)); (try have D12 := hide (show q1 ≠ q2 by have h1 := blk_lt HQ1.out; omega)); have hb := hB _ _ (zbR _ _) (Nat.le_refl _); (try replace HQ0 := bkT hb HQ0); (try replace HQ1 := bkT hb HQ1); (try replace HQ2 := bkT hb HQ2); (first | rw [hq] | simp only [hq]); have HQ2 := hide (hQ.trans (show _ = some (Obj.cells #[.int .i64 0, .int .i64 0] 32 (0, 0)) from rfl)); clear hq hQ hB hgr hb)
          refine hK.out _ _ ?_ (fun hD3 => ?_)
          · (try dsimp only); first | assumption | exact hSof _ (zbD (zbR _ _))
          clear hK K hD2; try simp only [Act.put, zl, z0, z1]
          refine wpAnyH_ready (rs := [7]) (by kernel_rfl) (by simp) ?_; refine consL 7 rfl (fun K hK => ?_) AllReadyH.nil
          (go_simp; (first | refine capN (fun W q0 hq hQ hB hgr => ?_) | refine capND (fun W q0 hq hQ hB hgr => ?_)); have hSn : (LS w w2 A n c g p) W := hSof _ (hB _ _ (by first | exact (LS.b hD3) | exact LS.b hS) (by first | exact (LS.b hD3).size | exact (LS.b hS).size)); (try dsimp only at hSn); have L0 := hide (show w2.heap.size ≤ q0 by have h1 := (LS.b hD3).size; omega); (try have D01 := hide (show q0 ≠ q1 by have h1 := blk_lt HQ1.out; omega)); (try have D02 := hide (show q0 ≠ q2 by have h1 := blk_lt HQ2.out; omega)); have hb := hB _ _ (zbR _ _) (Nat.le_refl _); (try replace HQ0 := bkT hb HQ0); (try replace HQ1 := bkT hb HQ1); (try replace HQ2 := bkT hb HQ2); (first | rw [hq] | simp only [hq]); have HQ0 := hide (hQ.trans (show _ = some (Obj.cells #[.int .i64 0, .int .i64 0] 32 (0, 0)) from rfl)); clear hq hQ hB hgr hb)
          refine hK.out _ _ ?_ (fun hD4 => ?_)
          · (try dsimp only); first | assumption | exact hSof _ (zbD (zbR _ _))
          clear hK K hD3; try simp only [Act.put, zl, z0, z1]
          refine wpAnyH_ready (rs := [10]) (by kernel_rfl) (by simp) ?_; refine consL 10 rfl (fun K hK => ?_) AllReadyH.nil
          (refine step_store_row rfl 32 (.tmp 10) (.tmp 36) rfl q0 #[.int .i64 won.A, .int .i64 won.B] rfl rfl 32 _ HQ0.out (by kernel_rfl) rfl (by simp [Value.oneCell']) ?_; refine capRow HQ0.out (fun W hQ hgr hB => ?_); have hSn : (LS w w2 A n c g p) W := hSof _ (hB _ _ (LS.b hD4) L0.out); (try dsimp only at hSn); replace HQ1 := bkN hgr D01.out.symm HQ1; replace HQ2 := bkN hgr D02.out.symm HQ2; have HQ0 := hide hQ; clear hQ hgr hB)
          refine hK.out _ _ ?_ (fun hD5 => ?_)
          · (try dsimp only); first | assumption | exact hSof _ (zbD (zbR _ _))
          clear hK K hD4; try simp only [Act.put, zl, z0, z1]
          refine wpAnyH_ready (rs := [11]) (by kernel_rfl) (by simp) ?_; refine consL 11 rfl (fun K hK => ?_) AllReadyH.nil
          (refine step_store_row rfl 32 (.tmp 11) (.tmp 38) rfl q1 #[.int .i64 g.A, .int .i64 g.B] rfl rfl 32 _ HQ1.out (by kernel_rfl) rfl (by simp [Value.oneCell']) ?_; refine capRow HQ1.out (fun W hQ hgr hB => ?_); have hSn : (LS w w2 A n c g p) W := hSof _ (hB _ _ (LS.b hD5) L1.out); (try dsimp only at hSn); replace HQ0 := bkN hgr D01.out HQ0; replace HQ2 := bkN hgr D12.out.symm HQ2; have HQ1 := hide hQ; clear hQ hgr hB)
          refine hK.out _ _ ?_ (fun hD6 => ?_)
          · (try dsimp only); first | assumption | exact hSof _ (zbD (zbR _ _))
          clear hK K hD5; try simp only [Act.put, zl, z0, z1]
          refine wpAnyH_ready (rs := [12]) (by kernel_rfl) (by simp) ?_; refine consL 12 rfl (fun K hK => ?_) AllReadyH.nil
          (refine step_store_row rfl 32 (.tmp 12) (.tmp 40) rfl q2 #[.int .i64 p.A, .int .i64 p.B] rfl rfl 32 _ HQ2.out (by kernel_rfl) rfl (by simp [Value.oneCell']) ?_; refine capRow HQ2.out (fun W hQ hgr hB => ?_); have hSn : (LS w w2 A n c g p) W := hSof _ (hB _ _ (LS.b hD6) L2.out); (try dsimp only at hSn); replace HQ0 := bkN hgr D02.out HQ0; replace HQ1 := bkN hgr D12.out HQ1; have HQ2 := hide hQ; clear hQ hgr hB)
          refine hK.out _ _ ?_ (fun hD7 => ?_)
          · (try dsimp only); first | assumption | exact hSof _ (zbD (zbR _ _))
          clear hK K hD6; try simp only [Act.put, zl, z0, z1]
          refine wpAnyH_done (by kernel_rfl) ?_ _
          (try dsimp only [Act.put, List.getElem_toArray, List.getElem_cons_succ, List.getElem_cons_zero])
          (try simp only [zl, z0, z1])
          go_wp2_with fail
          go_meet
          case rel => exact ⟨q0, q1, q2, rfl, rfl, rfl, hide ⟨D01.out, D02.out, D12.out⟩, HQ0, HQ1, HQ2, hide ⟨L0.out, L1.out, L2.out⟩, hide (LS.b hSn)⟩
      refine consL 7 rfl (fun K hK => ?_) ?_
      · skip
        (go_simp; (first | refine capN (fun W q0 hq hQ hB hgr => ?_) | refine capND (fun W q0 hq hQ hB hgr => ?_)); have hSn : (LS w w2 A n c g p) W := hSof _ (hB _ _ (by first | exact (LS.b hD1) | exact LS.b hS) (by first | exact (LS.b hD1).size | exact (LS.b hS).size)); (try dsimp only at hSn); have L0 := hide (show w2.heap.size ≤ q0 by have h1 := (LS.b hD1).size; omega); (try have D01 := hide (show q0 ≠ q1 by have h1 := blk_lt HQ1.out; omega)); (try have D02 := hide (show q0 ≠ q2 by have h1 := blk_lt HQ2.out; omega)); have hb := hB _ _ (zbR _ _) (Nat.le_refl _); (try replace HQ0 := bkT hb HQ0); (try replace HQ1 := bkT hb HQ1); (try replace HQ2 := bkT hb HQ2); (first | rw [hq] | simp only [hq]); have HQ0 := hide (hQ.trans (show _ = some (Obj.cells #[.int .i64 0, .int .i64 0] 32 (0, 0)) from rfl)); clear hq hQ hB hgr hb)
        refine hK.out _ _ ?_ (fun hD2 => ?_)
        · (try dsimp only); first | assumption | exact hSof _ (zbD (zbR _ _))
        clear hK K hD1; try simp only [Act.put, zl, z0, z1]
        refine wpAnyH_ready (rs := [2, 9]) (by kernel_rfl) (by simp) ?_; refine consL 2 rfl (fun K hK => ?_) ?_
        · skip
          (go_simp; go_at_call 31; refine (refWon_any A n c ps _ HN.out ((HR2.out.below (LS.b hD2)).mono (LS.b hD2).size) (by omega)).mono ?_; rw [HWN.out]; rintro e W ⟨rfl, hb⟩; have hSn : (LS w w2 A n c g p) W := hSof _ (zbT (LS.b hD2) hb (LS.b hD2).size); (try dsimp only at hSn); (try replace HQ0 := bkT hb HQ0); (try replace HQ1 := bkT hb HQ1); (try replace HQ2 := bkT hb HQ2); clear hb)
          refine hK.out _ _ ?_ (fun hD3 => ?_)
          · (try dsimp only); first | assumption | exact hSof _ (zbD (zbR _ _))
          clear hK K hD2; try simp only [Act.put, zl, z0, z1]
          refine wpAnyH_ready (rs := [9]) (by kernel_rfl) (by simp) ?_; refine consL 9 rfl (fun K hK => ?_) AllReadyH.nil
          (go_simp; (first | refine capN (fun W q2 hq hQ hB hgr => ?_) | refine capND (fun W q2 hq hQ hB hgr => ?_)); have hSn : (LS w w2 A n c g p) W := hSof _ (hB _ _ (by first | exact (LS.b hD3) | exact LS.b hS) (by first | exact (LS.b hD3).size | exact (LS.b hS).size)); (try dsimp only at hSn); have L2 := hide (show w2.heap.size ≤ q2 by have h1 := (LS.b hD3).size; omega); (try have D02 := hide (show q0 ≠ q2 by have h1 := blk_lt HQ0.out; omega)); (try have D12 := hide (show q1 ≠ q2 by have h1 := blk_lt HQ1.out; omega)); have hb := hB _ _ (zbR _ _) (Nat.le_refl _); (try replace HQ0 := bkT hb HQ0); (try replace HQ1 := bkT hb HQ1); (try replace HQ2 := bkT hb HQ2); (first | rw [hq] | simp only [hq]); have HQ2 := hide (hQ.trans (show _ = some (Obj.cells #[.int .i64 0, .int .i64 0] 32 (0, 0)) from rfl)); clear hq hQ hB hgr hb)
          refine hK.out _ _ ?_ (fun hD4 => ?_)
          · (try dsimp only); first | assumption | exact hSof _ (zbD (zbR _ _))
          clear hK K hD3; try simp only [Act.put, zl, z0, z1]
          refine wpAnyH_ready (rs := [10]) (by kernel_rfl) (by simp) ?_; refine consL 10 rfl (fun K hK => ?_) AllReadyH.nil
          (refine step_store_row rfl 32 (.tmp 10) (.tmp 36) rfl q0 #[.int .i64 won.A, .int .i64 won.B] rfl rfl 32 _ HQ0.out (by kernel_rfl) rfl (by simp [Value.oneCell']) ?_; refine capRow HQ0.out (fun W hQ hgr hB => ?_); have hSn : (LS w w2 A n c g p) W := hSof _ (hB _ _ (LS.b hD4) L0.out); (try dsimp only at hSn); replace HQ1 := bkN hgr D01.out.symm HQ1; replace HQ2 := bkN hgr D02.out.symm HQ2; have HQ0 := hide hQ; clear hQ hgr hB)
          refine hK.out _ _ ?_ (fun hD5 => ?_)
          · (try dsimp only); first | assumption | exact hSof _ (zbD (zbR _ _))
          clear hK K hD4; try simp only [Act.put, zl, z0, z1]
          refine wpAnyH_ready (rs := [11]) (by kernel_rfl) (by simp) ?_; refine consL 11 rfl (fun K hK => ?_) AllReadyH.nil
          (refine step_store_row rfl 32 (.tmp 11) (.tmp 38) rfl q1 #[.int .i64 g.A, .int .i64 g.B] rfl rfl 32 _ HQ1.out (by kernel_rfl) rfl (by simp [Value.oneCell']) ?_; refine capRow HQ1.out (fun W hQ hgr hB => ?_); have hSn : (LS w w2 A n c g p) W := hSof _ (hB _ _ (LS.b hD5) L1.out); (try dsimp only at hSn); replace HQ0 := bkN hgr D01.out HQ0; replace HQ2 := bkN hgr D12.out.symm HQ2; have HQ1 := hide hQ; clear hQ hgr hB)
          refine hK.out _ _ ?_ (fun hD6 => ?_)
          · (try dsimp only); first | assumption | exact hSof _ (zbD (zbR _ _))
          clear hK K hD5; try simp only [Act.put, zl, z0, z1]
          refine wpAnyH_ready (rs := [12]) (by kernel_rfl) (by simp) ?_; refine consL 12 rfl (fun K hK => ?_) AllReadyH.nil
          (refine step_store_row rfl 32 (.tmp 12) (.tmp 40) rfl q2 #[.int .i64 p.A, .int .i64 p.B] rfl rfl 32 _ HQ2.out (by kernel_rfl) rfl (by simp [Value.oneCell']) ?_; refine capRow HQ2.out (fun W hQ hgr hB => ?_); have hSn : (LS w w2 A n c g p) W := hSof _ (hB _ _ (LS.b hD6) L2.out); (try dsimp only at hSn); replace HQ0 := bkN hgr D02.out HQ0; replace HQ1 := bkN hgr D12.out HQ1; have HQ2 := hide hQ; clear hQ hgr hB)
          refine hK.out _ _ ?_ (fun hD7 => ?_)
          · (try dsimp only); first | assumption | exact hSof _ (zbD (zbR _ _))
          clear hK K hD6; try simp only [Act.put, zl, z0, z1]
          refine wpAnyH_done (by kernel_rfl) ?_ _
          (try dsimp only [Act.put, List.getElem_toArray, List.getElem_cons_succ, List.getElem_cons_zero])
          (try simp only [zl, z0, z1])
          go_wp2_with fail
          go_meet
          case rel => exact ⟨q0, q1, q2, rfl, rfl, rfl, hide ⟨D01.out, D02.out, D12.out⟩, HQ0, HQ1, HQ2, hide ⟨L0.out, L1.out, L2.out⟩, hide (LS.b hSn)⟩
        refine consL 9 rfl (fun K hK => ?_) AllReadyH.nil
        focus
          (go_simp; (first | refine capN (fun W q2 hq hQ hB hgr => ?_) | refine capND (fun W q2 hq hQ hB hgr => ?_)); have hSn : (LS w w2 A n c g p) W := hSof _ (hB _ _ (by first | exact (LS.b hD2) | exact LS.b hS) (by first | exact (LS.b hD2).size | exact (LS.b hS).size)); (try dsimp only at hSn); have L2 := hide (show w2.heap.size ≤ q2 by have h1 := (LS.b hD2).size; omega); (try have D02 := hide (show q0 ≠ q2 by have h1 := blk_lt HQ0.out; omega)); (try have D12 := hide (show q1 ≠ q2 by have h1 := blk_lt HQ1.out; omega)); have hb := hB _ _ (zbR _ _) (Nat.le_refl _); (try replace HQ0 := bkT hb HQ0); (try replace HQ1 := bkT hb HQ1); (try replace HQ2 := bkT hb HQ2); (first | rw [hq] | simp only [hq]); have HQ2 := hide (hQ.trans (show _ = some (Obj.cells #[.int .i64 0, .int .i64 0] 32 (0, 0)) from rfl)); clear hq hQ hB hgr hb)
          refine hK.out _ _ ?_ (fun hD3 => ?_)
          · (try dsimp only); first | assumption | exact hSof _ (zbD (zbR _ _))
          clear hK K hD2; try simp only [Act.put, zl, z0, z1]
          refine wpAnyH_ready (rs := [2]) (by kernel_rfl) (by simp) ?_; refine consL 2 rfl (fun K hK => ?_) AllReadyH.nil
          (go_simp; go_at_call 31; refine (refWon_any A n c ps _ HN.out ((HR2.out.below (LS.b hD3)).mono (LS.b hD3).size) (by omega)).mono ?_; rw [HWN.out]; rintro e W ⟨rfl, hb⟩; have hSn : (LS w w2 A n c g p) W := hSof _ (zbT (LS.b hD3) hb (LS.b hD3).size); (try dsimp only at hSn); (try replace HQ0 := bkT hb HQ0); (try replace HQ1 := bkT hb HQ1); (try replace HQ2 := bkT hb HQ2); clear hb)
          refine hK.out _ _ ?_ (fun hD4 => ?_)
          · (try dsimp only); first | assumption | exact hSof _ (zbD (zbR _ _))
          clear hK K hD3; try simp only [Act.put, zl, z0, z1]
          refine wpAnyH_ready (rs := [10]) (by kernel_rfl) (by simp) ?_; refine consL 10 rfl (fun K hK => ?_) AllReadyH.nil
          (refine step_store_row rfl 32 (.tmp 10) (.tmp 36) rfl q0 #[.int .i64 won.A, .int .i64 won.B] rfl rfl 32 _ HQ0.out (by kernel_rfl) rfl (by simp [Value.oneCell']) ?_; refine capRow HQ0.out (fun W hQ hgr hB => ?_); have hSn : (LS w w2 A n c g p) W := hSof _ (hB _ _ (LS.b hD4) L0.out); (try dsimp only at hSn); replace HQ1 := bkN hgr D01.out.symm HQ1; replace HQ2 := bkN hgr D02.out.symm HQ2; have HQ0 := hide hQ; clear hQ hgr hB)
          refine hK.out _ _ ?_ (fun hD5 => ?_)
          · (try dsimp only); first | assumption | exact hSof _ (zbD (zbR _ _))
          clear hK K hD4; try simp only [Act.put, zl, z0, z1]
          refine wpAnyH_ready (rs := [11]) (by kernel_rfl) (by simp) ?_; refine consL 11 rfl (fun K hK => ?_) AllReadyH.nil
          (refine step_store_row rfl 32 (.tmp 11) (.tmp 38) rfl q1 #[.int .i64 g.A, .int .i64 g.B] rfl rfl 32 _ HQ1.out (by kernel_rfl) rfl (by simp [Value.oneCell']) ?_; refine capRow HQ1.out (fun W hQ hgr hB => ?_); have hSn : (LS w w2 A n c g p) W := hSof _ (hB _ _ (LS.b hD5) L1.out); (try dsimp only at hSn); replace HQ0 := bkN hgr D01.out HQ0; replace HQ2 := bkN hgr D12.out.symm HQ2; have HQ1 := hide hQ; clear hQ hgr hB)
          refine hK.out _ _ ?_ (fun hD6 => ?_)
          · (try dsimp only); first | assumption | exact hSof _ (zbD (zbR _ _))
          clear hK K hD5; try simp only [Act.put, zl, z0, z1]
          refine wpAnyH_ready (rs := [12]) (by kernel_rfl) (by simp) ?_; refine consL 12 rfl (fun K hK => ?_) AllReadyH.nil
          (refine step_store_row rfl 32 (.tmp 12) (.tmp 40) rfl q2 #[.int .i64 p.A, .int .i64 p.B] rfl rfl 32 _ HQ2.out (by kernel_rfl) rfl (by simp [Value.oneCell']) ?_; refine capRow HQ2.out (fun W hQ hgr hB => ?_); have hSn : (LS w w2 A n c g p) W := hSof _ (hB _ _ (LS.b hD6) L2.out); (try dsimp only at hSn); replace HQ0 := bkN hgr D02.out HQ0; replace HQ1 := bkN hgr D12.out HQ1; have HQ2 := hide hQ; clear hQ hgr hB)
          refine hK.out _ _ ?_ (fun hD7 => ?_)
          · (try dsimp only); first | assumption | exact hSof _ (zbD (zbR _ _))
          clear hK K hD6; try simp only [Act.put, zl, z0, z1]
          refine wpAnyH_done (by kernel_rfl) ?_ _
          (try dsimp only [Act.put, List.getElem_toArray, List.getElem_cons_succ, List.getElem_cons_zero])
          (try simp only [zl, z0, z1])
          go_wp2_with fail
          go_meet
          case rel => exact ⟨q0, q1, q2, rfl, rfl, rfl, hide ⟨D01.out, D02.out, D12.out⟩, HQ0, HQ1, HQ2, hide ⟨L0.out, L1.out, L2.out⟩, hide (LS.b hSn)⟩
      refine consL 9 rfl (fun K hK => ?_) AllReadyH.nil
      focus
        (go_simp; (first | refine capN (fun W q2 hq hQ hB hgr => ?_) | refine capND (fun W q2 hq hQ hB hgr => ?_)); have hSn : (LS w w2 A n c g p) W := hSof _ (hB _ _ (by first | exact (LS.b hD1) | exact LS.b hS) (by first | exact (LS.b hD1).size | exact (LS.b hS).size)); (try dsimp only at hSn); have L2 := hide (show w2.heap.size ≤ q2 by have h1 := (LS.b hD1).size; omega); (try have D02 := hide (show q0 ≠ q2 by have h1 := blk_lt HQ0.out; omega)); (try have D12 := hide (show q1 ≠ q2 by have h1 := blk_lt HQ1.out; omega)); have hb := hB _ _ (zbR _ _) (Nat.le_refl _); (try replace HQ0 := bkT hb HQ0); (try replace HQ1 := bkT hb HQ1); (try replace HQ2 := bkT hb HQ2); (first | rw [hq] | simp only [hq]); have HQ2 := hide (hQ.trans (show _ = some (Obj.cells #[.int .i64 0, .int .i64 0] 32 (0, 0)) from rfl)); clear hq hQ hB hgr hb)
        refine hK.out _ _ ?_ (fun hD2 => ?_)
        · (try dsimp only); first | assumption | exact hSof _ (zbD (zbR _ _))
        clear hK K hD1; try simp only [Act.put, zl, z0, z1]
        refine wpAnyH_ready (rs := [2, 7]) (by kernel_rfl) (by simp) ?_; refine consL 2 rfl (fun K hK => ?_) ?_
        · skip
          (go_simp; go_at_call 31; refine (refWon_any A n c ps _ HN.out ((HR2.out.below (LS.b hD2)).mono (LS.b hD2).size) (by omega)).mono ?_; rw [HWN.out]; rintro e W ⟨rfl, hb⟩; have hSn : (LS w w2 A n c g p) W := hSof _ (zbT (LS.b hD2) hb (LS.b hD2).size); (try dsimp only at hSn); (try replace HQ0 := bkT hb HQ0); (try replace HQ1 := bkT hb HQ1); (try replace HQ2 := bkT hb HQ2); clear hb)
          refine hK.out _ _ ?_ (fun hD3 => ?_)
          · (try dsimp only); first | assumption | exact hSof _ (zbD (zbR _ _))
          clear hK K hD2; try simp only [Act.put, zl, z0, z1]
          refine wpAnyH_ready (rs := [7]) (by kernel_rfl) (by simp) ?_; refine consL 7 rfl (fun K hK => ?_) AllReadyH.nil
          (go_simp; (first | refine capN (fun W q0 hq hQ hB hgr => ?_) | refine capND (fun W q0 hq hQ hB hgr => ?_)); have hSn : (LS w w2 A n c g p) W := hSof _ (hB _ _ (by first | exact (LS.b hD3) | exact LS.b hS) (by first | exact (LS.b hD3).size | exact (LS.b hS).size)); (try dsimp only at hSn); have L0 := hide (show w2.heap.size ≤ q0 by have h1 := (LS.b hD3).size; omega); (try have D01 := hide (show q0 ≠ q1 by have h1 := blk_lt HQ1.out; omega)); (try have D02 := hide (show q0 ≠ q2 by have h1 := blk_lt HQ2.out; omega)); have hb := hB _ _ (zbR _ _) (Nat.le_refl _); (try replace HQ0 := bkT hb HQ0); (try replace HQ1 := bkT hb HQ1); (try replace HQ2 := bkT hb HQ2); (first | rw [hq] | simp only [hq]); have HQ0 := hide (hQ.trans (show _ = some (Obj.cells #[.int .i64 0, .int .i64 0] 32 (0, 0)) from rfl)); clear hq hQ hB hgr hb)
          refine hK.out _ _ ?_ (fun hD4 => ?_)
          · (try dsimp only); first | assumption | exact hSof _ (zbD (zbR _ _))
          clear hK K hD3; try simp only [Act.put, zl, z0, z1]
          refine wpAnyH_ready (rs := [10]) (by kernel_rfl) (by simp) ?_; refine consL 10 rfl (fun K hK => ?_) AllReadyH.nil
          (refine step_store_row rfl 32 (.tmp 10) (.tmp 36) rfl q0 #[.int .i64 won.A, .int .i64 won.B] rfl rfl 32 _ HQ0.out (by kernel_rfl) rfl (by simp [Value.oneCell']) ?_; refine capRow HQ0.out (fun W hQ hgr hB => ?_); have hSn : (LS w w2 A n c g p) W := hSof _ (hB _ _ (LS.b hD4) L0.out); (try dsimp only at hSn); replace HQ1 := bkN hgr D01.out.symm HQ1; replace HQ2 := bkN hgr D02.out.symm HQ2; have HQ0 := hide hQ; clear hQ hgr hB)
          refine hK.out _ _ ?_ (fun hD5 => ?_)
          · (try dsimp only); first | assumption | exact hSof _ (zbD (zbR _ _))
          clear hK K hD4; try simp only [Act.put, zl, z0, z1]
          refine wpAnyH_ready (rs := [11]) (by kernel_rfl) (by simp) ?_; refine consL 11 rfl (fun K hK => ?_) AllReadyH.nil
          (refine step_store_row rfl 32 (.tmp 11) (.tmp 38) rfl q1 #[.int .i64 g.A, .int .i64 g.B] rfl rfl 32 _ HQ1.out (by kernel_rfl) rfl (by simp [Value.oneCell']) ?_; refine capRow HQ1.out (fun W hQ hgr hB => ?_); have hSn : (LS w w2 A n c g p) W := hSof _ (hB _ _ (LS.b hD5) L1.out); (try dsimp only at hSn); replace HQ0 := bkN hgr D01.out HQ0; replace HQ2 := bkN hgr D12.out.symm HQ2; have HQ1 := hide hQ; clear hQ hgr hB)
          refine hK.out _ _ ?_ (fun hD6 => ?_)
          · (try dsimp only); first | assumption | exact hSof _ (zbD (zbR _ _))
          clear hK K hD5; try simp only [Act.put, zl, z0, z1]
          refine wpAnyH_ready (rs := [12]) (by kernel_rfl) (by simp) ?_; refine consL 12 rfl (fun K hK => ?_) AllReadyH.nil
          (refine step_store_row rfl 32 (.tmp 12) (.tmp 40) rfl q2 #[.int .i64 p.A, .int .i64 p.B] rfl rfl 32 _ HQ2.out (by kernel_rfl) rfl (by simp [Value.oneCell']) ?_; refine capRow HQ2.out (fun W hQ hgr hB => ?_); have hSn : (LS w w2 A n c g p) W := hSof _ (hB _ _ (LS.b hD6) L2.out); (try dsimp only at hSn); replace HQ0 := bkN hgr D02.out HQ0; replace HQ1 := bkN hgr D12.out HQ1; have HQ2 := hide hQ; clear hQ hgr hB)
          refine hK.out _ _ ?_ (fun hD7 => ?_)
          · (try dsimp only); first | assumption | exact hSof _ (zbD (zbR _ _))
          clear hK K hD6; try simp only [Act.put, zl, z0, z1]
          refine wpAnyH_done (by kernel_rfl) ?_ _
          (try dsimp only [Act.put, List.getElem_toArray, List.getElem_cons_succ, List.getElem_cons_zero])
          (try simp only [zl, z0, z1])
          go_wp2_with fail
          go_meet
          case rel => exact ⟨q0, q1, q2, rfl, rfl, rfl, hide ⟨D01.out, D02.out, D12.out⟩, HQ0, HQ1, HQ2, hide ⟨L0.out, L1.out, L2.out⟩, hide (LS.b hSn)⟩
        refine consL 7 rfl (fun K hK => ?_) AllReadyH.nil
        focus
          (go_simp; (first | refine capN (fun W q0 hq hQ hB hgr => ?_) | refine capND (fun W q0 hq hQ hB hgr => ?_)); have hSn : (LS w w2 A n c g p) W := hSof _ (hB _ _ (by first | exact (LS.b hD2) | exact LS.b hS) (by first | exact (LS.b hD2).size | exact (LS.b hS).size)); (try dsimp only at hSn); have L0 := hide (show w2.heap.size ≤ q0 by have h1 := (LS.b hD2).size; omega); (try have D01 := hide (show q0 ≠ q1 by have h1 := blk_lt HQ1.out; omega)); (try have D02 := hide (show q0 ≠ q2 by have h1 := blk_lt HQ2.out; omega)); have hb := hB _ _ (zbR _ _) (Nat.le_refl _); (try replace HQ0 := bkT hb HQ0); (try replace HQ1 := bkT hb HQ1); (try replace HQ2 := bkT hb HQ2); (first | rw [hq] | simp only [hq]); have HQ0 := hide (hQ.trans (show _ = some (Obj.cells #[.int .i64 0, .int .i64 0] 32 (0, 0)) from rfl)); clear hq hQ hB hgr hb)
          refine hK.out _ _ ?_ (fun hD3 => ?_)
          · (try dsimp only); first | assumption | exact hSof _ (zbD (zbR _ _))
          clear hK K hD2; try simp only [Act.put, zl, z0, z1]
          refine wpAnyH_ready (rs := [2]) (by kernel_rfl) (by simp) ?_; refine consL 2 rfl (fun K hK => ?_) AllReadyH.nil
          (go_simp; go_at_call 31; refine (refWon_any A n c ps _ HN.out ((HR2.out.below (LS.b hD3)).mono (LS.b hD3).size) (by omega)).mono ?_; rw [HWN.out]; rintro e W ⟨rfl, hb⟩; have hSn : (LS w w2 A n c g p) W := hSof _ (zbT (LS.b hD3) hb (LS.b hD3).size); (try dsimp only at hSn); (try replace HQ0 := bkT hb HQ0); (try replace HQ1 := bkT hb HQ1); (try replace HQ2 := bkT hb HQ2); clear hb)
          refine hK.out _ _ ?_ (fun hD4 => ?_)
          · (try dsimp only); first | assumption | exact hSof _ (zbD (zbR _ _))
          clear hK K hD3; try simp only [Act.put, zl, z0, z1]
          refine wpAnyH_ready (rs := [10]) (by kernel_rfl) (by simp) ?_; refine consL 10 rfl (fun K hK => ?_) AllReadyH.nil
          (refine step_store_row rfl 32 (.tmp 10) (.tmp 36) rfl q0 #[.int .i64 won.A, .int .i64 won.B] rfl rfl 32 _ HQ0.out (by kernel_rfl) rfl (by simp [Value.oneCell']) ?_; refine capRow HQ0.out (fun W hQ hgr hB => ?_); have hSn : (LS w w2 A n c g p) W := hSof _ (hB _ _ (LS.b hD4) L0.out); (try dsimp only at hSn); replace HQ1 := bkN hgr D01.out.symm HQ1; replace HQ2 := bkN hgr D02.out.symm HQ2; have HQ0 := hide hQ; clear hQ hgr hB)
          refine hK.out _ _ ?_ (fun hD5 => ?_)
          · (try dsimp only); first | assumption | exact hSof _ (zbD (zbR _ _))
          clear hK K hD4; try simp only [Act.put, zl, z0, z1]
          refine wpAnyH_ready (rs := [11]) (by kernel_rfl) (by simp) ?_; refine consL 11 rfl (fun K hK => ?_) AllReadyH.nil
          (refine step_store_row rfl 32 (.tmp 11) (.tmp 38) rfl q1 #[.int .i64 g.A, .int .i64 g.B] rfl rfl 32 _ HQ1.out (by kernel_rfl) rfl (by simp [Value.oneCell']) ?_; refine capRow HQ1.out (fun W hQ hgr hB => ?_); have hSn : (LS w w2 A n c g p) W := hSof _ (hB _ _ (LS.b hD5) L1.out); (try dsimp only at hSn); replace HQ0 := bkN hgr D01.out HQ0; replace HQ2 := bkN hgr D12.out.symm HQ2; have HQ1 := hide hQ; clear hQ hgr hB)
          refine hK.out _ _ ?_ (fun hD6 => ?_)
          · (try dsimp only); first | assumption | exact hSof _ (zbD (zbR _ _))
          clear hK K hD5; try simp only [Act.put, zl, z0, z1]
          refine wpAnyH_ready (rs := [12]) (by kernel_rfl) (by simp) ?_; refine consL 12 rfl (fun K hK => ?_) AllReadyH.nil
          (refine step_store_row rfl 32 (.tmp 12) (.tmp 40) rfl q2 #[.int .i64 p.A, .int .i64 p.B] rfl rfl 32 _ HQ2.out (by kernel_rfl) rfl (by simp [Value.oneCell']) ?_; refine capRow HQ2.out (fun W hQ hgr hB => ?_); have hSn : (LS w w2 A n c g p) W := hSof _ (hB _ _ (LS.b hD6) L2.out); (try dsimp only at hSn); replace HQ0 := bkN hgr D02.out HQ0; replace HQ1 := bkN hgr D12.out HQ1; have HQ2 := hide hQ; clear hQ hgr hB)
          refine hK.out _ _ ?_ (fun hD7 => ?_)
          · (try dsimp only); first | assumption | exact hSof _ (zbD (zbR _ _))
          clear hK K hD6; try simp only [Act.put, zl, z0, z1]
          refine wpAnyH_done (by kernel_rfl) ?_ _
          (try dsimp only [Act.put, List.getElem_toArray, List.getElem_cons_succ, List.getElem_cons_zero])
          (try simp only [zl, z0, z1])
          go_wp2_with fail
          go_meet
          case rel => exact ⟨q0, q1, q2, rfl, rfl, rfl, hide ⟨D01.out, D02.out, D12.out⟩, HQ0, HQ1, HQ2, hide ⟨L0.out, L1.out, L2.out⟩, hide (LS.b hSn)⟩
    refine consL 9 rfl (fun K hK => ?_) AllReadyH.nil
    focus
      (go_simp; (first | refine capN (fun W q2 hq hQ hB hgr => ?_) | refine capND (fun W q2 hq hQ hB hgr => ?_)); have hSn : (LS w w2 A n c g p) W := hSof _ (hB _ _ (by first | exact (LS.b hD0) | exact LS.b hS) (by first | exact (LS.b hD0).size | exact (LS.b hS).size)); (try dsimp only at hSn); have L2 := hide (show w2.heap.size ≤ q2 by have h1 := (LS.b hD0).size; omega); (try have D02 := hide (show q0 ≠ q2 by have h1 := blk_lt HQ0.out; omega)); (try have D12 := hide (show q1 ≠ q2 by have h1 := blk_lt HQ1.out; omega)); have hb := hB _ _ (zbR _ _) (Nat.le_refl _); (try replace HQ0 := bkT hb HQ0); (try replace HQ1 := bkT hb HQ1); (try replace HQ2 := bkT hb HQ2); (first | rw [hq] | simp only [hq]); have HQ2 := hide (hQ.trans (show _ = some (Obj.cells #[.int .i64 0, .int .i64 0] 32 (0, 0)) from rfl)); clear hq hQ hB hgr hb)
      refine hK.out _ _ ?_ (fun hD1 => ?_)
      · (try dsimp only); first | assumption | exact hSof _ (zbD (zbR _ _))
      clear hK K hD0; try simp only [Act.put, zl, z0, z1]
      refine wpAnyH_ready (rs := [2, 7, 8]) (by kernel_rfl) (by simp) ?_; refine consL 2 rfl (fun K hK => ?_) ?_
      · skip
        (go_simp; go_at_call 31; refine (refWon_any A n c ps _ HN.out ((HR2.out.below (LS.b hD1)).mono (LS.b hD1).size) (by omega)).mono ?_; rw [HWN.out]; rintro e W ⟨rfl, hb⟩; have hSn : (LS w w2 A n c g p) W := hSof _ (zbT (LS.b hD1) hb (LS.b hD1).size); (try dsimp only at hSn); (try replace HQ0 := bkT hb HQ0); (try replace HQ1 := bkT hb HQ1); (try replace HQ2 := bkT hb HQ2); clear hb)
        refine hK.out _ _ ?_ (fun hD2 => ?_)
        · (try dsimp only); first | assumption | exact hSof _ (zbD (zbR _ _))
        clear hK K hD1; try simp only [Act.put, zl, z0, z1]
        refine wpAnyH_ready (rs := [7, 8]) (by kernel_rfl) (by simp) ?_; refine consL 7 rfl (fun K hK => ?_) ?_
        · skip
          (go_simp; (first | refine capN (fun W q0 hq hQ hB hgr => ?_) | refine capND (fun W q0 hq hQ hB hgr => ?_)); have hSn : (LS w w2 A n c g p) W := hSof _ (hB _ _ (by first | exact (LS.b hD2) | exact LS.b hS) (by first | exact (LS.b hD2).size | exact (LS.b hS).size)); (try dsimp only at hSn); have L0 := hide (show w2.heap.size ≤ q0 by have h1 := (LS.b hD2).size; omega); (try have D01 := hide (show q0 ≠ q1 by have h1 := blk_lt HQ1.out; omega)); (try have D02 := hide (show q0 ≠ q2 by have h1 := blk_lt HQ2.out; omega)); have hb := hB _ _ (zbR _ _) (Nat.le_refl _); (try replace HQ0 := bkT hb HQ0); (try replace HQ1 := bkT hb HQ1); (try replace HQ2 := bkT hb HQ2); (first | rw [hq] | simp only [hq]); have HQ0 := hide (hQ.trans (show _ = some (Obj.cells #[.int .i64 0, .int .i64 0] 32 (0, 0)) from rfl)); clear hq hQ hB hgr hb)
          refine hK.out _ _ ?_ (fun hD3 => ?_)
          · (try dsimp only); first | assumption | exact hSof _ (zbD (zbR _ _))
          clear hK K hD2; try simp only [Act.put, zl, z0, z1]
          refine wpAnyH_ready (rs := [8]) (by kernel_rfl) (by simp) ?_; refine consL 8 rfl (fun K hK => ?_) AllReadyH.nil
          (go_simp; (first | refine capN (fun W q1 hq hQ hB hgr => ?_) | refine capND (fun W q1 hq hQ hB hgr => ?_)); have hSn : (LS w w2 A n c g p) W := hSof _ (hB _ _ (by first | exact (LS.b hD3) | exact LS.b hS) (by first | exact (LS.b hD3).size | exact (LS.b hS).size)); (try dsimp only at hSn); have L1 := hide (show w2.heap.size ≤ q1 by have h1 := (LS.b hD3).size; omega); (try have D01 := hide (show q0 ≠ q1 by have h1 := blk_lt HQ0.out; omega)); (try have D12 := hide (show q1 ≠ q2 by have h1 := blk_lt HQ2.out; omega)); have hb := hB _ _ (zbR _ _) (Nat.le_refl _); (try replace HQ0 := bkT hb HQ0); (try replace HQ1 := bkT hb HQ1); (try replace HQ2 := bkT hb HQ2); (first | rw [hq] | simp only [hq]); have HQ1 := hide (hQ.trans (show _ = some (Obj.cells #[.int .i64 0, .int .i64 0] 32 (0, 0)) from rfl)); clear hq hQ hB hgr hb)
          refine hK.out _ _ ?_ (fun hD4 => ?_)
          · (try dsimp only); first | assumption | exact hSof _ (zbD (zbR _ _))
          clear hK K hD3; try simp only [Act.put, zl, z0, z1]
          refine wpAnyH_ready (rs := [10]) (by kernel_rfl) (by simp) ?_; refine consL 10 rfl (fun K hK => ?_) AllReadyH.nil
          (refine step_store_row rfl 32 (.tmp 10) (.tmp 36) rfl q0 #[.int .i64 won.A, .int .i64 won.B] rfl rfl 32 _ HQ0.out (by kernel_rfl) rfl (by simp [Value.oneCell']) ?_; refine capRow HQ0.out (fun W hQ hgr hB => ?_); have hSn : (LS w w2 A n c g p) W := hSof _ (hB _ _ (LS.b hD4) L0.out); (try dsimp only at hSn); replace HQ1 := bkN hgr D01.out.symm HQ1; replace HQ2 := bkN hgr D02.out.symm HQ2; have HQ0 := hide hQ; clear hQ hgr hB)
          refine hK.out _ _ ?_ (fun hD5 => ?_)
          · (try dsimp only); first | assumption | exact hSof _ (zbD (zbR _ _))
          clear hK K hD4; try simp only [Act.put, zl, z0, z1]
          refine wpAnyH_ready (rs := [11]) (by kernel_rfl) (by simp) ?_; refine consL 11 rfl (fun K hK => ?_) AllReadyH.nil
          (refine step_store_row rfl 32 (.tmp 11) (.tmp 38) rfl q1 #[.int .i64 g.A, .int .i64 g.B] rfl rfl 32 _ HQ1.out (by kernel_rfl) rfl (by simp [Value.oneCell']) ?_; refine capRow HQ1.out (fun W hQ hgr hB => ?_); have hSn : (LS w w2 A n c g p) W := hSof _ (hB _ _ (LS.b hD5) L1.out); (try dsimp only at hSn); replace HQ0 := bkN hgr D01.out HQ0; replace HQ2 := bkN hgr D12.out.symm HQ2; have HQ1 := hide hQ; clear hQ hgr hB)
          refine hK.out _ _ ?_ (fun hD6 => ?_)
          · (try dsimp only); first | assumption | exact hSof _ (zbD (zbR _ _))
          clear hK K hD5; try simp only [Act.put, zl, z0, z1]
          refine wpAnyH_ready (rs := [12]) (by kernel_rfl) (by simp) ?_; refine consL 12 rfl (fun K hK => ?_) AllReadyH.nil
          (refine step_store_row rfl 32 (.tmp 12) (.tmp 40) rfl q2 #[.int .i64 p.A, .int .i64 p.B] rfl rfl 32 _ HQ2.out (by kernel_rfl) rfl (by simp [Value.oneCell']) ?_; refine capRow HQ2.out (fun W hQ hgr hB => ?_); have hSn : (LS w w2 A n c g p) W := hSof _ (hB _ _ (LS.b hD6) L2.out); (try dsimp only at hSn); replace HQ0 := bkN hgr D02.out HQ0; replace HQ1 := bkN hgr D12.out HQ1; have HQ2 := hide hQ; clear hQ hgr hB)
          refine hK.out _ _ ?_ (fun hD7 => ?_)
          · (try dsimp only); first | assumption | exact hSof _ (zbD (zbR _ _))
          clear hK K hD6; try simp only [Act.put, zl, z0, z1]
          refine wpAnyH_done (by kernel_rfl) ?_ _
          (try dsimp only [Act.put, List.getElem_toArray, List.getElem_cons_succ, List.getElem_cons_zero])
          (try simp only [zl, z0, z1])
          go_wp2_with fail
          go_meet
          case rel => exact ⟨q0, q1, q2, rfl, rfl, rfl, hide ⟨D01.out, D02.out, D12.out⟩, HQ0, HQ1, HQ2, hide ⟨L0.out, L1.out, L2.out⟩, hide (LS.b hSn)⟩
        refine consL 8 rfl (fun K hK => ?_) AllReadyH.nil
        focus
          (go_simp; (first | refine capN (fun W q1 hq hQ hB hgr => ?_) | refine capND (fun W q1 hq hQ hB hgr => ?_)); have hSn : (LS w w2 A n c g p) W := hSof _ (hB _ _ (by first | exact (LS.b hD2) | exact LS.b hS) (by first | exact (LS.b hD2).size | exact (LS.b hS).size)); (try dsimp only at hSn); have L1 := hide (show w2.heap.size ≤ q1 by have h1 := (LS.b hD2).size; omega); (try have D01 := hide (show q0 ≠ q1 by have h1 := blk_lt HQ0.out; omega)); (try have D12 := hide (show q1 ≠ q2 by have h1 := blk_lt HQ2.out; omega)); have hb := hB _ _ (zbR _ _) (Nat.le_refl _); (try replace HQ0 := bkT hb HQ0); (try replace HQ1 := bkT hb HQ1); (try replace HQ2 := bkT hb HQ2); (first | rw [hq] | simp only [hq]); have HQ1 := hide (hQ.trans (show _ = some (Obj.cells #[.int .i64 0, .int .i64 0] 32 (0, 0)) from rfl)); clear hq hQ hB hgr hb)
          refine hK.out _ _ ?_ (fun hD3 => ?_)
          · (try dsimp only); first | assumption | exact hSof _ (zbD (zbR _ _))
          clear hK K hD2; try simp only [Act.put, zl, z0, z1]
          refine wpAnyH_ready (rs := [7]) (by kernel_rfl) (by simp) ?_; refine consL 7 rfl (fun K hK => ?_) AllReadyH.nil
          (go_simp; (first | refine capN (fun W q0 hq hQ hB hgr => ?_) | refine capND (fun W q0 hq hQ hB hgr => ?_)); have hSn : (LS w w2 A n c g p) W := hSof _ (hB _ _ (by first | exact (LS.b hD3) | exact LS.b hS) (by first | exact (LS.b hD3).size | exact (LS.b hS).size)); (try dsimp only at hSn); have L0 := hide (show w2.heap.size ≤ q0 by have h1 := (LS.b hD3).size; omega); (try have D01 := hide (show q0 ≠ q1 by have h1 := blk_lt HQ1.out; omega)); (try have D02 := hide (show q0 ≠ q2 by have h1 := blk_lt HQ2.out; omega)); have hb := hB _ _ (zbR _ _) (Nat.le_refl _); (try replace HQ0 := bkT hb HQ0); (try replace HQ1 := bkT hb HQ1); (try replace HQ2 := bkT hb HQ2); (first | rw [hq] | simp only [hq]); have HQ0 := hide (hQ.trans (show _ = some (Obj.cells #[.int .i64 0, .int .i64 0] 32 (0, 0)) from rfl)); clear hq hQ hB hgr hb)
          refine hK.out _ _ ?_ (fun hD4 => ?_)
          · (try dsimp only); first | assumption | exact hSof _ (zbD (zbR _ _))
          clear hK K hD3; try simp only [Act.put, zl, z0, z1]
          refine wpAnyH_ready (rs := [10]) (by kernel_rfl) (by simp) ?_; refine consL 10 rfl (fun K hK => ?_) AllReadyH.nil
          (refine step_store_row rfl 32 (.tmp 10) (.tmp 36) rfl q0 #[.int .i64 won.A, .int .i64 won.B] rfl rfl 32 _ HQ0.out (by kernel_rfl) rfl (by simp [Value.oneCell']) ?_; refine capRow HQ0.out (fun W hQ hgr hB => ?_); have hSn : (LS w w2 A n c g p) W := hSof _ (hB _ _ (LS.b hD4) L0.out); (try dsimp only at hSn); replace HQ1 := bkN hgr D01.out.symm HQ1; replace HQ2 := bkN hgr D02.out.symm HQ2; have HQ0 := hide hQ; clear hQ hgr hB)
          refine hK.out _ _ ?_ (fun hD5 => ?_)
          · (try dsimp only); first | assumption | exact hSof _ (zbD (zbR _ _))
          clear hK K hD4; try simp only [Act.put, zl, z0, z1]
          refine wpAnyH_ready (rs := [11]) (by kernel_rfl) (by simp) ?_; refine consL 11 rfl (fun K hK => ?_) AllReadyH.nil
          (refine step_store_row rfl 32 (.tmp 11) (.tmp 38) rfl q1 #[.int .i64 g.A, .int .i64 g.B] rfl rfl 32 _ HQ1.out (by kernel_rfl) rfl (by simp [Value.oneCell']) ?_; refine capRow HQ1.out (fun W hQ hgr hB => ?_); have hSn : (LS w w2 A n c g p) W := hSof _ (hB _ _ (LS.b hD5) L1.out); (try dsimp only at hSn); replace HQ0 := bkN hgr D01.out HQ0; replace HQ2 := bkN hgr D12.out.symm HQ2; have HQ1 := hide hQ; clear hQ hgr hB)
          refine hK.out _ _ ?_ (fun hD6 => ?_)
          · (try dsimp only); first | assumption | exact hSof _ (zbD (zbR _ _))
          clear hK K hD5; try simp only [Act.put, zl, z0, z1]
          refine wpAnyH_ready (rs := [12]) (by kernel_rfl) (by simp) ?_; refine consL 12 rfl (fun K hK => ?_) AllReadyH.nil
          (refine step_store_row rfl 32 (.tmp 12) (.tmp 40) rfl q2 #[.int .i64 p.A, .int .i64 p.B] rfl rfl 32 _ HQ2.out (by kernel_rfl) rfl (by simp [Value.oneCell']) ?_; refine capRow HQ2.out (fun W hQ hgr hB => ?_); have hSn : (LS w w2 A n c g p) W := hSof _ (hB _ _ (LS.b hD6) L2.out); (try dsimp only at hSn); replace HQ0 := bkN hgr D02.out HQ0; replace HQ1 := bkN hgr D12.out HQ1; have HQ2 := hide hQ; clear hQ hgr hB)
          refine hK.out _ _ ?_ (fun hD7 => ?_)
          · (try dsimp only); first | assumption | exact hSof _ (zbD (zbR _ _))
          clear hK K hD6; try simp only [Act.put, zl, z0, z1]
          refine wpAnyH_done (by kernel_rfl) ?_ _
          (try dsimp only [Act.put, List.getElem_toArray, List.getElem_cons_succ, List.getElem_cons_zero])
          (try simp only [zl, z0, z1])
          go_wp2_with fail
          go_meet
          case rel => exact ⟨q0, q1, q2, rfl, rfl, rfl, hide ⟨D01.out, D02.out, D12.out⟩, HQ0, HQ1, HQ2, hide ⟨L0.out, L1.out, L2.out⟩, hide (LS.b hSn)⟩
      refine consL 7 rfl (fun K hK => ?_) ?_
      · skip
        (go_simp; (first | refine capN (fun W q0 hq hQ hB hgr => ?_) | refine capND (fun W q0 hq hQ hB hgr => ?_)); have hSn : (LS w w2 A n c g p) W := hSof _ (hB _ _ (by first | exact (LS.b hD1) | exact LS.b hS) (by first | exact (LS.b hD1).size | exact (LS.b hS).size)); (try dsimp only at hSn); have L0 := hide (show w2.heap.size ≤ q0 by have h1 := (LS.b hD1).size; omega); (try have D01 := hide (show q0 ≠ q1 by have h1 := blk_lt HQ1.out; omega)); (try have D02 := hide (show q0 ≠ q2 by have h1 := blk_lt HQ2.out; omega)); have hb := hB _ _ (zbR _ _) (Nat.le_refl _); (try replace HQ0 := bkT hb HQ0); (try replace HQ1 := bkT hb HQ1); (try replace HQ2 := bkT hb HQ2); (first | rw [hq] | simp only [hq]); have HQ0 := hide (hQ.trans (show _ = some (Obj.cells #[.int .i64 0, .int .i64 0] 32 (0, 0)) from rfl)); clear hq hQ hB hgr hb)
        refine hK.out _ _ ?_ (fun hD2 => ?_)
        · (try dsimp only); first | assumption | exact hSof _ (zbD (zbR _ _))
        clear hK K hD1; try simp only [Act.put, zl, z0, z1]
        refine wpAnyH_ready (rs := [2, 8]) (by kernel_rfl) (by simp) ?_; refine consL 2 rfl (fun K hK => ?_) ?_
        · skip
          (go_simp; go_at_call 31; refine (refWon_any A n c ps _ HN.out ((HR2.out.below (LS.b hD2)).mono (LS.b hD2).size) (by omega)).mono ?_; rw [HWN.out]; rintro e W ⟨rfl, hb⟩; have hSn : (LS w w2 A n c g p) W := hSof _ (zbT (LS.b hD2) hb (LS.b hD2).size); (try dsimp only at hSn); (try replace HQ0 := bkT hb HQ0); (try replace HQ1 := bkT hb HQ1); (try replace HQ2 := bkT hb HQ2); clear hb)
          refine hK.out _ _ ?_ (fun hD3 => ?_)
          · (try dsimp only); first | assumption | exact hSof _ (zbD (zbR _ _))
          clear hK K hD2; try simp only [Act.put, zl, z0, z1]
          refine wpAnyH_ready (rs := [8]) (by kernel_rfl) (by simp) ?_; refine consL 8 rfl (fun K hK => ?_) AllReadyH.nil
          (go_simp; (first | refine capN (fun W q1 hq hQ hB hgr => ?_) | refine capND (fun W q1 hq hQ hB hgr => ?_)); have hSn : (LS w w2 A n c g p) W := hSof _ (hB _ _ (by first | exact (LS.b hD3) | exact LS.b hS) (by first | exact (LS.b hD3).size | exact (LS.b hS).size)); (try dsimp only at hSn); have L1 := hide (show w2.heap.size ≤ q1 by have h1 := (LS.b hD3).size; omega); (try have D01 := hide (show q0 ≠ q1 by have h1 := blk_lt HQ0.out; omega)); (try have D12 := hide (show q1 ≠ q2 by have h1 := blk_lt HQ2.out; omega)); have hb := hB _ _ (zbR _ _) (Nat.le_refl _); (try replace HQ0 := bkT hb HQ0); (try replace HQ1 := bkT hb HQ1); (try replace HQ2 := bkT hb HQ2); (first | rw [hq] | simp only [hq]); have HQ1 := hide (hQ.trans (show _ = some (Obj.cells #[.int .i64 0, .int .i64 0] 32 (0, 0)) from rfl)); clear hq hQ hB hgr hb)
          refine hK.out _ _ ?_ (fun hD4 => ?_)
          · (try dsimp only); first | assumption | exact hSof _ (zbD (zbR _ _))
          clear hK K hD3; try simp only [Act.put, zl, z0, z1]
          refine wpAnyH_ready (rs := [10]) (by kernel_rfl) (by simp) ?_; refine consL 10 rfl (fun K hK => ?_) AllReadyH.nil
          (refine step_store_row rfl 32 (.tmp 10) (.tmp 36) rfl q0 #[.int .i64 won.A, .int .i64 won.B] rfl rfl 32 _ HQ0.out (by kernel_rfl) rfl (by simp [Value.oneCell']) ?_; refine capRow HQ0.out (fun W hQ hgr hB => ?_); have hSn : (LS w w2 A n c g p) W := hSof _ (hB _ _ (LS.b hD4) L0.out); (try dsimp only at hSn); replace HQ1 := bkN hgr D01.out.symm HQ1; replace HQ2 := bkN hgr D02.out.symm HQ2; have HQ0 := hide hQ; clear hQ hgr hB)
          refine hK.out _ _ ?_ (fun hD5 => ?_)
          · (try dsimp only); first | assumption | exact hSof _ (zbD (zbR _ _))
          clear hK K hD4; try simp only [Act.put, zl, z0, z1]
          refine wpAnyH_ready (rs := [11]) (by kernel_rfl) (by simp) ?_; refine consL 11 rfl (fun K hK => ?_) AllReadyH.nil
          (refine step_store_row rfl 32 (.tmp 11) (.tmp 38) rfl q1 #[.int .i64 g.A, .int .i64 g.B] rfl rfl 32 _ HQ1.out (by kernel_rfl) rfl (by simp [Value.oneCell']) ?_; refine capRow HQ1.out (fun W hQ hgr hB => ?_); have hSn : (LS w w2 A n c g p) W := hSof _ (hB _ _ (LS.b hD5) L1.out); (try dsimp only at hSn); replace HQ0 := bkN hgr D01.out HQ0; replace HQ2 := bkN hgr D12.out.symm HQ2; have HQ1 := hide hQ; clear hQ hgr hB)
          refine hK.out _ _ ?_ (fun hD6 => ?_)
          · (try dsimp only); first | assumption | exact hSof _ (zbD (zbR _ _))
          clear hK K hD5; try simp only [Act.put, zl, z0, z1]
          refine wpAnyH_ready (rs := [12]) (by kernel_rfl) (by simp) ?_; refine consL 12 rfl (fun K hK => ?_) AllReadyH.nil
          (refine step_store_row rfl 32 (.tmp 12) (.tmp 40) rfl q2 #[.int .i64 p.A, .int .i64 p.B] rfl rfl 32 _ HQ2.out (by kernel_rfl) rfl (by simp [Value.oneCell']) ?_; refine capRow HQ2.out (fun W hQ hgr hB => ?_); have hSn : (LS w w2 A n c g p) W := hSof _ (hB _ _ (LS.b hD6) L2.out); (try dsimp only at hSn); replace HQ0 := bkN hgr D02.out HQ0; replace HQ1 := bkN hgr D12.out HQ1; have HQ2 := hide hQ; clear hQ hgr hB)
          refine hK.out _ _ ?_ (fun hD7 => ?_)
          · (try dsimp only); first | assumption | exact hSof _ (zbD (zbR _ _))
          clear hK K hD6; try simp only [Act.put, zl, z0, z1]
          refine wpAnyH_done (by kernel_rfl) ?_ _
          (try dsimp only [Act.put, List.getElem_toArray, List.getElem_cons_succ, List.getElem_cons_zero])
          (try simp only [zl, z0, z1])
          go_wp2_with fail
          go_meet
          case rel => exact ⟨q0, q1, q2, rfl, rfl, rfl, hide ⟨D01.out, D02.out, D12.out⟩, HQ0, HQ1, HQ2, hide ⟨L0.out, L1.out, L2.out⟩, hide (LS.b hSn)⟩
        refine consL 8 rfl (fun K hK => ?_) AllReadyH.nil
        focus
          (go_simp; (first | refine capN (fun W q1 hq hQ hB hgr => ?_) | refine capND (fun W q1 hq hQ hB hgr => ?_)); have hSn : (LS w w2 A n c g p) W := hSof _ (hB _ _ (by first | exact (LS.b hD2) | exact LS.b hS) (by first | exact (LS.b hD2).size | exact (LS.b hS).size)); (try dsimp only at hSn); have L1 := hide (show w2.heap.size ≤ q1 by have h1 := (LS.b hD2).size; omega); (try have D01 := hide (show q0 ≠ q1 by have h1 := blk_lt HQ0.out; omega)); (try have D12 := hide (show q1 ≠ q2 by have h1 := blk_lt HQ2.out; omega)); have hb := hB _ _ (zbR _ _) (Nat.le_refl _); (try replace HQ0 := bkT hb HQ0); (try replace HQ1 := bkT hb HQ1); (try replace HQ2 := bkT hb HQ2); (first | rw [hq] | simp only [hq]); have HQ1 := hide (hQ.trans (show _ = some (Obj.cells #[.int .i64 0, .int .i64 0] 32 (0, 0)) from rfl)); clear hq hQ hB hgr hb)
          refine hK.out _ _ ?_ (fun hD3 => ?_)
          · (try dsimp only); first | assumption | exact hSof _ (zbD (zbR _ _))
          clear hK K hD2; try simp only [Act.put, zl, z0, z1]
          refine wpAnyH_ready (rs := [2]) (by kernel_rfl) (by simp) ?_; refine consL 2 rfl (fun K hK => ?_) AllReadyH.nil
          (go_simp; go_at_call 31; refine (refWon_any A n c ps _ HN.out ((HR2.out.below (LS.b hD3)).mono (LS.b hD3).size) (by omega)).mono ?_; rw [HWN.out]; rintro e W ⟨rfl, hb⟩; have hSn : (LS w w2 A n c g p) W := hSof _ (zbT (LS.b hD3) hb (LS.b hD3).size); (try dsimp only at hSn); (try replace HQ0 := bkT hb HQ0); (try replace HQ1 := bkT hb HQ1); (try replace HQ2 := bkT hb HQ2); clear hb)
          refine hK.out _ _ ?_ (fun hD4 => ?_)
          · (try dsimp only); first | assumption | exact hSof _ (zbD (zbR _ _))
          clear hK K hD3; try simp only [Act.put, zl, z0, z1]
          refine wpAnyH_ready (rs := [10]) (by kernel_rfl) (by simp) ?_; refine consL 10 rfl (fun K hK => ?_) AllReadyH.nil
          (refine step_store_row rfl 32 (.tmp 10) (.tmp 36) rfl q0 #[.int .i64 won.A, .int .i64 won.B] rfl rfl 32 _ HQ0.out (by kernel_rfl) rfl (by simp [Value.oneCell']) ?_; refine capRow HQ0.out (fun W hQ hgr hB => ?_); have hSn : (LS w w2 A n c g p) W := hSof _ (hB _ _ (LS.b hD4) L0.out); (try dsimp only at hSn); replace HQ1 := bkN hgr D01.out.symm HQ1; replace HQ2 := bkN hgr D02.out.symm HQ2; have HQ0 := hide hQ; clear hQ hgr hB)
          refine hK.out _ _ ?_ (fun hD5 => ?_)
          · (try dsimp only); first | assumption | exact hSof _ (zbD (zbR _ _))
          clear hK K hD4; try simp only [Act.put, zl, z0, z1]
          refine wpAnyH_ready (rs := [11]) (by kernel_rfl) (by simp) ?_; refine consL 11 rfl (fun K hK => ?_) AllReadyH.nil
          (refine step_store_row rfl 32 (.tmp 11) (.tmp 38) rfl q1 #[.int .i64 g.A, .int .i64 g.B] rfl rfl 32 _ HQ1.out (by kernel_rfl) rfl (by simp [Value.oneCell']) ?_; refine capRow HQ1.out (fun W hQ hgr hB => ?_); have hSn : (LS w w2 A n c g p) W := hSof _ (hB _ _ (LS.b hD5) L1.out); (try dsimp only at hSn); replace HQ0 := bkN hgr D01.out HQ0; replace HQ2 := bkN hgr D12.out.symm HQ2; have HQ1 := hide hQ; clear hQ hgr hB)
          refine hK.out _ _ ?_ (fun hD6 => ?_)
          · (try dsimp only); first | assumption | exact hSof _ (zbD (zbR _ _))
          clear hK K hD5; try simp only [Act.put, zl, z0, z1]
          refine wpAnyH_ready (rs := [12]) (by kernel_rfl) (by simp) ?_; refine consL 12 rfl (fun K hK => ?_) AllReadyH.nil
          (refine step_store_row rfl 32 (.tmp 12) (.tmp 40) rfl q2 #[.int .i64 p.A, .int .i64 p.B] rfl rfl 32 _ HQ2.out (by kernel_rfl) rfl (by simp [Value.oneCell']) ?_; refine capRow HQ2.out (fun W hQ hgr hB => ?_); have hSn : (LS w w2 A n c g p) W := hSof _ (hB _ _ (LS.b hD6) L2.out); (try dsimp only at hSn); replace HQ0 := bkN hgr D02.out HQ0; replace HQ1 := bkN hgr D12.out HQ1; have HQ2 := hide hQ; clear hQ hgr hB)
          refine hK.out _ _ ?_ (fun hD7 => ?_)
          · (try dsimp only); first | assumption | exact hSof _ (zbD (zbR _ _))
          clear hK K hD6; try simp only [Act.put, zl, z0, z1]
          refine wpAnyH_done (by kernel_rfl) ?_ _
          (try dsimp only [Act.put, List.getElem_toArray, List.getElem_cons_succ, List.getElem_cons_zero])
          (try simp only [zl, z0, z1])
          go_wp2_with fail
          go_meet
          case rel => exact ⟨q0, q1, q2, rfl, rfl, rfl, hide ⟨D01.out, D02.out, D12.out⟩, HQ0, HQ1, HQ2, hide ⟨L0.out, L1.out, L2.out⟩, hide (LS.b hSn)⟩
      refine consL 8 rfl (fun K hK => ?_) AllReadyH.nil
      focus
        (go_simp; (first | refine capN (fun W q1 hq hQ hB hgr => ?_) | refine capND (fun W q1 hq hQ hB hgr => ?_)); have hSn : (LS w w2 A n c g p) W := hSof _ (hB _ _ (by first | exact (LS.b hD1) | exact LS.b hS) (by first | exact (LS.b hD1).size | exact (LS.b hS).size)); (try dsimp only at hSn); have L1 := hide (show w2.heap.size ≤ q1 by have h1 := (LS.b hD1).size; omega); (try have D01 := hide (show q0 ≠ q1 by have h1 := blk_lt HQ0.out; omega)); (try have D12 := hide (show q1 ≠ q2 by have h1 := blk_lt HQ2.out; omega)); have hb := hB _ _ (zbR _ _) (Nat.le_refl _); (try replace HQ0 := bkT hb HQ0); (try replace HQ1 := bkT hb HQ1); (try replace HQ2 := bkT hb HQ2); (first | rw [hq] | simp only [hq]); have HQ1 := hide (hQ.trans (show _ = some (Obj.cells #[.int .i64 0, .int .i64 0] 32 (0, 0)) from rfl)); clear hq hQ hB hgr hb)
        refine hK.out _ _ ?_ (fun hD2 => ?_)
        · (try dsimp only); first | assumption | exact hSof _ (zbD (zbR _ _))
        clear hK K hD1; try simp only [Act.put, zl, z0, z1]
        refine wpAnyH_ready (rs := [2, 7]) (by kernel_rfl) (by simp) ?_; refine consL 2 rfl (fun K hK => ?_) ?_
        · skip
          (go_simp; go_at_call 31; refine (refWon_any A n c ps _ HN.out ((HR2.out.below (LS.b hD2)).mono (LS.b hD2).size) (by omega)).mono ?_; rw [HWN.out]; rintro e W ⟨rfl, hb⟩; have hSn : (LS w w2 A n c g p) W := hSof _ (zbT (LS.b hD2) hb (LS.b hD2).size); (try dsimp only at hSn); (try replace HQ0 := bkT hb HQ0); (try replace HQ1 := bkT hb HQ1); (try replace HQ2 := bkT hb HQ2); clear hb)
          refine hK.out _ _ ?_ (fun hD3 => ?_)
          · (try dsimp only); first | assumption | exact hSof _ (zbD (zbR _ _))
          clear hK K hD2; try simp only [Act.put, zl, z0, z1]
          refine wpAnyH_ready (rs := [7]) (by kernel_rfl) (by simp) ?_; refine consL 7 rfl (fun K hK => ?_) AllReadyH.nil
          (go_simp; (first | refine capN (fun W q0 hq hQ hB hgr => ?_) | refine capND (fun W q0 hq hQ hB hgr => ?_)); have hSn : (LS w w2 A n c g p) W := hSof _ (hB _ _ (by first | exact (LS.b hD3) | exact LS.b hS) (by first | exact (LS.b hD3).size | exact (LS.b hS).size)); (try dsimp only at hSn); have L0 := hide (show w2.heap.size ≤ q0 by have h1 := (LS.b hD3).size; omega); (try have D01 := hide (show q0 ≠ q1 by have h1 := blk_lt HQ1.out; omega)); (try have D02 := hide (show q0 ≠ q2 by have h1 := blk_lt HQ2.out; omega)); have hb := hB _ _ (zbR _ _) (Nat.le_refl _); (try replace HQ0 := bkT hb HQ0); (try replace HQ1 := bkT hb HQ1); (try replace HQ2 := bkT hb HQ2); (first | rw [hq] | simp only [hq]); have HQ0 := hide (hQ.trans (show _ = some (Obj.cells #[.int .i64 0, .int .i64 0] 32 (0, 0)) from rfl)); clear hq hQ hB hgr hb)
          refine hK.out _ _ ?_ (fun hD4 => ?_)
          · (try dsimp only); first | assumption | exact hSof _ (zbD (zbR _ _))
          clear hK K hD3; try simp only [Act.put, zl, z0, z1]
          refine wpAnyH_ready (rs := [10]) (by kernel_rfl) (by simp) ?_; refine consL 10 rfl (fun K hK => ?_) AllReadyH.nil
          (refine step_store_row rfl 32 (.tmp 10) (.tmp 36) rfl q0 #[.int .i64 won.A, .int .i64 won.B] rfl rfl 32 _ HQ0.out (by kernel_rfl) rfl (by simp [Value.oneCell']) ?_; refine capRow HQ0.out (fun W hQ hgr hB => ?_); have hSn : (LS w w2 A n c g p) W := hSof _ (hB _ _ (LS.b hD4) L0.out); (try dsimp only at hSn); replace HQ1 := bkN hgr D01.out.symm HQ1; replace HQ2 := bkN hgr D02.out.symm HQ2; have HQ0 := hide hQ; clear hQ hgr hB)
          refine hK.out _ _ ?_ (fun hD5 => ?_)
          · (try dsimp only); first | assumption | exact hSof _ (zbD (zbR _ _))
          clear hK K hD4; try simp only [Act.put, zl, z0, z1]
          refine wpAnyH_ready (rs := [11]) (by kernel_rfl) (by simp) ?_; refine consL 11 rfl (fun K hK => ?_) AllReadyH.nil
          (refine step_store_row rfl 32 (.tmp 11) (.tmp 38) rfl q1 #[.int .i64 g.A, .int .i64 g.B] rfl rfl 32 _ HQ1.out (by kernel_rfl) rfl (by simp [Value.oneCell']) ?_; refine capRow HQ1.out (fun W hQ hgr hB => ?_); have hSn : (LS w w2 A n c g p) W := hSof _ (hB _ _ (LS.b hD5) L1.out); (try dsimp only at hSn); replace HQ0 := bkN hgr D01.out HQ0; replace HQ2 := bkN hgr D12.out.symm HQ2; have HQ1 := hide hQ; clear hQ hgr hB)
          refine hK.out _ _ ?_ (fun hD6 => ?_)
          · (try dsimp only); first | assumption | exact hSof _ (zbD (zbR _ _))
          clear hK K hD5; try simp only [Act.put, zl, z0, z1]
          refine wpAnyH_ready (rs := [12]) (by kernel_rfl) (by simp) ?_; refine consL 12 rfl (fun K hK => ?_) AllReadyH.nil
          (refine step_store_row rfl 32 (.tmp 12) (.tmp 40) rfl q2 #[.int .i64 p.A, .int .i64 p.B] rfl rfl 32 _ HQ2.out (by kernel_rfl) rfl (by simp [Value.oneCell']) ?_; refine capRow HQ2.out (fun W hQ hgr hB => ?_); have hSn : (LS w w2 A n c g p) W := hSof _ (hB _ _ (LS.b hD6) L2.out); (try dsimp only at hSn); replace HQ0 := bkN hgr D02.out HQ0; replace HQ1 := bkN hgr D12.out HQ1; have HQ2 := hide hQ; clear hQ hgr hB)
          refine hK.out _ _ ?_ (fun hD7 => ?_)
          · (try dsimp only); first | assumption | exact hSof _ (zbD (zbR _ _))
          clear hK K hD6; try simp only [Act.put, zl, z0, z1]
          refine wpAnyH_done (by kernel_rfl) ?_ _
          (try dsimp only [Act.put, List.getElem_toArray, List.getElem_cons_succ, List.getElem_cons_zero])
          (try simp only [zl, z0, z1])
          go_wp2_with fail
          go_meet
          case rel => exact ⟨q0, q1, q2, rfl, rfl, rfl, hide ⟨D01.out, D02.out, D12.out⟩, HQ0, HQ1, HQ2, hide ⟨L0.out, L1.out, L2.out⟩, hide (LS.b hSn)⟩
        refine consL 7 rfl (fun K hK => ?_) AllReadyH.nil
        focus
          (go_simp; (first | refine capN (fun W q0 hq hQ hB hgr => ?_) | refine capND (fun W q0 hq hQ hB hgr => ?_)); have hSn : (LS w w2 A n c g p) W := hSof _ (hB _ _ (by first | exact (LS.b hD2) | exact LS.b hS) (by first | exact (LS.b hD2).size | exact (LS.b hS).size)); (try dsimp only at hSn); have L0 := hide (show w2.heap.size ≤ q0 by have h1 := (LS.b hD2).size; omega); (try have D01 := hide (show q0 ≠ q1 by have h1 := blk_lt HQ1.out; omega)); (try have D02 := hide (show q0 ≠ q2 by have h1 := blk_lt HQ2.out; omega)); have hb := hB _ _ (zbR _ _) (Nat.le_refl _); (try replace HQ0 := bkT hb HQ0); (try replace HQ1 := bkT hb HQ1); (try replace HQ2 := bkT hb HQ2); (first | rw [hq] | simp only [hq]); have HQ0 := hide (hQ.trans (show _ = some (Obj.cells #[.int .i64 0, .int .i64 0] 32 (0, 0)) from rfl)); clear hq hQ hB hgr hb)
          refine hK.out _ _ ?_ (fun hD3 => ?_)
          · (try dsimp only); first | assumption | exact hSof _ (zbD (zbR _ _))
          clear hK K hD2; try simp only [Act.put, zl, z0, z1]
          refine wpAnyH_ready (rs := [2]) (by kernel_rfl) (by simp) ?_; refine consL 2 rfl (fun K hK => ?_) AllReadyH.nil
          (go_simp; go_at_call 31; refine (refWon_any A n c ps _ HN.out ((HR2.out.below (LS.b hD3)).mono (LS.b hD3).size) (by omega)).mono ?_; rw [HWN.out]; rintro e W ⟨rfl, hb⟩; have hSn : (LS w w2 A n c g p) W := hSof _ (zbT (LS.b hD3) hb (LS.b hD3).size); (try dsimp only at hSn); (try replace HQ0 := bkT hb HQ0); (try replace HQ1 := bkT hb HQ1); (try replace HQ2 := bkT hb HQ2); clear hb)
          refine hK.out _ _ ?_ (fun hD4 => ?_)
          · (try dsimp only); first | assumption | exact hSof _ (zbD (zbR _ _))
          clear hK K hD3; try simp only [Act.put, zl, z0, z1]
          refine wpAnyH_ready (rs := [10]) (by kernel_rfl) (by simp) ?_; refine consL 10 rfl (fun K hK => ?_) AllReadyH.nil
          (refine step_store_row rfl 32 (.tmp 10) (.tmp 36) rfl q0 #[.int .i64 won.A, .int .i64 won.B] rfl rfl 32 _ HQ0.out (by kernel_rfl) rfl (by simp [Value.oneCell']) ?_; refine capRow HQ0.out (fun W hQ hgr hB => ?_); have hSn : (LS w w2 A n c g p) W := hSof _ (hB _ _ (LS.b hD4) L0.out); (try dsimp only at hSn); replace HQ1 := bkN hgr D01.out.symm HQ1; replace HQ2 := bkN hgr D02.out.symm HQ2; have HQ0 := hide hQ; clear hQ hgr hB)
          refine hK.out _ _ ?_ (fun hD5 => ?_)
          · (try dsimp only); first | assumption | exact hSof _ (zbD (zbR _ _))
          clear hK K hD4; try simp only [Act.put, zl, z0, z1]
          refine wpAnyH_ready (rs := [11]) (by kernel_rfl) (by simp) ?_; refine consL 11 rfl (fun K hK => ?_) AllReadyH.nil
          (refine step_store_row rfl 32 (.tmp 11) (.tmp 38) rfl q1 #[.int .i64 g.A, .int .i64 g.B] rfl rfl 32 _ HQ1.out (by kernel_rfl) rfl (by simp [Value.oneCell']) ?_; refine capRow HQ1.out (fun W hQ hgr hB => ?_); have hSn : (LS w w2 A n c g p) W := hSof _ (hB _ _ (LS.b hD5) L1.out); (try dsimp only at hSn); replace HQ0 := bkN hgr D01.out HQ0; replace HQ2 := bkN hgr D12.out.symm HQ2; have HQ1 := hide hQ; clear hQ hgr hB)
          refine hK.out _ _ ?_ (fun hD6 => ?_)
          · (try dsimp only); first | assumption | exact hSof _ (zbD (zbR _ _))
          clear hK K hD5; try simp only [Act.put, zl, z0, z1]
          refine wpAnyH_ready (rs := [12]) (by kernel_rfl) (by simp) ?_; refine consL 12 rfl (fun K hK => ?_) AllReadyH.nil
          (refine step_store_row rfl 32 (.tmp 12) (.tmp 40) rfl q2 #[.int .i64 p.A, .int .i64 p.B] rfl rfl 32 _ HQ2.out (by kernel_rfl) rfl (by simp [Value.oneCell']) ?_; refine capRow HQ2.out (fun W hQ hgr hB => ?_); have hSn : (LS w w2 A n c g p) W := hSof _ (hB _ _ (LS.b hD6) L2.out); (try dsimp only at hSn); replace HQ0 := bkN hgr D02.out HQ0; replace HQ1 := bkN hgr D12.out HQ1; have HQ2 := hide hQ; clear hQ hgr hB)
          refine hK.out _ _ ?_ (fun hD7 => ?_)
          · (try dsimp only); first | assumption | exact hSof _ (zbD (zbR _ _))
          clear hK K hD6; try simp only [Act.put, zl, z0, z1]
          refine wpAnyH_done (by kernel_rfl) ?_ _
          (try dsimp only [Act.put, List.getElem_toArray, List.getElem_cons_succ, List.getElem_cons_zero])
          (try simp only [zl, z0, z1])
          go_wp2_with fail
          go_meet
          case rel => exact ⟨q0, q1, q2, rfl, rfl, rfl, hide ⟨D01.out, D02.out, D12.out⟩, HQ0, HQ1, HQ2, hide ⟨L0.out, L1.out, L2.out⟩, hide (LS.b hSn)⟩
  case rest =>
    obtain ⟨q0, q1, q2, rfl, rfl, rfl, HD, HQ0, HQ1, HQ2, HL, HB⟩ := hcut
    rename World => w3
    clear hS
    have D01 := hide HD.out.1
    have D02 := hide HD.out.2.1
    have D12 := hide HD.out.2.2
    have L0 := hide HL.out.1
    have L1 := hide HL.out.2.1
    have L2 := hide HL.out.2.2
    clear HD HL
    obtain ⟨X0, hx0⟩ : ∃ q, M.sw side won = q := ⟨_, rfl⟩
    obtain ⟨X1, hx1⟩ : ∃ q, M.sw side g = q := ⟨_, rfl⟩
    obtain ⟨X2, hx2⟩ : ∃ q, M.sw side p = q := ⟨_, rfl⟩
    have HX0 := hide hx0
    have HX1 := hide hx1
    have HX2 := hide hx2
    clear hx0 hx1 hx2
    obtain ⟨e1, he1⟩ : ∃ q, (side == 1) = q := ⟨_, rfl⟩
    have HE1 := hide he1
    go_upto_if 42 with fail
    clear he1
    go_cut [] from 43 to 48 (fun wy => Hid (wy.heap[q0]? = some (.cells #[.int .i64 X0.A, .int .i64 X0.B] 32 (0, 0))) ∧ Hid (wy.heap[q1]? = some (.cells #[.int .i64 X1.A, .int .i64 X1.B] 32 (0, 0))) ∧ Hid (wy.heap[q2]? = some (.cells #[.int .i64 X2.A, .int .i64 X2.B] 32 (0, 0))) ∧ Hid (Below w2.heap.size w2 wy))
    case first =>
      cases e1
      · have hs1 : ¬ side = 1 := by simpa using HE1.out
        have GQ0 := hide (show w3.heap[q0]? = some (.cells #[.int .i64 X0.A, .int .i64 X0.B] 32 (0, 0)) by rw [← HX0.out, sw_no hs1]; exact HQ0.out)
        have GQ1 := hide (show w3.heap[q1]? = some (.cells #[.int .i64 X1.A, .int .i64 X1.B] 32 (0, 0)) by rw [← HX1.out, sw_no hs1]; exact HQ1.out)
        have GQ2 := hide (show w3.heap[q2]? = some (.cells #[.int .i64 X2.A, .int .i64 X2.B] 32 (0, 0)) by rw [← HX2.out, sw_no hs1]; exact HQ2.out)
        clear hs1
        go_wp2_with fail
        go_meet
        case rel => exact ⟨GQ0, GQ1, GQ2, HB⟩
      · have hs1 : side = 1 := by simpa using HE1.out
        have HX0 := hide (show X0 = ⟨won.B, won.A⟩ by rw [← HX0.out]; exact if_pos hs1)
        have HX1 := hide (show X1 = ⟨g.B, g.A⟩ by rw [← HX1.out]; exact if_pos hs1)
        have HX2 := hide (show X2 = ⟨p.B, p.A⟩ by rw [← HX2.out]; exact if_pos hs1)
        clear hs1
        have HR2 := hide ((HR.out.below (by exact HBW2.out)).mono (by exact HBW2.out.size))
        have hSof : ∀ w', Below w2.heap.size w2 w' → (LS w w2 A n c g p) w' := fun w' hb => by
          have h := HSO.out w' hb
          (try dsimp only at h)
          go_split_ands
          exact ⟨hb, by assumption, by assumption, by assumption, by assumption, by assumption, by assumption, by assumption⟩
        have hS : (LS w w2 A n c g p) w3 := hSof _ HB.out
        (try dsimp only at hS)
        go_upto_region 10 with fail
        (try clear c00 c01 c10 c11 c20 c21)
        obtain ⟨c00, c01⟩ := cel2 HQ0
        obtain ⟨c10, c11⟩ := cel2 HQ1
        obtain ⟨c20, c21⟩ := cel2 HQ2
        refine wp_region_held_drew (S := (LS w w2 A n c g p)) (by kernel_rfl) ?_ (fun hD0 => ?_)
        · (try dsimp only); first | assumption | exact hSof _ (zbD HB.out)
        refine wpAnyH_ready (rs := [0, 2, 4]) (by kernel_rfl) (by simp) ?_; refine consL 0 rfl (fun K hK => ?_) ?_
        · skip
          go_simp
          refine hK.out _ _ ?_ (fun hD1 => ?_)
          · (try dsimp only); first | assumption | exact hSof _ (zbD HB.out)
          clear hK K hD0; try simp only [Act.put, zl, z0, z1]
          refine wpAnyH_ready (rs := [1, 2, 4]) (by kernel_rfl) (by simp) ?_; refine consL 1 rfl (fun K hK => ?_) ?_
          · skip
            (go_simp; go_at_call 48; with_reducible refine (refSwapped_any won _).mono ?_; rintro e W ⟨rfl, hb⟩; have hSn : (LS w w2 A n c g p) W := hSof _ (zbT (LS.b hD1) hb (LS.b hD1).size); (try dsimp only at hSn); (try replace HQ0 := bkT hb HQ0); (try replace HQ1 := bkT hb HQ1); (try replace HQ2 := bkT hb HQ2); clear hb; (try clear c00 c01 c10 c11 c20 c21); obtain ⟨c00, c01⟩ := cel2 HQ0; obtain ⟨c10, c11⟩ := cel2 HQ1; obtain ⟨c20, c21⟩ := cel2 HQ2)
            refine hK.out _ _ ?_ (fun hD2 => ?_)
            · (try dsimp only); first | assumption | exact hSof _ (zbD HB.out)
            clear hK K hD1; try simp only [Act.put, zl, z0, z1]
            refine wpAnyH_ready (rs := [2, 4]) (by kernel_rfl) (by simp) ?_; refine consL 2 rfl (fun K hK => ?_) ?_
            · skip
              go_simp
              refine hK.out _ _ ?_ (fun hD3 => ?_)
              · (try dsimp only); first | assumption | exact hSof _ (zbD HB.out)
              clear hK K hD2; try simp only [Act.put, zl, z0, z1]
              refine wpAnyH_ready (rs := [3, 4]) (by kernel_rfl) (by simp) ?_; refine consL 3 rfl (fun K hK => ?_) ?_
              · skip
                (go_simp; go_at_call 48; with_reducible refine (refSwapped_any g _).mono ?_; rintro e W ⟨rfl, hb⟩; have hSn : (LS w w2 A n c g p) W := hSof _ (zbT (LS.b hD3) hb (LS.b hD3).size); (try dsimp only at hSn); (try replace HQ0 := bkT hb HQ0); (try replace HQ1 := bkT hb HQ1); (try replace HQ2 := bkT hb HQ2); clear hb; (try clear c00 c01 c10 c11 c20 c21); obtain ⟨c00, c01⟩ := cel2 HQ0; obtain ⟨c10, c11⟩ := cel2 HQ1; obtain ⟨c20, c21⟩ := cel2 HQ2)
                refine hK.out _ _ ?_ (fun hD4 => ?_)
                · (try dsimp only); first | assumption | exact hSof _ (zbD HB.out)
                clear hK K hD3; try simp only [Act.put, zl, z0, z1]
                refine wpAnyH_ready (rs := [4]) (by kernel_rfl) (by simp) ?_; refine consL 4 rfl (fun K hK => ?_) AllReadyH.nil; go_simp
                refine hK.out _ _ ?_ (fun hD5 => ?_)
                · (try dsimp only); first | assumption | exact hSof _ (zbD HB.out)
                clear hK K hD4; try simp only [Act.put, zl, z0, z1]
                refine wpAnyH_ready (rs := [5]) (by kernel_rfl) (by simp) ?_; refine consL 5 rfl (fun K hK => ?_) AllReadyH.nil
                (go_simp; go_at_call 48; with_reducible refine (refSwapped_any p _).mono ?_; rintro e W ⟨rfl, hb⟩; have hSn : (LS w w2 A n c g p) W := hSof _ (zbT (LS.b hD5) hb (LS.b hD5).size); (try dsimp only at hSn); (try replace HQ0 := bkT hb HQ0); (try replace HQ1 := bkT hb HQ1); (try replace HQ2 := bkT hb HQ2); clear hb; (try clear c00 c01 c10 c11 c20 c21); obtain ⟨c00, c01⟩ := cel2 HQ0; obtain ⟨c10, c11⟩ := cel2 HQ1; obtain ⟨c20, c21⟩ := cel2 HQ2)
                refine hK.out _ _ ?_ (fun hD6 => ?_)
                · (try dsimp only); first | assumption | exact hSof _ (zbD HB.out)
                clear hK K hD5; try simp only [Act.put, zl, z0, z1]
                refine wpAnyH_ready (rs := [6]) (by kernel_rfl) (by simp) ?_; refine consL 6 rfl (fun K hK => ?_) AllReadyH.nil
                (refine step_store_row rfl 32 (.tmp 10) (.tmp 44) rfl q0 #[.int .i64 won.B, .int .i64 won.A] rfl rfl 32 _ HQ0.out (by kernel_rfl) rfl (by simp [Value.oneCell']) ?_; refine capRow HQ0.out (fun W hQ hgr hB => ?_); have hSn : (LS w w2 A n c g p) W := hSof _ (hB _ _ (LS.b hD6) L0.out); (try dsimp only at hSn); replace HQ1 := bkN hgr D01.out.symm HQ1; replace HQ2 := bkN hgr D02.out.symm HQ2; have HQ0 := hide hQ; clear hQ hgr hB)
                refine hK.out _ _ ?_ (fun hD7 => ?_)
                · (try dsimp only); first | assumption | exact hSof _ (zbD HB.out)
                clear hK K hD6; try simp only [Act.put, zl, z0, z1]
                refine wpAnyH_ready (rs := [7]) (by kernel_rfl) (by simp) ?_; refine consL 7 rfl (fun K hK => ?_) AllReadyH.nil
                (refine step_store_row rfl 32 (.tmp 11) (.tmp 46) rfl q1 #[.int .i64 g.B, .int .i64 g.A] rfl rfl 32 _ HQ1.out (by kernel_rfl) rfl (by simp [Value.oneCell']) ?_; refine capRow HQ1.out (fun W hQ hgr hB => ?_); have hSn : (LS w w2 A n c g p) W := hSof _ (hB _ _ (LS.b hD7) L1.out); (try dsimp only at hSn); replace HQ0 := bkN hgr D01.out HQ0; replace HQ2 := bkN hgr D12.out.symm HQ2; have HQ1 := hide hQ; clear hQ hgr hB)
                refine hK.out _ _ ?_ (fun hD8 => ?_)
                · (try dsimp only); first | assumption | exact hSof _ (zbD HB.out)
                clear hK K hD7; try simp only [Act.put, zl, z0, z1]
                refine wpAnyH_ready (rs := [8]) (by kernel_rfl) (by simp) ?_; refine consL 8 rfl (fun K hK => ?_) AllReadyH.nil
                (refine step_store_row rfl 32 (.tmp 12) (.tmp 48) rfl q2 #[.int .i64 p.B, .int .i64 p.A] rfl rfl 32 _ HQ2.out (by kernel_rfl) rfl (by simp [Value.oneCell']) ?_; refine capRow HQ2.out (fun W hQ hgr hB => ?_); have hSn : (LS w w2 A n c g p) W := hSof _ (hB _ _ (LS.b hD8) L2.out); (try dsimp only at hSn); replace HQ0 := bkN hgr D02.out HQ0; replace HQ1 := bkN hgr D12.out HQ1; have HQ2 := hide hQ; clear hQ hgr hB)
                refine hK.out _ _ ?_ (fun hD9 => ?_)
                · (try dsimp only); first | assumption | exact hSof _ (zbD HB.out)
                clear hK K hD8; try simp only [Act.put, zl, z0, z1]
                refine wpAnyH_done (by kernel_rfl) ?_ _
                (try dsimp only [Act.put, List.getElem_toArray, List.getElem_cons_succ, List.getElem_cons_zero])
                (try simp only [zl, z0, z1])
                go_wp2_with fail
                go_meet
                case rel => exact ⟨hide (by rw [HX0.out]; exact HQ0.out), hide (by rw [HX1.out]; exact HQ1.out), hide (by rw [HX2.out]; exact HQ2.out), hide (LS.b hSn)⟩
              refine consL 4 rfl (fun K hK => ?_) AllReadyH.nil
              focus
                go_simp
                refine hK.out _ _ ?_ (fun hD4 => ?_)
                · (try dsimp only); first | assumption | exact hSof _ (zbD HB.out)
                clear hK K hD3; try simp only [Act.put, zl, z0, z1]
                refine wpAnyH_ready (rs := [3]) (by kernel_rfl) (by simp) ?_; refine consL 3 rfl (fun K hK => ?_) AllReadyH.nil
                (go_simp; go_at_call 48; with_reducible refine (refSwapped_any g _).mono ?_; rintro e W ⟨rfl, hb⟩; have hSn : (LS w w2 A n c g p) W := hSof _ (zbT (LS.b hD4) hb (LS.b hD4).size); (try dsimp only at hSn); (try replace HQ0 := bkT hb HQ0); (try replace HQ1 := bkT hb HQ1); (try replace HQ2 := bkT hb HQ2); clear hb; (try clear c00 c01 c10 c11 c20 c21); obtain ⟨c00, c01⟩ := cel2 HQ0; obtain ⟨c10, c11⟩ := cel2 HQ1; obtain ⟨c20, c21⟩ := cel2 HQ2)
                refine hK.out _ _ ?_ (fun hD5 => ?_)
                · (try dsimp only); first | assumption | exact hSof _ (zbD HB.out)
                clear hK K hD4; try simp only [Act.put, zl, z0, z1]
                refine wpAnyH_ready (rs := [5]) (by kernel_rfl) (by simp) ?_; refine consL 5 rfl (fun K hK => ?_) AllReadyH.nil
                (go_simp; go_at_call 48; with_reducible refine (refSwapped_any p _).mono ?_; rintro e W ⟨rfl, hb⟩; have hSn : (LS w w2 A n c g p) W := hSof _ (zbT (LS.b hD5) hb (LS.b hD5).size); (try dsimp only at hSn); (try replace HQ0 := bkT hb HQ0); (try replace HQ1 := bkT hb HQ1); (try replace HQ2 := bkT hb HQ2); clear hb; (try clear c00 c01 c10 c11 c20 c21); obtain ⟨c00, c01⟩ := cel2 HQ0; obtain ⟨c10, c11⟩ := cel2 HQ1; obtain ⟨c20, c21⟩ := cel2 HQ2)
                refine hK.out _ _ ?_ (fun hD6 => ?_)
                · (try dsimp only); first | assumption | exact hSof _ (zbD HB.out)
                clear hK K hD5; try simp only [Act.put, zl, z0, z1]
                refine wpAnyH_ready (rs := [6]) (by kernel_rfl) (by simp) ?_; refine consL 6 rfl (fun K hK => ?_) AllReadyH.nil
                (refine step_store_row rfl 32 (.tmp 10) (.tmp 44) rfl q0 #[.int .i64 won.B, .int .i64 won.A] rfl rfl 32 _ HQ0.out (by kernel_rfl) rfl (by simp [Value.oneCell']) ?_; refine capRow HQ0.out (fun W hQ hgr hB => ?_); have hSn : (LS w w2 A n c g p) W := hSof _ (hB _ _ (LS.b hD6) L0.out); (try dsimp only at hSn); replace HQ1 := bkN hgr D01.out.symm HQ1; replace HQ2 := bkN hgr D02.out.symm HQ2; have HQ0 := hide hQ; clear hQ hgr hB)
                refine hK.out _ _ ?_ (fun hD7 => ?_)
                · (try dsimp only); first | assumption | exact hSof _ (zbD HB.out)
                clear hK K hD6; try simp only [Act.put, zl, z0, z1]
                refine wpAnyH_ready (rs := [7]) (by kernel_rfl) (by simp) ?_; refine consL 7 rfl (fun K hK => ?_) AllReadyH.nil
                (refine step_store_row rfl 32 (.tmp 11) (.tmp 46) rfl q1 #[.int .i64 g.B, .int .i64 g.A] rfl rfl 32 _ HQ1.out (by kernel_rfl) rfl (by simp [Value.oneCell']) ?_; refine capRow HQ1.out (fun W hQ hgr hB => ?_); have hSn : (LS w w2 A n c g p) W := hSof _ (hB _ _ (LS.b hD7) L1.out); (try dsimp only at hSn); replace HQ0 := bkN hgr D01.out HQ0; replace HQ2 := bkN hgr D12.out.symm HQ2; have HQ1 := hide hQ; clear hQ hgr hB)
                refine hK.out _ _ ?_ (fun hD8 => ?_)
                · (try dsimp only); first | assumption | exact hSof _ (zbD HB.out)
                clear hK K hD7; try simp only [Act.put, zl, z0, z1]
                refine wpAnyH_ready (rs := [8]) (by kernel_rfl) (by simp) ?_; refine consL 8 rfl (fun K hK => ?_) AllReadyH.nil
                (refine step_store_row rfl 32 (.tmp 12) (.tmp 48) rfl q2 #[.int .i64 p.B, .int .i64 p.A] rfl rfl 32 _ HQ2.out (by kernel_rfl) rfl (by simp [Value.oneCell']) ?_; refine capRow HQ2.out (fun W hQ hgr hB => ?_); have hSn : (LS w w2 A n c g p) W := hSof _ (hB _ _ (LS.b hD8) L2.out); (try dsimp only at hSn); replace HQ0 := bkN hgr D02.out HQ0; replace HQ1 := bkN hgr D12.out HQ1; have HQ2 := hide hQ; clear hQ hgr hB)
                refine hK.out _ _ ?_ (fun hD9 => ?_)
                · (try dsimp only); first | assumption | exact hSof _ (zbD HB.out)
                clear hK K hD8; try simp only [Act.put, zl, z0, z1]
                refine wpAnyH_done (by kernel_rfl) ?_ _
                (try dsimp only [Act.put, List.getElem_toArray, List.getElem_cons_succ, List.getElem_cons_zero])
                (try simp only [zl, z0, z1])
                go_wp2_with fail
                go_meet
                case rel => exact ⟨hide (by rw [HX0.out]; exact HQ0.out), hide (by rw [HX1.out]; exact HQ1.out), hide (by rw [HX2.out]; exact HQ2.out), hide (LS.b hSn)⟩
            refine consL 4 rfl (fun K hK => ?_) AllReadyH.nil
            focus
              go_simp
              refine hK.out _ _ ?_ (fun hD3 => ?_)
              · (try dsimp only); first | assumption | exact hSof _ (zbD HB.out)
              clear hK K hD2; try simp only [Act.put, zl, z0, z1]
              refine wpAnyH_ready (rs := [2]) (by kernel_rfl) (by simp) ?_; refine consL 2 rfl (fun K hK => ?_) AllReadyH.nil; go_simp
              refine hK.out _ _ ?_ (fun hD4 => ?_)
              · (try dsimp only); first | assumption | exact hSof _ (zbD HB.out)
              clear hK K hD3; try simp only [Act.put, zl, z0, z1]
              refine wpAnyH_ready (rs := [3]) (by kernel_rfl) (by simp) ?_; refine consL 3 rfl (fun K hK => ?_) AllReadyH.nil
              (go_simp; go_at_call 48; with_reducible refine (refSwapped_any g _).mono ?_; rintro e W ⟨rfl, hb⟩; have hSn : (LS w w2 A n c g p) W := hSof _ (zbT (LS.b hD4) hb (LS.b hD4).size); (try dsimp only at hSn); (try replace HQ0 := bkT hb HQ0); (try replace HQ1 := bkT hb HQ1); (try replace HQ2 := bkT hb HQ2); clear hb; (try clear c00 c01 c10 c11 c20 c21); obtain ⟨c00, c01⟩ := cel2 HQ0; obtain ⟨c10, c11⟩ := cel2 HQ1; obtain ⟨c20, c21⟩ := cel2 HQ2)
              refine hK.out _ _ ?_ (fun hD5 => ?_)
              · (try dsimp only); first | assumption | exact hSof _ (zbD HB.out)
              clear hK K hD4; try simp only [Act.put, zl, z0, z1]
              refine wpAnyH_ready (rs := [5]) (by kernel_rfl) (by simp) ?_; refine consL 5 rfl (fun K hK => ?_) AllReadyH.nil
              (go_simp; go_at_call 48; with_reducible refine (refSwapped_any p _).mono ?_; rintro e W ⟨rfl, hb⟩; have hSn : (LS w w2 A n c g p) W := hSof _ (zbT (LS.b hD5) hb (LS.b hD5).size); (try dsimp only at hSn); (try replace HQ0 := bkT hb HQ0); (try replace HQ1 := bkT hb HQ1); (try replace HQ2 := bkT hb HQ2); clear hb; (try clear c00 c01 c10 c11 c20 c21); obtain ⟨c00, c01⟩ := cel2 HQ0; obtain ⟨c10, c11⟩ := cel2 HQ1; obtain ⟨c20, c21⟩ := cel2 HQ2)
              refine hK.out _ _ ?_ (fun hD6 => ?_)
              · (try dsimp only); first | assumption | exact hSof _ (zbD HB.out)
              clear hK K hD5; try simp only [Act.put, zl, z0, z1]
              refine wpAnyH_ready (rs := [6]) (by kernel_rfl) (by simp) ?_; refine consL 6 rfl (fun K hK => ?_) AllReadyH.nil
              (refine step_store_row rfl 32 (.tmp 10) (.tmp 44) rfl q0 #[.int .i64 won.B, .int .i64 won.A] rfl rfl 32 _ HQ0.out (by kernel_rfl) rfl (by simp [Value.oneCell']) ?_; refine capRow HQ0.out (fun W hQ hgr hB => ?_); have hSn : (LS w w2 A n c g p) W := hSof _ (hB _ _ (LS.b hD6) L0.out); (try dsimp only at hSn); replace HQ1 := bkN hgr D01.out.symm HQ1; replace HQ2 := bkN hgr D02.out.symm HQ2; have HQ0 := hide hQ; clear hQ hgr hB)
              refine hK.out _ _ ?_ (fun hD7 => ?_)
              · (try dsimp only); first | assumption | exact hSof _ (zbD HB.out)
              clear hK K hD6; try simp only [Act.put, zl, z0, z1]
              refine wpAnyH_ready (rs := [7]) (by kernel_rfl) (by simp) ?_; refine consL 7 rfl (fun K hK => ?_) AllReadyH.nil
              (refine step_store_row rfl 32 (.tmp 11) (.tmp 46) rfl q1 #[.int .i64 g.B, .int .i64 g.A] rfl rfl 32 _ HQ1.out (by kernel_rfl) rfl (by simp [Value.oneCell']) ?_; refine capRow HQ1.out (fun W hQ hgr hB => ?_); have hSn : (LS w w2 A n c g p) W := hSof _ (hB _ _ (LS.b hD7) L1.out); (try dsimp only at hSn); replace HQ0 := bkN hgr D01.out HQ0; replace HQ2 := bkN hgr D12.out.symm HQ2; have HQ1 := hide hQ; clear hQ hgr hB)
              refine hK.out _ _ ?_ (fun hD8 => ?_)
              · (try dsimp only); first | assumption | exact hSof _ (zbD HB.out)
              clear hK K hD7; try simp only [Act.put, zl, z0, z1]
              refine wpAnyH_ready (rs := [8]) (by kernel_rfl) (by simp) ?_; refine consL 8 rfl (fun K hK => ?_) AllReadyH.nil
              (refine step_store_row rfl 32 (.tmp 12) (.tmp 48) rfl q2 #[.int .i64 p.B, .int .i64 p.A] rfl rfl 32 _ HQ2.out (by kernel_rfl) rfl (by simp [Value.oneCell']) ?_; refine capRow HQ2.out (fun W hQ hgr hB => ?_); have hSn : (LS w w2 A n c g p) W := hSof _ (hB _ _ (LS.b hD8) L2.out); (try dsimp only at hSn); replace HQ0 := bkN hgr D02.out HQ0; replace HQ1 := bkN hgr D12.out HQ1; have HQ2 := hide hQ; clear hQ hgr hB)
              refine hK.out _ _ ?_ (fun hD9 => ?_)
              · (try dsimp only); first | assumption | exact hSof _ (zbD HB.out)
              clear hK K hD8; try simp only [Act.put, zl, z0, z1]
              refine wpAnyH_done (by kernel_rfl) ?_ _
              (try dsimp only [Act.put, List.getElem_toArray, List.getElem_cons_succ, List.getElem_cons_zero])
              (try simp only [zl, z0, z1])
              go_wp2_with fail
              go_meet
              case rel => exact ⟨hide (by rw [HX0.out]; exact HQ0.out), hide (by rw [HX1.out]; exact HQ1.out), hide (by rw [HX2.out]; exact HQ2.out), hide (LS.b hSn)⟩
          refine consL 2 rfl (fun K hK => ?_) ?_
          · skip
            go_simp
            refine hK.out _ _ ?_ (fun hD2 => ?_)
            · (try dsimp only); first | assumption | exact hSof _ (zbD HB.out)
            clear hK K hD1; try simp only [Act.put, zl, z0, z1]
            refine wpAnyH_ready (rs := [1, 4]) (by kernel_rfl) (by simp) ?_; refine consL 1 rfl (fun K hK => ?_) ?_
            · skip
              (go_simp; go_at_call 48; with_reducible refine (refSwapped_any won _).mono ?_; rintro e W ⟨rfl, hb⟩; have hSn : (LS w w2 A n c g p) W := hSof _ (zbT (LS.b hD2) hb (LS.b hD2).size); (try dsimp only at hSn); (try replace HQ0 := bkT hb HQ0); (try replace HQ1 := bkT hb HQ1); (try replace HQ2 := bkT hb HQ2); clear hb; (try clear c00 c01 c10 c11 c20 c21); obtain ⟨c00, c01⟩ := cel2 HQ0; obtain ⟨c10, c11⟩ := cel2 HQ1; obtain ⟨c20, c21⟩ := cel2 HQ2)
              refine hK.out _ _ ?_ (fun hD3 => ?_)
              · (try dsimp only); first | assumption | exact hSof _ (zbD HB.out)
              clear hK K hD2; try simp only [Act.put, zl, z0, z1]
              refine wpAnyH_ready (rs := [3, 4]) (by kernel_rfl) (by simp) ?_; refine consL 3 rfl (fun K hK => ?_) ?_
              · skip
                (go_simp; go_at_call 48; with_reducible refine (refSwapped_any g _).mono ?_; rintro e W ⟨rfl, hb⟩; have hSn : (LS w w2 A n c g p) W := hSof _ (zbT (LS.b hD3) hb (LS.b hD3).size); (try dsimp only at hSn); (try replace HQ0 := bkT hb HQ0); (try replace HQ1 := bkT hb HQ1); (try replace HQ2 := bkT hb HQ2); clear hb; (try clear c00 c01 c10 c11 c20 c21); obtain ⟨c00, c01⟩ := cel2 HQ0; obtain ⟨c10, c11⟩ := cel2 HQ1; obtain ⟨c20, c21⟩ := cel2 HQ2)
                refine hK.out _ _ ?_ (fun hD4 => ?_)
                · (try dsimp only); first | assumption | exact hSof _ (zbD HB.out)
                clear hK K hD3; try simp only [Act.put, zl, z0, z1]
                refine wpAnyH_ready (rs := [4]) (by kernel_rfl) (by simp) ?_; refine consL 4 rfl (fun K hK => ?_) AllReadyH.nil; go_simp
                refine hK.out _ _ ?_ (fun hD5 => ?_)
                · (try dsimp only); first | assumption | exact hSof _ (zbD HB.out)
                clear hK K hD4; try simp only [Act.put, zl, z0, z1]
                refine wpAnyH_ready (rs := [5]) (by kernel_rfl) (by simp) ?_; refine consL 5 rfl (fun K hK => ?_) AllReadyH.nil
                (go_simp; go_at_call 48; with_reducible refine (refSwapped_any p _).mono ?_; rintro e W ⟨rfl, hb⟩; have hSn : (LS w w2 A n c g p) W := hSof _ (zbT (LS.b hD5) hb (LS.b hD5).size); (try dsimp only at hSn); (try replace HQ0 := bkT hb HQ0); (try replace HQ1 := bkT hb HQ1); (try replace HQ2 := bkT hb HQ2); clear hb; (try clear c00 c01 c10 c11 c20 c21); obtain ⟨c00, c01⟩ := cel2 HQ0; obtain ⟨c10, c11⟩ := cel2 HQ1; obtain ⟨c20, c21⟩ := cel2 HQ2)
                refine hK.out _ _ ?_ (fun hD6 => ?_)
                · (try dsimp only); first | assumption | exact hSof _ (zbD HB.out)
                clear hK K hD5; try simp only [Act.put, zl, z0, z1]
                refine wpAnyH_ready (rs := [6]) (by kernel_rfl) (by simp) ?_; refine consL 6 rfl (fun K hK => ?_) AllReadyH.nil
                (refine step_store_row rfl 32 (.tmp 10) (.tmp 44) rfl q0 #[.int .i64 won.B, .int .i64 won.A] rfl rfl 32 _ HQ0.out (by kernel_rfl) rfl (by simp [Value.oneCell']) ?_; refine capRow HQ0.out (fun W hQ hgr hB => ?_); have hSn : (LS w w2 A n c g p) W := hSof _ (hB _ _ (LS.b hD6) L0.out); (try dsimp only at hSn); replace HQ1 := bkN hgr D01.out.symm HQ1; replace HQ2 := bkN hgr D02.out.symm HQ2; have HQ0 := hide hQ; clear hQ hgr hB)
                refine hK.out _ _ ?_ (fun hD7 => ?_)
                · (try dsimp only); first | assumption | exact hSof _ (zbD HB.out)
                clear hK K hD6; try simp only [Act.put, zl, z0, z1]
                refine wpAnyH_ready (rs := [7]) (by kernel_rfl) (by simp) ?_; refine consL 7 rfl (fun K hK => ?_) AllReadyH.nil
                (refine step_store_row rfl 32 (.tmp 11) (.tmp 46) rfl q1 #[.int .i64 g.B, .int .i64 g.A] rfl rfl 32 _ HQ1.out (by kernel_rfl) rfl (by simp [Value.oneCell']) ?_; refine capRow HQ1.out (fun W hQ hgr hB => ?_); have hSn : (LS w w2 A n c g p) W := hSof _ (hB _ _ (LS.b hD7) L1.out); (try dsimp only at hSn); replace HQ0 := bkN hgr D01.out HQ0; replace HQ2 := bkN hgr D12.out.symm HQ2; have HQ1 := hide hQ; clear hQ hgr hB)
                refine hK.out _ _ ?_ (fun hD8 => ?_)
                · (try dsimp only); first | assumption | exact hSof _ (zbD HB.out)
                clear hK K hD7; try simp only [Act.put, zl, z0, z1]
                refine wpAnyH_ready (rs := [8]) (by kernel_rfl) (by simp) ?_; refine consL 8 rfl (fun K hK => ?_) AllReadyH.nil
                (refine step_store_row rfl 32 (.tmp 12) (.tmp 48) rfl q2 #[.int .i64 p.B, .int .i64 p.A] rfl rfl 32 _ HQ2.out (by kernel_rfl) rfl (by simp [Value.oneCell']) ?_; refine capRow HQ2.out (fun W hQ hgr hB => ?_); have hSn : (LS w w2 A n c g p) W := hSof _ (hB _ _ (LS.b hD8) L2.out); (try dsimp only at hSn); replace HQ0 := bkN hgr D02.out HQ0; replace HQ1 := bkN hgr D12.out HQ1; have HQ2 := hide hQ; clear hQ hgr hB)
                refine hK.out _ _ ?_ (fun hD9 => ?_)
                · (try dsimp only); first | assumption | exact hSof _ (zbD HB.out)
                clear hK K hD8; try simp only [Act.put, zl, z0, z1]
                refine wpAnyH_done (by kernel_rfl) ?_ _
                (try dsimp only [Act.put, List.getElem_toArray, List.getElem_cons_succ, List.getElem_cons_zero])
                (try simp only [zl, z0, z1])
                go_wp2_with fail
                go_meet
                case rel => exact ⟨hide (by rw [HX0.out]; exact HQ0.out), hide (by rw [HX1.out]; exact HQ1.out), hide (by rw [HX2.out]; exact HQ2.out), hide (LS.b hSn)⟩
              refine consL 4 rfl (fun K hK => ?_) AllReadyH.nil
              focus
                go_simp
                refine hK.out _ _ ?_ (fun hD4 => ?_)
                · (try dsimp only); first | assumption | exact hSof _ (zbD HB.out)
                clear hK K hD3; try simp only [Act.put, zl, z0, z1]
                refine wpAnyH_ready (rs := [3]) (by kernel_rfl) (by simp) ?_; refine consL 3 rfl (fun K hK => ?_) AllReadyH.nil
                (go_simp; go_at_call 48; with_reducible refine (refSwapped_any g _).mono ?_; rintro e W ⟨rfl, hb⟩; have hSn : (LS w w2 A n c g p) W := hSof _ (zbT (LS.b hD4) hb (LS.b hD4).size); (try dsimp only at hSn); (try replace HQ0 := bkT hb HQ0); (try replace HQ1 := bkT hb HQ1); (try replace HQ2 := bkT hb HQ2); clear hb; (try clear c00 c01 c10 c11 c20 c21); obtain ⟨c00, c01⟩ := cel2 HQ0; obtain ⟨c10, c11⟩ := cel2 HQ1; obtain ⟨c20, c21⟩ := cel2 HQ2)
                refine hK.out _ _ ?_ (fun hD5 => ?_)
                · (try dsimp only); first | assumption | exact hSof _ (zbD HB.out)
                clear hK K hD4; try simp only [Act.put, zl, z0, z1]
                refine wpAnyH_ready (rs := [5]) (by kernel_rfl) (by simp) ?_; refine consL 5 rfl (fun K hK => ?_) AllReadyH.nil
                (go_simp; go_at_call 48; with_reducible refine (refSwapped_any p _).mono ?_; rintro e W ⟨rfl, hb⟩; have hSn : (LS w w2 A n c g p) W := hSof _ (zbT (LS.b hD5) hb (LS.b hD5).size); (try dsimp only at hSn); (try replace HQ0 := bkT hb HQ0); (try replace HQ1 := bkT hb HQ1); (try replace HQ2 := bkT hb HQ2); clear hb; (try clear c00 c01 c10 c11 c20 c21); obtain ⟨c00, c01⟩ := cel2 HQ0; obtain ⟨c10, c11⟩ := cel2 HQ1; obtain ⟨c20, c21⟩ := cel2 HQ2)
                refine hK.out _ _ ?_ (fun hD6 => ?_)
                · (try dsimp only); first | assumption | exact hSof _ (zbD HB.out)
                clear hK K hD5; try simp only [Act.put, zl, z0, z1]
                refine wpAnyH_ready (rs := [6]) (by kernel_rfl) (by simp) ?_; refine consL 6 rfl (fun K hK => ?_) AllReadyH.nil
                (refine step_store_row rfl 32 (.tmp 10) (.tmp 44) rfl q0 #[.int .i64 won.B, .int .i64 won.A] rfl rfl 32 _ HQ0.out (by kernel_rfl) rfl (by simp [Value.oneCell']) ?_; refine capRow HQ0.out (fun W hQ hgr hB => ?_); have hSn : (LS w w2 A n c g p) W := hSof _ (hB _ _ (LS.b hD6) L0.out); (try dsimp only at hSn); replace HQ1 := bkN hgr D01.out.symm HQ1; replace HQ2 := bkN hgr D02.out.symm HQ2; have HQ0 := hide hQ; clear hQ hgr hB)
                refine hK.out _ _ ?_ (fun hD7 => ?_)
                · (try dsimp only); first | assumption | exact hSof _ (zbD HB.out)
                clear hK K hD6; try simp only [Act.put, zl, z0, z1]
                refine wpAnyH_ready (rs := [7]) (by kernel_rfl) (by simp) ?_; refine consL 7 rfl (fun K hK => ?_) AllReadyH.nil
                (refine step_store_row rfl 32 (.tmp 11) (.tmp 46) rfl q1 #[.int .i64 g.B, .int .i64 g.A] rfl rfl 32 _ HQ1.out (by kernel_rfl) rfl (by simp [Value.oneCell']) ?_; refine capRow HQ1.out (fun W hQ hgr hB => ?_); have hSn : (LS w w2 A n c g p) W := hSof _ (hB _ _ (LS.b hD7) L1.out); (try dsimp only at hSn); replace HQ0 := bkN hgr D01.out HQ0; replace HQ2 := bkN hgr D12.out.symm HQ2; have HQ1 := hide hQ; clear hQ hgr hB)
                refine hK.out _ _ ?_ (fun hD8 => ?_)
                · (try dsimp only); first | assumption | exact hSof _ (zbD HB.out)
                clear hK K hD7; try simp only [Act.put, zl, z0, z1]
                refine wpAnyH_ready (rs := [8]) (by kernel_rfl) (by simp) ?_; refine consL 8 rfl (fun K hK => ?_) AllReadyH.nil
                (refine step_store_row rfl 32 (.tmp 12) (.tmp 48) rfl q2 #[.int .i64 p.B, .int .i64 p.A] rfl rfl 32 _ HQ2.out (by kernel_rfl) rfl (by simp [Value.oneCell']) ?_; refine capRow HQ2.out (fun W hQ hgr hB => ?_); have hSn : (LS w w2 A n c g p) W := hSof _ (hB _ _ (LS.b hD8) L2.out); (try dsimp only at hSn); replace HQ0 := bkN hgr D02.out HQ0; replace HQ1 := bkN hgr D12.out HQ1; have HQ2 := hide hQ; clear hQ hgr hB)
                refine hK.out _ _ ?_ (fun hD9 => ?_)
                · (try dsimp only); first | assumption | exact hSof _ (zbD HB.out)
                clear hK K hD8; try simp only [Act.put, zl, z0, z1]
                refine wpAnyH_done (by kernel_rfl) ?_ _
                (try dsimp only [Act.put, List.getElem_toArray, List.getElem_cons_succ, List.getElem_cons_zero])
                (try simp only [zl, z0, z1])
                go_wp2_with fail
                go_meet
                case rel => exact ⟨hide (by rw [HX0.out]; exact HQ0.out), hide (by rw [HX1.out]; exact HQ1.out), hide (by rw [HX2.out]; exact HQ2.out), hide (LS.b hSn)⟩
            refine consL 4 rfl (fun K hK => ?_) AllReadyH.nil
            focus
              go_simp
              refine hK.out _ _ ?_ (fun hD3 => ?_)
              · (try dsimp only); first | assumption | exact hSof _ (zbD HB.out)
              clear hK K hD2; try simp only [Act.put, zl, z0, z1]
              refine wpAnyH_ready (rs := [1]) (by kernel_rfl) (by simp) ?_; refine consL 1 rfl (fun K hK => ?_) AllReadyH.nil
              (go_simp; go_at_call 48; with_reducible refine (refSwapped_any won _).mono ?_; rintro e W ⟨rfl, hb⟩; have hSn : (LS w w2 A n c g p) W := hSof _ (zbT (LS.b hD3) hb (LS.b hD3).size); (try dsimp only at hSn); (try replace HQ0 := bkT hb HQ0); (try replace HQ1 := bkT hb HQ1); (try replace HQ2 := bkT hb HQ2); clear hb; (try clear c00 c01 c10 c11 c20 c21); obtain ⟨c00, c01⟩ := cel2 HQ0; obtain ⟨c10, c11⟩ := cel2 HQ1; obtain ⟨c20, c21⟩ := cel2 HQ2)
              refine hK.out _ _ ?_ (fun hD4 => ?_)
              · (try dsimp only); first | assumption | exact hSof _ (zbD HB.out)
              clear hK K hD3; try simp only [Act.put, zl, z0, z1]
              refine wpAnyH_ready (rs := [3]) (by kernel_rfl) (by simp) ?_; refine consL 3 rfl (fun K hK => ?_) AllReadyH.nil
              (go_simp; go_at_call 48; with_reducible refine (refSwapped_any g _).mono ?_; rintro e W ⟨rfl, hb⟩; have hSn : (LS w w2 A n c g p) W := hSof _ (zbT (LS.b hD4) hb (LS.b hD4).size); (try dsimp only at hSn); (try replace HQ0 := bkT hb HQ0); (try replace HQ1 := bkT hb HQ1); (try replace HQ2 := bkT hb HQ2); clear hb; (try clear c00 c01 c10 c11 c20 c21); obtain ⟨c00, c01⟩ := cel2 HQ0; obtain ⟨c10, c11⟩ := cel2 HQ1; obtain ⟨c20, c21⟩ := cel2 HQ2)
              refine hK.out _ _ ?_ (fun hD5 => ?_)
              · (try dsimp only); first | assumption | exact hSof _ (zbD HB.out)
              clear hK K hD4; try simp only [Act.put, zl, z0, z1]
              refine wpAnyH_ready (rs := [5]) (by kernel_rfl) (by simp) ?_; refine consL 5 rfl (fun K hK => ?_) AllReadyH.nil
              (go_simp; go_at_call 48; with_reducible refine (refSwapped_any p _).mono ?_; rintro e W ⟨rfl, hb⟩; have hSn : (LS w w2 A n c g p) W := hSof _ (zbT (LS.b hD5) hb (LS.b hD5).size); (try dsimp only at hSn); (try replace HQ0 := bkT hb HQ0); (try replace HQ1 := bkT hb HQ1); (try replace HQ2 := bkT hb HQ2); clear hb; (try clear c00 c01 c10 c11 c20 c21); obtain ⟨c00, c01⟩ := cel2 HQ0; obtain ⟨c10, c11⟩ := cel2 HQ1; obtain ⟨c20, c21⟩ := cel2 HQ2)
              refine hK.out _ _ ?_ (fun hD6 => ?_)
              · (try dsimp only); first | assumption | exact hSof _ (zbD HB.out)
              clear hK K hD5; try simp only [Act.put, zl, z0, z1]
              refine wpAnyH_ready (rs := [6]) (by kernel_rfl) (by simp) ?_; refine consL 6 rfl (fun K hK => ?_) AllReadyH.nil
              (refine step_store_row rfl 32 (.tmp 10) (.tmp 44) rfl q0 #[.int .i64 won.B, .int .i64 won.A] rfl rfl 32 _ HQ0.out (by kernel_rfl) rfl (by simp [Value.oneCell']) ?_; refine capRow HQ0.out (fun W hQ hgr hB => ?_); have hSn : (LS w w2 A n c g p) W := hSof _ (hB _ _ (LS.b hD6) L0.out); (try dsimp only at hSn); replace HQ1 := bkN hgr D01.out.symm HQ1; replace HQ2 := bkN hgr D02.out.symm HQ2; have HQ0 := hide hQ; clear hQ hgr hB)
              refine hK.out _ _ ?_ (fun hD7 => ?_)
              · (try dsimp only); first | assumption | exact hSof _ (zbD HB.out)
              clear hK K hD6; try simp only [Act.put, zl, z0, z1]
              refine wpAnyH_ready (rs := [7]) (by kernel_rfl) (by simp) ?_; refine consL 7 rfl (fun K hK => ?_) AllReadyH.nil
              (refine step_store_row rfl 32 (.tmp 11) (.tmp 46) rfl q1 #[.int .i64 g.B, .int .i64 g.A] rfl rfl 32 _ HQ1.out (by kernel_rfl) rfl (by simp [Value.oneCell']) ?_; refine capRow HQ1.out (fun W hQ hgr hB => ?_); have hSn : (LS w w2 A n c g p) W := hSof _ (hB _ _ (LS.b hD7) L1.out); (try dsimp only at hSn); replace HQ0 := bkN hgr D01.out HQ0; replace HQ2 := bkN hgr D12.out.symm HQ2; have HQ1 := hide hQ; clear hQ hgr hB)
              refine hK.out _ _ ?_ (fun hD8 => ?_)
              · (try dsimp only); first | assumption | exact hSof _ (zbD HB.out)
              clear hK K hD7; try simp only [Act.put, zl, z0, z1]
              refine wpAnyH_ready (rs := [8]) (by kernel_rfl) (by simp) ?_; refine consL 8 rfl (fun K hK => ?_) AllReadyH.nil
              (refine step_store_row rfl 32 (.tmp 12) (.tmp 48) rfl q2 #[.int .i64 p.B, .int .i64 p.A] rfl rfl 32 _ HQ2.out (by kernel_rfl) rfl (by simp [Value.oneCell']) ?_; refine capRow HQ2.out (fun W hQ hgr hB => ?_); have hSn : (LS w w2 A n c g p) W := hSof _ (hB _ _ (LS.b hD8) L2.out); (try dsimp only at hSn); replace HQ0 := bkN hgr D02.out HQ0; replace HQ1 := bkN hgr D12.out HQ1; have HQ2 := hide hQ; clear hQ hgr hB)
              refine hK.out _ _ ?_ (fun hD9 => ?_)
              · (try dsimp only); first | assumption | exact hSof _ (zbD HB.out)
              clear hK K hD8; try simp only [Act.put, zl, z0, z1]
              refine wpAnyH_done (by kernel_rfl) ?_ _
              (try dsimp only [Act.put, List.getElem_toArray, List.getElem_cons_succ, List.getElem_cons_zero])
              (try simp only [zl, z0, z1])
              go_wp2_with fail
              go_meet
              case rel => exact ⟨hide (by rw [HX0.out]; exact HQ0.out), hide (by rw [HX1.out]; exact HQ1.out), hide (by rw [HX2.out]; exact HQ2.out), hide (LS.b hSn)⟩
          refine consL 4 rfl (fun K hK => ?_) AllReadyH.nil
          focus
            go_simp
            refine hK.out _ _ ?_ (fun hD2 => ?_)
            · (try dsimp only); first | assumption | exact hSof _ (zbD HB.out)
            clear hK K hD1; try simp only [Act.put, zl, z0, z1]
            refine wpAnyH_ready (rs := [1, 2]) (by kernel_rfl) (by simp) ?_; refine consL 1 rfl (fun K hK => ?_) ?_
            · skip
              (go_simp; go_at_call 48; with_reducible refine (refSwapped_any won _).mono ?_; rintro e W ⟨rfl, hb⟩; have hSn : (LS w w2 A n c g p) W := hSof _ (zbT (LS.b hD2) hb (LS.b hD2).size); (try dsimp only at hSn); (try replace HQ0 := bkT hb HQ0); (try replace HQ1 := bkT hb HQ1); (try replace HQ2 := bkT hb HQ2); clear hb; (try clear c00 c01 c10 c11 c20 c21); obtain ⟨c00, c01⟩ := cel2 HQ0; obtain ⟨c10, c11⟩ := cel2 HQ1; obtain ⟨c20, c21⟩ := cel2 HQ2)
              refine hK.out _ _ ?_ (fun hD3 => ?_)
              · (try dsimp only); first | assumption | exact hSof _ (zbD HB.out)
              clear hK K hD2; try simp only [Act.put, zl, z0, z1]
              refine wpAnyH_ready (rs := [2]) (by kernel_rfl) (by simp) ?_; refine consL 2 rfl (fun K hK => ?_) AllReadyH.nil; go_simp
              refine hK.out _ _ ?_ (fun hD4 => ?_)
              · (try dsimp only); first | assumption | exact hSof _ (zbD HB.out)
              clear hK K hD3; try simp only [Act.put, zl, z0, z1]
              refine wpAnyH_ready (rs := [3]) (by kernel_rfl) (by simp) ?_; refine consL 3 rfl (fun K hK => ?_) AllReadyH.nil
              (go_simp; go_at_call 48; with_reducible refine (refSwapped_any g _).mono ?_; rintro e W ⟨rfl, hb⟩; have hSn : (LS w w2 A n c g p) W := hSof _ (zbT (LS.b hD4) hb (LS.b hD4).size); (try dsimp only at hSn); (try replace HQ0 := bkT hb HQ0); (try replace HQ1 := bkT hb HQ1); (try replace HQ2 := bkT hb HQ2); clear hb; (try clear c00 c01 c10 c11 c20 c21); obtain ⟨c00, c01⟩ := cel2 HQ0; obtain ⟨c10, c11⟩ := cel2 HQ1; obtain ⟨c20, c21⟩ := cel2 HQ2)
              refine hK.out _ _ ?_ (fun hD5 => ?_)
              · (try dsimp only); first | assumption | exact hSof _ (zbD HB.out)
              clear hK K hD4; try simp only [Act.put, zl, z0, z1]
              refine wpAnyH_ready (rs := [5]) (by kernel_rfl) (by simp) ?_; refine consL 5 rfl (fun K hK => ?_) AllReadyH.nil
              (go_simp; go_at_call 48; with_reducible refine (refSwapped_any p _).mono ?_; rintro e W ⟨rfl, hb⟩; have hSn : (LS w w2 A n c g p) W := hSof _ (zbT (LS.b hD5) hb (LS.b hD5).size); (try dsimp only at hSn); (try replace HQ0 := bkT hb HQ0); (try replace HQ1 := bkT hb HQ1); (try replace HQ2 := bkT hb HQ2); clear hb; (try clear c00 c01 c10 c11 c20 c21); obtain ⟨c00, c01⟩ := cel2 HQ0; obtain ⟨c10, c11⟩ := cel2 HQ1; obtain ⟨c20, c21⟩ := cel2 HQ2)
              refine hK.out _ _ ?_ (fun hD6 => ?_)
              · (try dsimp only); first | assumption | exact hSof _ (zbD HB.out)
              clear hK K hD5; try simp only [Act.put, zl, z0, z1]
              refine wpAnyH_ready (rs := [6]) (by kernel_rfl) (by simp) ?_; refine consL 6 rfl (fun K hK => ?_) AllReadyH.nil
              (refine step_store_row rfl 32 (.tmp 10) (.tmp 44) rfl q0 #[.int .i64 won.B, .int .i64 won.A] rfl rfl 32 _ HQ0.out (by kernel_rfl) rfl (by simp [Value.oneCell']) ?_; refine capRow HQ0.out (fun W hQ hgr hB => ?_); have hSn : (LS w w2 A n c g p) W := hSof _ (hB _ _ (LS.b hD6) L0.out); (try dsimp only at hSn); replace HQ1 := bkN hgr D01.out.symm HQ1; replace HQ2 := bkN hgr D02.out.symm HQ2; have HQ0 := hide hQ; clear hQ hgr hB)
              refine hK.out _ _ ?_ (fun hD7 => ?_)
              · (try dsimp only); first | assumption | exact hSof _ (zbD HB.out)
              clear hK K hD6; try simp only [Act.put, zl, z0, z1]
              refine wpAnyH_ready (rs := [7]) (by kernel_rfl) (by simp) ?_; refine consL 7 rfl (fun K hK => ?_) AllReadyH.nil
              (refine step_store_row rfl 32 (.tmp 11) (.tmp 46) rfl q1 #[.int .i64 g.B, .int .i64 g.A] rfl rfl 32 _ HQ1.out (by kernel_rfl) rfl (by simp [Value.oneCell']) ?_; refine capRow HQ1.out (fun W hQ hgr hB => ?_); have hSn : (LS w w2 A n c g p) W := hSof _ (hB _ _ (LS.b hD7) L1.out); (try dsimp only at hSn); replace HQ0 := bkN hgr D01.out HQ0; replace HQ2 := bkN hgr D12.out.symm HQ2; have HQ1 := hide hQ; clear hQ hgr hB)
              refine hK.out _ _ ?_ (fun hD8 => ?_)
              · (try dsimp only); first | assumption | exact hSof _ (zbD HB.out)
              clear hK K hD7; try simp only [Act.put, zl, z0, z1]
              refine wpAnyH_ready (rs := [8]) (by kernel_rfl) (by simp) ?_; refine consL 8 rfl (fun K hK => ?_) AllReadyH.nil
              (refine step_store_row rfl 32 (.tmp 12) (.tmp 48) rfl q2 #[.int .i64 p.B, .int .i64 p.A] rfl rfl 32 _ HQ2.out (by kernel_rfl) rfl (by simp [Value.oneCell']) ?_; refine capRow HQ2.out (fun W hQ hgr hB => ?_); have hSn : (LS w w2 A n c g p) W := hSof _ (hB _ _ (LS.b hD8) L2.out); (try dsimp only at hSn); replace HQ0 := bkN hgr D02.out HQ0; replace HQ1 := bkN hgr D12.out HQ1; have HQ2 := hide hQ; clear hQ hgr hB)
              refine hK.out _ _ ?_ (fun hD9 => ?_)
              · (try dsimp only); first | assumption | exact hSof _ (zbD HB.out)
              clear hK K hD8; try simp only [Act.put, zl, z0, z1]
              refine wpAnyH_done (by kernel_rfl) ?_ _
              (try dsimp only [Act.put, List.getElem_toArray, List.getElem_cons_succ, List.getElem_cons_zero])
              (try simp only [zl, z0, z1])
              go_wp2_with fail
              go_meet
              case rel => exact ⟨hide (by rw [HX0.out]; exact HQ0.out), hide (by rw [HX1.out]; exact HQ1.out), hide (by rw [HX2.out]; exact HQ2.out), hide (LS.b hSn)⟩
            refine consL 2 rfl (fun K hK => ?_) AllReadyH.nil
            focus
              go_simp
              refine hK.out _ _ ?_ (fun hD3 => ?_)
              · (try dsimp only); first | assumption | exact hSof _ (zbD HB.out)
              clear hK K hD2; try simp only [Act.put, zl, z0, z1]
              refine wpAnyH_ready (rs := [1]) (by kernel_rfl) (by simp) ?_; refine consL 1 rfl (fun K hK => ?_) AllReadyH.nil
              (go_simp; go_at_call 48; with_reducible refine (refSwapped_any won _).mono ?_; rintro e W ⟨rfl, hb⟩; have hSn : (LS w w2 A n c g p) W := hSof _ (zbT (LS.b hD3) hb (LS.b hD3).size); (try dsimp only at hSn); (try replace HQ0 := bkT hb HQ0); (try replace HQ1 := bkT hb HQ1); (try replace HQ2 := bkT hb HQ2); clear hb; (try clear c00 c01 c10 c11 c20 c21); obtain ⟨c00, c01⟩ := cel2 HQ0; obtain ⟨c10, c11⟩ := cel2 HQ1; obtain ⟨c20, c21⟩ := cel2 HQ2)
              refine hK.out _ _ ?_ (fun hD4 => ?_)
              · (try dsimp only); first | assumption | exact hSof _ (zbD HB.out)
              clear hK K hD3; try simp only [Act.put, zl, z0, z1]
              refine wpAnyH_ready (rs := [3]) (by kernel_rfl) (by simp) ?_; refine consL 3 rfl (fun K hK => ?_) AllReadyH.nil
              (go_simp; go_at_call 48; with_reducible refine (refSwapped_any g _).mono ?_; rintro e W ⟨rfl, hb⟩; have hSn : (LS w w2 A n c g p) W := hSof _ (zbT (LS.b hD4) hb (LS.b hD4).size); (try dsimp only at hSn); (try replace HQ0 := bkT hb HQ0); (try replace HQ1 := bkT hb HQ1); (try replace HQ2 := bkT hb HQ2); clear hb; (try clear c00 c01 c10 c11 c20 c21); obtain ⟨c00, c01⟩ := cel2 HQ0; obtain ⟨c10, c11⟩ := cel2 HQ1; obtain ⟨c20, c21⟩ := cel2 HQ2)
              refine hK.out _ _ ?_ (fun hD5 => ?_)
              · (try dsimp only); first | assumption | exact hSof _ (zbD HB.out)
              clear hK K hD4; try simp only [Act.put, zl, z0, z1]
              refine wpAnyH_ready (rs := [5]) (by kernel_rfl) (by simp) ?_; refine consL 5 rfl (fun K hK => ?_) AllReadyH.nil
              (go_simp; go_at_call 48; with_reducible refine (refSwapped_any p _).mono ?_; rintro e W ⟨rfl, hb⟩; have hSn : (LS w w2 A n c g p) W := hSof _ (zbT (LS.b hD5) hb (LS.b hD5).size); (try dsimp only at hSn); (try replace HQ0 := bkT hb HQ0); (try replace HQ1 := bkT hb HQ1); (try replace HQ2 := bkT hb HQ2); clear hb; (try clear c00 c01 c10 c11 c20 c21); obtain ⟨c00, c01⟩ := cel2 HQ0; obtain ⟨c10, c11⟩ := cel2 HQ1; obtain ⟨c20, c21⟩ := cel2 HQ2)
              refine hK.out _ _ ?_ (fun hD6 => ?_)
              · (try dsimp only); first | assumption | exact hSof _ (zbD HB.out)
              clear hK K hD5; try simp only [Act.put, zl, z0, z1]
              refine wpAnyH_ready (rs := [6]) (by kernel_rfl) (by simp) ?_; refine consL 6 rfl (fun K hK => ?_) AllReadyH.nil
              (refine step_store_row rfl 32 (.tmp 10) (.tmp 44) rfl q0 #[.int .i64 won.B, .int .i64 won.A] rfl rfl 32 _ HQ0.out (by kernel_rfl) rfl (by simp [Value.oneCell']) ?_; refine capRow HQ0.out (fun W hQ hgr hB => ?_); have hSn : (LS w w2 A n c g p) W := hSof _ (hB _ _ (LS.b hD6) L0.out); (try dsimp only at hSn); replace HQ1 := bkN hgr D01.out.symm HQ1; replace HQ2 := bkN hgr D02.out.symm HQ2; have HQ0 := hide hQ; clear hQ hgr hB)
              refine hK.out _ _ ?_ (fun hD7 => ?_)
              · (try dsimp only); first | assumption | exact hSof _ (zbD HB.out)
              clear hK K hD6; try simp only [Act.put, zl, z0, z1]
              refine wpAnyH_ready (rs := [7]) (by kernel_rfl) (by simp) ?_; refine consL 7 rfl (fun K hK => ?_) AllReadyH.nil
              (refine step_store_row rfl 32 (.tmp 11) (.tmp 46) rfl q1 #[.int .i64 g.B, .int .i64 g.A] rfl rfl 32 _ HQ1.out (by kernel_rfl) rfl (by simp [Value.oneCell']) ?_; refine capRow HQ1.out (fun W hQ hgr hB => ?_); have hSn : (LS w w2 A n c g p) W := hSof _ (hB _ _ (LS.b hD7) L1.out); (try dsimp only at hSn); replace HQ0 := bkN hgr D01.out HQ0; replace HQ2 := bkN hgr D12.out.symm HQ2; have HQ1 := hide hQ; clear hQ hgr hB)
              refine hK.out _ _ ?_ (fun hD8 => ?_)
              · (try dsimp only); first | assumption | exact hSof _ (zbD HB.out)
              clear hK K hD7; try simp only [Act.put, zl, z0, z1]
              refine wpAnyH_ready (rs := [8]) (by kernel_rfl) (by simp) ?_; refine consL 8 rfl (fun K hK => ?_) AllReadyH.nil
              (refine step_store_row rfl 32 (.tmp 12) (.tmp 48) rfl q2 #[.int .i64 p.B, .int .i64 p.A] rfl rfl 32 _ HQ2.out (by kernel_rfl) rfl (by simp [Value.oneCell']) ?_; refine capRow HQ2.out (fun W hQ hgr hB => ?_); have hSn : (LS w w2 A n c g p) W := hSof _ (hB _ _ (LS.b hD8) L2.out); (try dsimp only at hSn); replace HQ0 := bkN hgr D02.out HQ0; replace HQ1 := bkN hgr D12.out HQ1; have HQ2 := hide hQ; clear hQ hgr hB)
              refine hK.out _ _ ?_ (fun hD9 => ?_)
              · (try dsimp only); first | assumption | exact hSof _ (zbD HB.out)
              clear hK K hD8; try simp only [Act.put, zl, z0, z1]
              refine wpAnyH_done (by kernel_rfl) ?_ _
              (try dsimp only [Act.put, List.getElem_toArray, List.getElem_cons_succ, List.getElem_cons_zero])
              (try simp only [zl, z0, z1])
              go_wp2_with fail
              go_meet
              case rel => exact ⟨hide (by rw [HX0.out]; exact HQ0.out), hide (by rw [HX1.out]; exact HQ1.out), hide (by rw [HX2.out]; exact HQ2.out), hide (LS.b hSn)⟩
        refine consL 2 rfl (fun K hK => ?_) ?_
        · skip
          go_simp
          refine hK.out _ _ ?_ (fun hD1 => ?_)
          · (try dsimp only); first | assumption | exact hSof _ (zbD HB.out)
          clear hK K hD0; try simp only [Act.put, zl, z0, z1]
          refine wpAnyH_ready (rs := [0, 4]) (by kernel_rfl) (by simp) ?_; refine consL 0 rfl (fun K hK => ?_) ?_
          · skip
            go_simp
            refine hK.out _ _ ?_ (fun hD2 => ?_)
            · (try dsimp only); first | assumption | exact hSof _ (zbD HB.out)
            clear hK K hD1; try simp only [Act.put, zl, z0, z1]
            refine wpAnyH_ready (rs := [1, 4]) (by kernel_rfl) (by simp) ?_; refine consL 1 rfl (fun K hK => ?_) ?_
            · skip
              (go_simp; go_at_call 48; with_reducible refine (refSwapped_any won _).mono ?_; rintro e W ⟨rfl, hb⟩; have hSn : (LS w w2 A n c g p) W := hSof _ (zbT (LS.b hD2) hb (LS.b hD2).size); (try dsimp only at hSn); (try replace HQ0 := bkT hb HQ0); (try replace HQ1 := bkT hb HQ1); (try replace HQ2 := bkT hb HQ2); clear hb; (try clear c00 c01 c10 c11 c20 c21); obtain ⟨c00, c01⟩ := cel2 HQ0; obtain ⟨c10, c11⟩ := cel2 HQ1; obtain ⟨c20, c21⟩ := cel2 HQ2)
              refine hK.out _ _ ?_ (fun hD3 => ?_)
              · (try dsimp only); first | assumption | exact hSof _ (zbD HB.out)
              clear hK K hD2; try simp only [Act.put, zl, z0, z1]
              refine wpAnyH_ready (rs := [3, 4]) (by kernel_rfl) (by simp) ?_; refine consL 3 rfl (fun K hK => ?_) ?_
              · skip
                (go_simp; go_at_call 48; with_reducible refine (refSwapped_any g _).mono ?_; rintro e W ⟨rfl, hb⟩; have hSn : (LS w w2 A n c g p) W := hSof _ (zbT (LS.b hD3) hb (LS.b hD3).size); (try dsimp only at hSn); (try replace HQ0 := bkT hb HQ0); (try replace HQ1 := bkT hb HQ1); (try replace HQ2 := bkT hb HQ2); clear hb; (try clear c00 c01 c10 c11 c20 c21); obtain ⟨c00, c01⟩ := cel2 HQ0; obtain ⟨c10, c11⟩ := cel2 HQ1; obtain ⟨c20, c21⟩ := cel2 HQ2)
                refine hK.out _ _ ?_ (fun hD4 => ?_)
                · (try dsimp only); first | assumption | exact hSof _ (zbD HB.out)
                clear hK K hD3; try simp only [Act.put, zl, z0, z1]
                refine wpAnyH_ready (rs := [4]) (by kernel_rfl) (by simp) ?_; refine consL 4 rfl (fun K hK => ?_) AllReadyH.nil; go_simp
                refine hK.out _ _ ?_ (fun hD5 => ?_)
                · (try dsimp only); first | assumption | exact hSof _ (zbD HB.out)
                clear hK K hD4; try simp only [Act.put, zl, z0, z1]
                refine wpAnyH_ready (rs := [5]) (by kernel_rfl) (by simp) ?_; refine consL 5 rfl (fun K hK => ?_) AllReadyH.nil
                (go_simp; go_at_call 48; with_reducible refine (refSwapped_any p _).mono ?_; rintro e W ⟨rfl, hb⟩; have hSn : (LS w w2 A n c g p) W := hSof _ (zbT (LS.b hD5) hb (LS.b hD5).size); (try dsimp only at hSn); (try replace HQ0 := bkT hb HQ0); (try replace HQ1 := bkT hb HQ1); (try replace HQ2 := bkT hb HQ2); clear hb; (try clear c00 c01 c10 c11 c20 c21); obtain ⟨c00, c01⟩ := cel2 HQ0; obtain ⟨c10, c11⟩ := cel2 HQ1; obtain ⟨c20, c21⟩ := cel2 HQ2)
                refine hK.out _ _ ?_ (fun hD6 => ?_)
                · (try dsimp only); first | assumption | exact hSof _ (zbD HB.out)
                clear hK K hD5; try simp only [Act.put, zl, z0, z1]
                refine wpAnyH_ready (rs := [6]) (by kernel_rfl) (by simp) ?_; refine consL 6 rfl (fun K hK => ?_) AllReadyH.nil
                (refine step_store_row rfl 32 (.tmp 10) (.tmp 44) rfl q0 #[.int .i64 won.B, .int .i64 won.A] rfl rfl 32 _ HQ0.out (by kernel_rfl) rfl (by simp [Value.oneCell']) ?_; refine capRow HQ0.out (fun W hQ hgr hB => ?_); have hSn : (LS w w2 A n c g p) W := hSof _ (hB _ _ (LS.b hD6) L0.out); (try dsimp only at hSn); replace HQ1 := bkN hgr D01.out.symm HQ1; replace HQ2 := bkN hgr D02.out.symm HQ2; have HQ0 := hide hQ; clear hQ hgr hB)
                refine hK.out _ _ ?_ (fun hD7 => ?_)
                · (try dsimp only); first | assumption | exact hSof _ (zbD HB.out)
                clear hK K hD6; try simp only [Act.put, zl, z0, z1]
                refine wpAnyH_ready (rs := [7]) (by kernel_rfl) (by simp) ?_; refine consL 7 rfl (fun K hK => ?_) AllReadyH.nil
                (refine step_store_row rfl 32 (.tmp 11) (.tmp 46) rfl q1 #[.int .i64 g.B, .int .i64 g.A] rfl rfl 32 _ HQ1.out (by kernel_rfl) rfl (by simp [Value.oneCell']) ?_; refine capRow HQ1.out (fun W hQ hgr hB => ?_); have hSn : (LS w w2 A n c g p) W := hSof _ (hB _ _ (LS.b hD7) L1.out); (try dsimp only at hSn); replace HQ0 := bkN hgr D01.out HQ0; replace HQ2 := bkN hgr D12.out.symm HQ2; have HQ1 := hide hQ; clear hQ hgr hB)
                refine hK.out _ _ ?_ (fun hD8 => ?_)
                · (try dsimp only); first | assumption | exact hSof _ (zbD HB.out)
                clear hK K hD7; try simp only [Act.put, zl, z0, z1]
                refine wpAnyH_ready (rs := [8]) (by kernel_rfl) (by simp) ?_; refine consL 8 rfl (fun K hK => ?_) AllReadyH.nil
                (refine step_store_row rfl 32 (.tmp 12) (.tmp 48) rfl q2 #[.int .i64 p.B, .int .i64 p.A] rfl rfl 32 _ HQ2.out (by kernel_rfl) rfl (by simp [Value.oneCell']) ?_; refine capRow HQ2.out (fun W hQ hgr hB => ?_); have hSn : (LS w w2 A n c g p) W := hSof _ (hB _ _ (LS.b hD8) L2.out); (try dsimp only at hSn); replace HQ0 := bkN hgr D02.out HQ0; replace HQ1 := bkN hgr D12.out HQ1; have HQ2 := hide hQ; clear hQ hgr hB)
                refine hK.out _ _ ?_ (fun hD9 => ?_)
                · (try dsimp only); first | assumption | exact hSof _ (zbD HB.out)
                clear hK K hD8; try simp only [Act.put, zl, z0, z1]
                refine wpAnyH_done (by kernel_rfl) ?_ _
                (try dsimp only [Act.put, List.getElem_toArray, List.getElem_cons_succ, List.getElem_cons_zero])
                (try simp only [zl, z0, z1])
                go_wp2_with fail
                go_meet
                case rel => exact ⟨hide (by rw [HX0.out]; exact HQ0.out), hide (by rw [HX1.out]; exact HQ1.out), hide (by rw [HX2.out]; exact HQ2.out), hide (LS.b hSn)⟩
              refine consL 4 rfl (fun K hK => ?_) AllReadyH.nil
              focus
                go_simp
                refine hK.out _ _ ?_ (fun hD4 => ?_)
                · (try dsimp only); first | assumption | exact hSof _ (zbD HB.out)
                clear hK K hD3; try simp only [Act.put, zl, z0, z1]
                refine wpAnyH_ready (rs := [3]) (by kernel_rfl) (by simp) ?_; refine consL 3 rfl (fun K hK => ?_) AllReadyH.nil
                (go_simp; go_at_call 48; with_reducible refine (refSwapped_any g _).mono ?_; rintro e W ⟨rfl, hb⟩; have hSn : (LS w w2 A n c g p) W := hSof _ (zbT (LS.b hD4) hb (LS.b hD4).size); (try dsimp only at hSn); (try replace HQ0 := bkT hb HQ0); (try replace HQ1 := bkT hb HQ1); (try replace HQ2 := bkT hb HQ2); clear hb; (try clear c00 c01 c10 c11 c20 c21); obtain ⟨c00, c01⟩ := cel2 HQ0; obtain ⟨c10, c11⟩ := cel2 HQ1; obtain ⟨c20, c21⟩ := cel2 HQ2)
                refine hK.out _ _ ?_ (fun hD5 => ?_)
                · (try dsimp only); first | assumption | exact hSof _ (zbD HB.out)
                clear hK K hD4; try simp only [Act.put, zl, z0, z1]
                refine wpAnyH_ready (rs := [5]) (by kernel_rfl) (by simp) ?_; refine consL 5 rfl (fun K hK => ?_) AllReadyH.nil
                (go_simp; go_at_call 48; with_reducible refine (refSwapped_any p _).mono ?_; rintro e W ⟨rfl, hb⟩; have hSn : (LS w w2 A n c g p) W := hSof _ (zbT (LS.b hD5) hb (LS.b hD5).size); (try dsimp only at hSn); (try replace HQ0 := bkT hb HQ0); (try replace HQ1 := bkT hb HQ1); (try replace HQ2 := bkT hb HQ2); clear hb; (try clear c00 c01 c10 c11 c20 c21); obtain ⟨c00, c01⟩ := cel2 HQ0; obtain ⟨c10, c11⟩ := cel2 HQ1; obtain ⟨c20, c21⟩ := cel2 HQ2)
                refine hK.out _ _ ?_ (fun hD6 => ?_)
                · (try dsimp only); first | assumption | exact hSof _ (zbD HB.out)
                clear hK K hD5; try simp only [Act.put, zl, z0, z1]
                refine wpAnyH_ready (rs := [6]) (by kernel_rfl) (by simp) ?_; refine consL 6 rfl (fun K hK => ?_) AllReadyH.nil
                (refine step_store_row rfl 32 (.tmp 10) (.tmp 44) rfl q0 #[.int .i64 won.B, .int .i64 won.A] rfl rfl 32 _ HQ0.out (by kernel_rfl) rfl (by simp [Value.oneCell']) ?_; refine capRow HQ0.out (fun W hQ hgr hB => ?_); have hSn : (LS w w2 A n c g p) W := hSof _ (hB _ _ (LS.b hD6) L0.out); (try dsimp only at hSn); replace HQ1 := bkN hgr D01.out.symm HQ1; replace HQ2 := bkN hgr D02.out.symm HQ2; have HQ0 := hide hQ; clear hQ hgr hB)
                refine hK.out _ _ ?_ (fun hD7 => ?_)
                · (try dsimp only); first | assumption | exact hSof _ (zbD HB.out)
                clear hK K hD6; try simp only [Act.put, zl, z0, z1]
                refine wpAnyH_ready (rs := [7]) (by kernel_rfl) (by simp) ?_; refine consL 7 rfl (fun K hK => ?_) AllReadyH.nil
                (refine step_store_row rfl 32 (.tmp 11) (.tmp 46) rfl q1 #[.int .i64 g.B, .int .i64 g.A] rfl rfl 32 _ HQ1.out (by kernel_rfl) rfl (by simp [Value.oneCell']) ?_; refine capRow HQ1.out (fun W hQ hgr hB => ?_); have hSn : (LS w w2 A n c g p) W := hSof _ (hB _ _ (LS.b hD7) L1.out); (try dsimp only at hSn); replace HQ0 := bkN hgr D01.out HQ0; replace HQ2 := bkN hgr D12.out.symm HQ2; have HQ1 := hide hQ; clear hQ hgr hB)
                refine hK.out _ _ ?_ (fun hD8 => ?_)
                · (try dsimp only); first | assumption | exact hSof _ (zbD HB.out)
                clear hK K hD7; try simp only [Act.put, zl, z0, z1]
                refine wpAnyH_ready (rs := [8]) (by kernel_rfl) (by simp) ?_; refine consL 8 rfl (fun K hK => ?_) AllReadyH.nil
                (refine step_store_row rfl 32 (.tmp 12) (.tmp 48) rfl q2 #[.int .i64 p.B, .int .i64 p.A] rfl rfl 32 _ HQ2.out (by kernel_rfl) rfl (by simp [Value.oneCell']) ?_; refine capRow HQ2.out (fun W hQ hgr hB => ?_); have hSn : (LS w w2 A n c g p) W := hSof _ (hB _ _ (LS.b hD8) L2.out); (try dsimp only at hSn); replace HQ0 := bkN hgr D02.out HQ0; replace HQ1 := bkN hgr D12.out HQ1; have HQ2 := hide hQ; clear hQ hgr hB)
                refine hK.out _ _ ?_ (fun hD9 => ?_)
                · (try dsimp only); first | assumption | exact hSof _ (zbD HB.out)
                clear hK K hD8; try simp only [Act.put, zl, z0, z1]
                refine wpAnyH_done (by kernel_rfl) ?_ _
                (try dsimp only [Act.put, List.getElem_toArray, List.getElem_cons_succ, List.getElem_cons_zero])
                (try simp only [zl, z0, z1])
                go_wp2_with fail
                go_meet
                case rel => exact ⟨hide (by rw [HX0.out]; exact HQ0.out), hide (by rw [HX1.out]; exact HQ1.out), hide (by rw [HX2.out]; exact HQ2.out), hide (LS.b hSn)⟩
            refine consL 4 rfl (fun K hK => ?_) AllReadyH.nil
            focus
              go_simp
              refine hK.out _ _ ?_ (fun hD3 => ?_)
              · (try dsimp only); first | assumption | exact hSof _ (zbD HB.out)
              clear hK K hD2; try simp only [Act.put, zl, z0, z1]
              refine wpAnyH_ready (rs := [1]) (by kernel_rfl) (by simp) ?_; refine consL 1 rfl (fun K hK => ?_) AllReadyH.nil
              (go_simp; go_at_call 48; with_reducible refine (refSwapped_any won _).mono ?_; rintro e W ⟨rfl, hb⟩; have hSn : (LS w w2 A n c g p) W := hSof _ (zbT (LS.b hD3) hb (LS.b hD3).size); (try dsimp only at hSn); (try replace HQ0 := bkT hb HQ0); (try replace HQ1 := bkT hb HQ1); (try replace HQ2 := bkT hb HQ2); clear hb; (try clear c00 c01 c10 c11 c20 c21); obtain ⟨c00, c01⟩ := cel2 HQ0; obtain ⟨c10, c11⟩ := cel2 HQ1; obtain ⟨c20, c21⟩ := cel2 HQ2)
              refine hK.out _ _ ?_ (fun hD4 => ?_)
              · (try dsimp only); first | assumption | exact hSof _ (zbD HB.out)
              clear hK K hD3; try simp only [Act.put, zl, z0, z1]
              refine wpAnyH_ready (rs := [3]) (by kernel_rfl) (by simp) ?_; refine consL 3 rfl (fun K hK => ?_) AllReadyH.nil
              (go_simp; go_at_call 48; with_reducible refine (refSwapped_any g _).mono ?_; rintro e W ⟨rfl, hb⟩; have hSn : (LS w w2 A n c g p) W := hSof _ (zbT (LS.b hD4) hb (LS.b hD4).size); (try dsimp only at hSn); (try replace HQ0 := bkT hb HQ0); (try replace HQ1 := bkT hb HQ1); (try replace HQ2 := bkT hb HQ2); clear hb; (try clear c00 c01 c10 c11 c20 c21); obtain ⟨c00, c01⟩ := cel2 HQ0; obtain ⟨c10, c11⟩ := cel2 HQ1; obtain ⟨c20, c21⟩ := cel2 HQ2)
              refine hK.out _ _ ?_ (fun hD5 => ?_)
              · (try dsimp only); first | assumption | exact hSof _ (zbD HB.out)
              clear hK K hD4; try simp only [Act.put, zl, z0, z1]
              refine wpAnyH_ready (rs := [5]) (by kernel_rfl) (by simp) ?_; refine consL 5 rfl (fun K hK => ?_) AllReadyH.nil
              (go_simp; go_at_call 48; with_reducible refine (refSwapped_any p _).mono ?_; rintro e W ⟨rfl, hb⟩; have hSn : (LS w w2 A n c g p) W := hSof _ (zbT (LS.b hD5) hb (LS.b hD5).size); (try dsimp only at hSn); (try replace HQ0 := bkT hb HQ0); (try replace HQ1 := bkT hb HQ1); (try replace HQ2 := bkT hb HQ2); clear hb; (try clear c00 c01 c10 c11 c20 c21); obtain ⟨c00, c01⟩ := cel2 HQ0; obtain ⟨c10, c11⟩ := cel2 HQ1; obtain ⟨c20, c21⟩ := cel2 HQ2)
              refine hK.out _ _ ?_ (fun hD6 => ?_)
              · (try dsimp only); first | assumption | exact hSof _ (zbD HB.out)
              clear hK K hD5; try simp only [Act.put, zl, z0, z1]
              refine wpAnyH_ready (rs := [6]) (by kernel_rfl) (by simp) ?_; refine consL 6 rfl (fun K hK => ?_) AllReadyH.nil
              (refine step_store_row rfl 32 (.tmp 10) (.tmp 44) rfl q0 #[.int .i64 won.B, .int .i64 won.A] rfl rfl 32 _ HQ0.out (by kernel_rfl) rfl (by simp [Value.oneCell']) ?_; refine capRow HQ0.out (fun W hQ hgr hB => ?_); have hSn : (LS w w2 A n c g p) W := hSof _ (hB _ _ (LS.b hD6) L0.out); (try dsimp only at hSn); replace HQ1 := bkN hgr D01.out.symm HQ1; replace HQ2 := bkN hgr D02.out.symm HQ2; have HQ0 := hide hQ; clear hQ hgr hB)
              refine hK.out _ _ ?_ (fun hD7 => ?_)
              · (try dsimp only); first | assumption | exact hSof _ (zbD HB.out)
              clear hK K hD6; try simp only [Act.put, zl, z0, z1]
              refine wpAnyH_ready (rs := [7]) (by kernel_rfl) (by simp) ?_; refine consL 7 rfl (fun K hK => ?_) AllReadyH.nil
              (refine step_store_row rfl 32 (.tmp 11) (.tmp 46) rfl q1 #[.int .i64 g.B, .int .i64 g.A] rfl rfl 32 _ HQ1.out (by kernel_rfl) rfl (by simp [Value.oneCell']) ?_; refine capRow HQ1.out (fun W hQ hgr hB => ?_); have hSn : (LS w w2 A n c g p) W := hSof _ (hB _ _ (LS.b hD7) L1.out); (try dsimp only at hSn); replace HQ0 := bkN hgr D01.out HQ0; replace HQ2 := bkN hgr D12.out.symm HQ2; have HQ1 := hide hQ; clear hQ hgr hB)
              refine hK.out _ _ ?_ (fun hD8 => ?_)
              · (try dsimp only); first | assumption | exact hSof _ (zbD HB.out)
              clear hK K hD7; try simp only [Act.put, zl, z0, z1]
              refine wpAnyH_ready (rs := [8]) (by kernel_rfl) (by simp) ?_; refine consL 8 rfl (fun K hK => ?_) AllReadyH.nil
              (refine step_store_row rfl 32 (.tmp 12) (.tmp 48) rfl q2 #[.int .i64 p.B, .int .i64 p.A] rfl rfl 32 _ HQ2.out (by kernel_rfl) rfl (by simp [Value.oneCell']) ?_; refine capRow HQ2.out (fun W hQ hgr hB => ?_); have hSn : (LS w w2 A n c g p) W := hSof _ (hB _ _ (LS.b hD8) L2.out); (try dsimp only at hSn); replace HQ0 := bkN hgr D02.out HQ0; replace HQ1 := bkN hgr D12.out HQ1; have HQ2 := hide hQ; clear hQ hgr hB)
              refine hK.out _ _ ?_ (fun hD9 => ?_)
              · (try dsimp only); first | assumption | exact hSof _ (zbD HB.out)
              clear hK K hD8; try simp only [Act.put, zl, z0, z1]
              refine wpAnyH_done (by kernel_rfl) ?_ _
              (try dsimp only [Act.put, List.getElem_toArray, List.getElem_cons_succ, List.getElem_cons_zero])
              (try simp only [zl, z0, z1])
              go_wp2_with fail
              go_meet
              case rel => exact ⟨hide (by rw [HX0.out]; exact HQ0.out), hide (by rw [HX1.out]; exact HQ1.out), hide (by rw [HX2.out]; exact HQ2.out), hide (LS.b hSn)⟩
          refine consL 4 rfl (fun K hK => ?_) AllReadyH.nil
          focus
            go_simp
            refine hK.out _ _ ?_ (fun hD2 => ?_)
            · (try dsimp only); first | assumption | exact hSof _ (zbD HB.out)
            clear hK K hD1; try simp only [Act.put, zl, z0, z1]
            refine wpAnyH_ready (rs := [0]) (by kernel_rfl) (by simp) ?_; refine consL 0 rfl (fun K hK => ?_) AllReadyH.nil; go_simp
            refine hK.out _ _ ?_ (fun hD3 => ?_)
            · (try dsimp only); first | assumption | exact hSof _ (zbD HB.out)
            clear hK K hD2; try simp only [Act.put, zl, z0, z1]
            refine wpAnyH_ready (rs := [1]) (by kernel_rfl) (by simp) ?_; refine consL 1 rfl (fun K hK => ?_) AllReadyH.nil
            (go_simp; go_at_call 48; with_reducible refine (refSwapped_any won _).mono ?_; rintro e W ⟨rfl, hb⟩; have hSn : (LS w w2 A n c g p) W := hSof _ (zbT (LS.b hD3) hb (LS.b hD3).size); (try dsimp only at hSn); (try replace HQ0 := bkT hb HQ0); (try replace HQ1 := bkT hb HQ1); (try replace HQ2 := bkT hb HQ2); clear hb; (try clear c00 c01 c10 c11 c20 c21); obtain ⟨c00, c01⟩ := cel2 HQ0; obtain ⟨c10, c11⟩ := cel2 HQ1; obtain ⟨c20, c21⟩ := cel2 HQ2)
            refine hK.out _ _ ?_ (fun hD4 => ?_)
            · (try dsimp only); first | assumption | exact hSof _ (zbD HB.out)
            clear hK K hD3; try simp only [Act.put, zl, z0, z1]
            refine wpAnyH_ready (rs := [3]) (by kernel_rfl) (by simp) ?_; refine consL 3 rfl (fun K hK => ?_) AllReadyH.nil
            (go_simp; go_at_call 48; with_reducible refine (refSwapped_any g _).mono ?_; rintro e W ⟨rfl, hb⟩; have hSn : (LS w w2 A n c g p) W := hSof _ (zbT (LS.b hD4) hb (LS.b hD4).size); (try dsimp only at hSn); (try replace HQ0 := bkT hb HQ0); (try replace HQ1 := bkT hb HQ1); (try replace HQ2 := bkT hb HQ2); clear hb; (try clear c00 c01 c10 c11 c20 c21); obtain ⟨c00, c01⟩ := cel2 HQ0; obtain ⟨c10, c11⟩ := cel2 HQ1; obtain ⟨c20, c21⟩ := cel2 HQ2)
            refine hK.out _ _ ?_ (fun hD5 => ?_)
            · (try dsimp only); first | assumption | exact hSof _ (zbD HB.out)
            clear hK K hD4; try simp only [Act.put, zl, z0, z1]
            refine wpAnyH_ready (rs := [5]) (by kernel_rfl) (by simp) ?_; refine consL 5 rfl (fun K hK => ?_) AllReadyH.nil
            (go_simp; go_at_call 48; with_reducible refine (refSwapped_any p _).mono ?_; rintro e W ⟨rfl, hb⟩; have hSn : (LS w w2 A n c g p) W := hSof _ (zbT (LS.b hD5) hb (LS.b hD5).size); (try dsimp only at hSn); (try replace HQ0 := bkT hb HQ0); (try replace HQ1 := bkT hb HQ1); (try replace HQ2 := bkT hb HQ2); clear hb; (try clear c00 c01 c10 c11 c20 c21); obtain ⟨c00, c01⟩ := cel2 HQ0; obtain ⟨c10, c11⟩ := cel2 HQ1; obtain ⟨c20, c21⟩ := cel2 HQ2)
            refine hK.out _ _ ?_ (fun hD6 => ?_)
            · (try dsimp only); first | assumption | exact hSof _ (zbD HB.out)
            clear hK K hD5; try simp only [Act.put, zl, z0, z1]
            refine wpAnyH_ready (rs := [6]) (by kernel_rfl) (by simp) ?_; refine consL 6 rfl (fun K hK => ?_) AllReadyH.nil
            (refine step_store_row rfl 32 (.tmp 10) (.tmp 44) rfl q0 #[.int .i64 won.B, .int .i64 won.A] rfl rfl 32 _ HQ0.out (by kernel_rfl) rfl (by simp [Value.oneCell']) ?_; refine capRow HQ0.out (fun W hQ hgr hB => ?_); have hSn : (LS w w2 A n c g p) W := hSof _ (hB _ _ (LS.b hD6) L0.out); (try dsimp only at hSn); replace HQ1 := bkN hgr D01.out.symm HQ1; replace HQ2 := bkN hgr D02.out.symm HQ2; have HQ0 := hide hQ; clear hQ hgr hB)
            refine hK.out _ _ ?_ (fun hD7 => ?_)
            · (try dsimp only); first | assumption | exact hSof _ (zbD HB.out)
            clear hK K hD6; try simp only [Act.put, zl, z0, z1]
            refine wpAnyH_ready (rs := [7]) (by kernel_rfl) (by simp) ?_; refine consL 7 rfl (fun K hK => ?_) AllReadyH.nil
            (refine step_store_row rfl 32 (.tmp 11) (.tmp 46) rfl q1 #[.int .i64 g.B, .int .i64 g.A] rfl rfl 32 _ HQ1.out (by kernel_rfl) rfl (by simp [Value.oneCell']) ?_; refine capRow HQ1.out (fun W hQ hgr hB => ?_); have hSn : (LS w w2 A n c g p) W := hSof _ (hB _ _ (LS.b hD7) L1.out); (try dsimp only at hSn); replace HQ0 := bkN hgr D01.out HQ0; replace HQ2 := bkN hgr D12.out.symm HQ2; have HQ1 := hide hQ; clear hQ hgr hB)
            refine hK.out _ _ ?_ (fun hD8 => ?_)
            · (try dsimp only); first | assumption | exact hSof _ (zbD HB.out)
            clear hK K hD7; try simp only [Act.put, zl, z0, z1]
            refine wpAnyH_ready (rs := [8]) (by kernel_rfl) (by simp) ?_; refine consL 8 rfl (fun K hK => ?_) AllReadyH.nil
            (refine step_store_row rfl 32 (.tmp 12) (.tmp 48) rfl q2 #[.int .i64 p.B, .int .i64 p.A] rfl rfl 32 _ HQ2.out (by kernel_rfl) rfl (by simp [Value.oneCell']) ?_; refine capRow HQ2.out (fun W hQ hgr hB => ?_); have hSn : (LS w w2 A n c g p) W := hSof _ (hB _ _ (LS.b hD8) L2.out); (try dsimp only at hSn); replace HQ0 := bkN hgr D02.out HQ0; replace HQ1 := bkN hgr D12.out HQ1; have HQ2 := hide hQ; clear hQ hgr hB)
            refine hK.out _ _ ?_ (fun hD9 => ?_)
            · (try dsimp only); first | assumption | exact hSof _ (zbD HB.out)
            clear hK K hD8; try simp only [Act.put, zl, z0, z1]
            refine wpAnyH_done (by kernel_rfl) ?_ _
            (try dsimp only [Act.put, List.getElem_toArray, List.getElem_cons_succ, List.getElem_cons_zero])
            (try simp only [zl, z0, z1])
            go_wp2_with fail
            go_meet
            case rel => exact ⟨hide (by rw [HX0.out]; exact HQ0.out), hide (by rw [HX1.out]; exact HQ1.out), hide (by rw [HX2.out]; exact HQ2.out), hide (LS.b hSn)⟩
        refine consL 4 rfl (fun K hK => ?_) AllReadyH.nil
        focus
          go_simp
          refine hK.out _ _ ?_ (fun hD1 => ?_)
          · (try dsimp only); first | assumption | exact hSof _ (zbD HB.out)
          clear hK K hD0; try simp only [Act.put, zl, z0, z1]
          refine wpAnyH_ready (rs := [0, 2]) (by kernel_rfl) (by simp) ?_; refine consL 0 rfl (fun K hK => ?_) ?_
          · skip
            go_simp
            refine hK.out _ _ ?_ (fun hD2 => ?_)
            · (try dsimp only); first | assumption | exact hSof _ (zbD HB.out)
            clear hK K hD1; try simp only [Act.put, zl, z0, z1]
            refine wpAnyH_ready (rs := [1, 2]) (by kernel_rfl) (by simp) ?_; refine consL 1 rfl (fun K hK => ?_) ?_
            · skip
              (go_simp; go_at_call 48; with_reducible refine (refSwapped_any won _).mono ?_; rintro e W ⟨rfl, hb⟩; have hSn : (LS w w2 A n c g p) W := hSof _ (zbT (LS.b hD2) hb (LS.b hD2).size); (try dsimp only at hSn); (try replace HQ0 := bkT hb HQ0); (try replace HQ1 := bkT hb HQ1); (try replace HQ2 := bkT hb HQ2); clear hb; (try clear c00 c01 c10 c11 c20 c21); obtain ⟨c00, c01⟩ := cel2 HQ0; obtain ⟨c10, c11⟩ := cel2 HQ1; obtain ⟨c20, c21⟩ := cel2 HQ2)
              refine hK.out _ _ ?_ (fun hD3 => ?_)
              · (try dsimp only); first | assumption | exact hSof _ (zbD HB.out)
              clear hK K hD2; try simp only [Act.put, zl, z0, z1]
              refine wpAnyH_ready (rs := [2]) (by kernel_rfl) (by simp) ?_; refine consL 2 rfl (fun K hK => ?_) AllReadyH.nil; go_simp
              refine hK.out _ _ ?_ (fun hD4 => ?_)
              · (try dsimp only); first | assumption | exact hSof _ (zbD HB.out)
              clear hK K hD3; try simp only [Act.put, zl, z0, z1]
              refine wpAnyH_ready (rs := [3]) (by kernel_rfl) (by simp) ?_; refine consL 3 rfl (fun K hK => ?_) AllReadyH.nil
              (go_simp; go_at_call 48; with_reducible refine (refSwapped_any g _).mono ?_; rintro e W ⟨rfl, hb⟩; have hSn : (LS w w2 A n c g p) W := hSof _ (zbT (LS.b hD4) hb (LS.b hD4).size); (try dsimp only at hSn); (try replace HQ0 := bkT hb HQ0); (try replace HQ1 := bkT hb HQ1); (try replace HQ2 := bkT hb HQ2); clear hb; (try clear c00 c01 c10 c11 c20 c21); obtain ⟨c00, c01⟩ := cel2 HQ0; obtain ⟨c10, c11⟩ := cel2 HQ1; obtain ⟨c20, c21⟩ := cel2 HQ2)
              refine hK.out _ _ ?_ (fun hD5 => ?_)
              · (try dsimp only); first | assumption | exact hSof _ (zbD HB.out)
              clear hK K hD4; try simp only [Act.put, zl, z0, z1]
              refine wpAnyH_ready (rs := [5]) (by kernel_rfl) (by simp) ?_; refine consL 5 rfl (fun K hK => ?_) AllReadyH.nil
              (go_simp; go_at_call 48; with_reducible refine (refSwapped_any p _).mono ?_; rintro e W ⟨rfl, hb⟩; have hSn : (LS w w2 A n c g p) W := hSof _ (zbT (LS.b hD5) hb (LS.b hD5).size); (try dsimp only at hSn); (try replace HQ0 := bkT hb HQ0); (try replace HQ1 := bkT hb HQ1); (try replace HQ2 := bkT hb HQ2); clear hb; (try clear c00 c01 c10 c11 c20 c21); obtain ⟨c00, c01⟩ := cel2 HQ0; obtain ⟨c10, c11⟩ := cel2 HQ1; obtain ⟨c20, c21⟩ := cel2 HQ2)
              refine hK.out _ _ ?_ (fun hD6 => ?_)
              · (try dsimp only); first | assumption | exact hSof _ (zbD HB.out)
              clear hK K hD5; try simp only [Act.put, zl, z0, z1]
              refine wpAnyH_ready (rs := [6]) (by kernel_rfl) (by simp) ?_; refine consL 6 rfl (fun K hK => ?_) AllReadyH.nil
              (refine step_store_row rfl 32 (.tmp 10) (.tmp 44) rfl q0 #[.int .i64 won.B, .int .i64 won.A] rfl rfl 32 _ HQ0.out (by kernel_rfl) rfl (by simp [Value.oneCell']) ?_; refine capRow HQ0.out (fun W hQ hgr hB => ?_); have hSn : (LS w w2 A n c g p) W := hSof _ (hB _ _ (LS.b hD6) L0.out); (try dsimp only at hSn); replace HQ1 := bkN hgr D01.out.symm HQ1; replace HQ2 := bkN hgr D02.out.symm HQ2; have HQ0 := hide hQ; clear hQ hgr hB)
              refine hK.out _ _ ?_ (fun hD7 => ?_)
              · (try dsimp only); first | assumption | exact hSof _ (zbD HB.out)
              clear hK K hD6; try simp only [Act.put, zl, z0, z1]
              refine wpAnyH_ready (rs := [7]) (by kernel_rfl) (by simp) ?_; refine consL 7 rfl (fun K hK => ?_) AllReadyH.nil
              (refine step_store_row rfl 32 (.tmp 11) (.tmp 46) rfl q1 #[.int .i64 g.B, .int .i64 g.A] rfl rfl 32 _ HQ1.out (by kernel_rfl) rfl (by simp [Value.oneCell']) ?_; refine capRow HQ1.out (fun W hQ hgr hB => ?_); have hSn : (LS w w2 A n c g p) W := hSof _ (hB _ _ (LS.b hD7) L1.out); (try dsimp only at hSn); replace HQ0 := bkN hgr D01.out HQ0; replace HQ2 := bkN hgr D12.out.symm HQ2; have HQ1 := hide hQ; clear hQ hgr hB)
              refine hK.out _ _ ?_ (fun hD8 => ?_)
              · (try dsimp only); first | assumption | exact hSof _ (zbD HB.out)
              clear hK K hD7; try simp only [Act.put, zl, z0, z1]
              refine wpAnyH_ready (rs := [8]) (by kernel_rfl) (by simp) ?_; refine consL 8 rfl (fun K hK => ?_) AllReadyH.nil
              (refine step_store_row rfl 32 (.tmp 12) (.tmp 48) rfl q2 #[.int .i64 p.B, .int .i64 p.A] rfl rfl 32 _ HQ2.out (by kernel_rfl) rfl (by simp [Value.oneCell']) ?_; refine capRow HQ2.out (fun W hQ hgr hB => ?_); have hSn : (LS w w2 A n c g p) W := hSof _ (hB _ _ (LS.b hD8) L2.out); (try dsimp only at hSn); replace HQ0 := bkN hgr D02.out HQ0; replace HQ1 := bkN hgr D12.out HQ1; have HQ2 := hide hQ; clear hQ hgr hB)
              refine hK.out _ _ ?_ (fun hD9 => ?_)
              · (try dsimp only); first | assumption | exact hSof _ (zbD HB.out)
              clear hK K hD8; try simp only [Act.put, zl, z0, z1]
              refine wpAnyH_done (by kernel_rfl) ?_ _
              (try dsimp only [Act.put, List.getElem_toArray, List.getElem_cons_succ, List.getElem_cons_zero])
              (try simp only [zl, z0, z1])
              go_wp2_with fail
              go_meet
              case rel => exact ⟨hide (by rw [HX0.out]; exact HQ0.out), hide (by rw [HX1.out]; exact HQ1.out), hide (by rw [HX2.out]; exact HQ2.out), hide (LS.b hSn)⟩
            refine consL 2 rfl (fun K hK => ?_) AllReadyH.nil
            focus
              go_simp
              refine hK.out _ _ ?_ (fun hD3 => ?_)
              · (try dsimp only); first | assumption | exact hSof _ (zbD HB.out)
              clear hK K hD2; try simp only [Act.put, zl, z0, z1]
              refine wpAnyH_ready (rs := [1]) (by kernel_rfl) (by simp) ?_; refine consL 1 rfl (fun K hK => ?_) AllReadyH.nil
              (go_simp; go_at_call 48; with_reducible refine (refSwapped_any won _).mono ?_; rintro e W ⟨rfl, hb⟩; have hSn : (LS w w2 A n c g p) W := hSof _ (zbT (LS.b hD3) hb (LS.b hD3).size); (try dsimp only at hSn); (try replace HQ0 := bkT hb HQ0); (try replace HQ1 := bkT hb HQ1); (try replace HQ2 := bkT hb HQ2); clear hb; (try clear c00 c01 c10 c11 c20 c21); obtain ⟨c00, c01⟩ := cel2 HQ0; obtain ⟨c10, c11⟩ := cel2 HQ1; obtain ⟨c20, c21⟩ := cel2 HQ2)
              refine hK.out _ _ ?_ (fun hD4 => ?_)
              · (try dsimp only); first | assumption | exact hSof _ (zbD HB.out)
              clear hK K hD3; try simp only [Act.put, zl, z0, z1]
              refine wpAnyH_ready (rs := [3]) (by kernel_rfl) (by simp) ?_; refine consL 3 rfl (fun K hK => ?_) AllReadyH.nil
              (go_simp; go_at_call 48; with_reducible refine (refSwapped_any g _).mono ?_; rintro e W ⟨rfl, hb⟩; have hSn : (LS w w2 A n c g p) W := hSof _ (zbT (LS.b hD4) hb (LS.b hD4).size); (try dsimp only at hSn); (try replace HQ0 := bkT hb HQ0); (try replace HQ1 := bkT hb HQ1); (try replace HQ2 := bkT hb HQ2); clear hb; (try clear c00 c01 c10 c11 c20 c21); obtain ⟨c00, c01⟩ := cel2 HQ0; obtain ⟨c10, c11⟩ := cel2 HQ1; obtain ⟨c20, c21⟩ := cel2 HQ2)
              refine hK.out _ _ ?_ (fun hD5 => ?_)
              · (try dsimp only); first | assumption | exact hSof _ (zbD HB.out)
              clear hK K hD4; try simp only [Act.put, zl, z0, z1]
              refine wpAnyH_ready (rs := [5]) (by kernel_rfl) (by simp) ?_; refine consL 5 rfl (fun K hK => ?_) AllReadyH.nil
              (go_simp; go_at_call 48; with_reducible refine (refSwapped_any p _).mono ?_; rintro e W ⟨rfl, hb⟩; have hSn : (LS w w2 A n c g p) W := hSof _ (zbT (LS.b hD5) hb (LS.b hD5).size); (try dsimp only at hSn); (try replace HQ0 := bkT hb HQ0); (try replace HQ1 := bkT hb HQ1); (try replace HQ2 := bkT hb HQ2); clear hb; (try clear c00 c01 c10 c11 c20 c21); obtain ⟨c00, c01⟩ := cel2 HQ0; obtain ⟨c10, c11⟩ := cel2 HQ1; obtain ⟨c20, c21⟩ := cel2 HQ2)
              refine hK.out _ _ ?_ (fun hD6 => ?_)
              · (try dsimp only); first | assumption | exact hSof _ (zbD HB.out)
              clear hK K hD5; try simp only [Act.put, zl, z0, z1]
              refine wpAnyH_ready (rs := [6]) (by kernel_rfl) (by simp) ?_; refine consL 6 rfl (fun K hK => ?_) AllReadyH.nil
              (refine step_store_row rfl 32 (.tmp 10) (.tmp 44) rfl q0 #[.int .i64 won.B, .int .i64 won.A] rfl rfl 32 _ HQ0.out (by kernel_rfl) rfl (by simp [Value.oneCell']) ?_; refine capRow HQ0.out (fun W hQ hgr hB => ?_); have hSn : (LS w w2 A n c g p) W := hSof _ (hB _ _ (LS.b hD6) L0.out); (try dsimp only at hSn); replace HQ1 := bkN hgr D01.out.symm HQ1; replace HQ2 := bkN hgr D02.out.symm HQ2; have HQ0 := hide hQ; clear hQ hgr hB)
              refine hK.out _ _ ?_ (fun hD7 => ?_)
              · (try dsimp only); first | assumption | exact hSof _ (zbD HB.out)
              clear hK K hD6; try simp only [Act.put, zl, z0, z1]
              refine wpAnyH_ready (rs := [7]) (by kernel_rfl) (by simp) ?_; refine consL 7 rfl (fun K hK => ?_) AllReadyH.nil
              (refine step_store_row rfl 32 (.tmp 11) (.tmp 46) rfl q1 #[.int .i64 g.B, .int .i64 g.A] rfl rfl 32 _ HQ1.out (by kernel_rfl) rfl (by simp [Value.oneCell']) ?_; refine capRow HQ1.out (fun W hQ hgr hB => ?_); have hSn : (LS w w2 A n c g p) W := hSof _ (hB _ _ (LS.b hD7) L1.out); (try dsimp only at hSn); replace HQ0 := bkN hgr D01.out HQ0; replace HQ2 := bkN hgr D12.out.symm HQ2; have HQ1 := hide hQ; clear hQ hgr hB)
              refine hK.out _ _ ?_ (fun hD8 => ?_)
              · (try dsimp only); first | assumption | exact hSof _ (zbD HB.out)
              clear hK K hD7; try simp only [Act.put, zl, z0, z1]
              refine wpAnyH_ready (rs := [8]) (by kernel_rfl) (by simp) ?_; refine consL 8 rfl (fun K hK => ?_) AllReadyH.nil
              (refine step_store_row rfl 32 (.tmp 12) (.tmp 48) rfl q2 #[.int .i64 p.B, .int .i64 p.A] rfl rfl 32 _ HQ2.out (by kernel_rfl) rfl (by simp [Value.oneCell']) ?_; refine capRow HQ2.out (fun W hQ hgr hB => ?_); have hSn : (LS w w2 A n c g p) W := hSof _ (hB _ _ (LS.b hD8) L2.out); (try dsimp only at hSn); replace HQ0 := bkN hgr D02.out HQ0; replace HQ1 := bkN hgr D12.out HQ1; have HQ2 := hide hQ; clear hQ hgr hB)
              refine hK.out _ _ ?_ (fun hD9 => ?_)
              · (try dsimp only); first | assumption | exact hSof _ (zbD HB.out)
              clear hK K hD8; try simp only [Act.put, zl, z0, z1]
              refine wpAnyH_done (by kernel_rfl) ?_ _
              (try dsimp only [Act.put, List.getElem_toArray, List.getElem_cons_succ, List.getElem_cons_zero])
              (try simp only [zl, z0, z1])
              go_wp2_with fail
              go_meet
              case rel => exact ⟨hide (by rw [HX0.out]; exact HQ0.out), hide (by rw [HX1.out]; exact HQ1.out), hide (by rw [HX2.out]; exact HQ2.out), hide (LS.b hSn)⟩
          refine consL 2 rfl (fun K hK => ?_) AllReadyH.nil
          focus
            go_simp
            refine hK.out _ _ ?_ (fun hD2 => ?_)
            · (try dsimp only); first | assumption | exact hSof _ (zbD HB.out)
            clear hK K hD1; try simp only [Act.put, zl, z0, z1]
            refine wpAnyH_ready (rs := [0]) (by kernel_rfl) (by simp) ?_; refine consL 0 rfl (fun K hK => ?_) AllReadyH.nil; go_simp
            refine hK.out _ _ ?_ (fun hD3 => ?_)
            · (try dsimp only); first | assumption | exact hSof _ (zbD HB.out)
            clear hK K hD2; try simp only [Act.put, zl, z0, z1]
            refine wpAnyH_ready (rs := [1]) (by kernel_rfl) (by simp) ?_; refine consL 1 rfl (fun K hK => ?_) AllReadyH.nil
            (go_simp; go_at_call 48; with_reducible refine (refSwapped_any won _).mono ?_; rintro e W ⟨rfl, hb⟩; have hSn : (LS w w2 A n c g p) W := hSof _ (zbT (LS.b hD3) hb (LS.b hD3).size); (try dsimp only at hSn); (try replace HQ0 := bkT hb HQ0); (try replace HQ1 := bkT hb HQ1); (try replace HQ2 := bkT hb HQ2); clear hb; (try clear c00 c01 c10 c11 c20 c21); obtain ⟨c00, c01⟩ := cel2 HQ0; obtain ⟨c10, c11⟩ := cel2 HQ1; obtain ⟨c20, c21⟩ := cel2 HQ2)
            refine hK.out _ _ ?_ (fun hD4 => ?_)
            · (try dsimp only); first | assumption | exact hSof _ (zbD HB.out)
            clear hK K hD3; try simp only [Act.put, zl, z0, z1]
            refine wpAnyH_ready (rs := [3]) (by kernel_rfl) (by simp) ?_; refine consL 3 rfl (fun K hK => ?_) AllReadyH.nil
            (go_simp; go_at_call 48; with_reducible refine (refSwapped_any g _).mono ?_; rintro e W ⟨rfl, hb⟩; have hSn : (LS w w2 A n c g p) W := hSof _ (zbT (LS.b hD4) hb (LS.b hD4).size); (try dsimp only at hSn); (try replace HQ0 := bkT hb HQ0); (try replace HQ1 := bkT hb HQ1); (try replace HQ2 := bkT hb HQ2); clear hb; (try clear c00 c01 c10 c11 c20 c21); obtain ⟨c00, c01⟩ := cel2 HQ0; obtain ⟨c10, c11⟩ := cel2 HQ1; obtain ⟨c20, c21⟩ := cel2 HQ2)
            refine hK.out _ _ ?_ (fun hD5 => ?_)
            · (try dsimp only); first | assumption | exact hSof _ (zbD HB.out)
            clear hK K hD4; try simp only [Act.put, zl, z0, z1]
            refine wpAnyH_ready (rs := [5]) (by kernel_rfl) (by simp) ?_; refine consL 5 rfl (fun K hK => ?_) AllReadyH.nil
            (go_simp; go_at_call 48; with_reducible refine (refSwapped_any p _).mono ?_; rintro e W ⟨rfl, hb⟩; have hSn : (LS w w2 A n c g p) W := hSof _ (zbT (LS.b hD5) hb (LS.b hD5).size); (try dsimp only at hSn); (try replace HQ0 := bkT hb HQ0); (try replace HQ1 := bkT hb HQ1); (try replace HQ2 := bkT hb HQ2); clear hb; (try clear c00 c01 c10 c11 c20 c21); obtain ⟨c00, c01⟩ := cel2 HQ0; obtain ⟨c10, c11⟩ := cel2 HQ1; obtain ⟨c20, c21⟩ := cel2 HQ2)
            refine hK.out _ _ ?_ (fun hD6 => ?_)
            · (try dsimp only); first | assumption | exact hSof _ (zbD HB.out)
            clear hK K hD5; try simp only [Act.put, zl, z0, z1]
            refine wpAnyH_ready (rs := [6]) (by kernel_rfl) (by simp) ?_; refine consL 6 rfl (fun K hK => ?_) AllReadyH.nil
            (refine step_store_row rfl 32 (.tmp 10) (.tmp 44) rfl q0 #[.int .i64 won.B, .int .i64 won.A] rfl rfl 32 _ HQ0.out (by kernel_rfl) rfl (by simp [Value.oneCell']) ?_; refine capRow HQ0.out (fun W hQ hgr hB => ?_); have hSn : (LS w w2 A n c g p) W := hSof _ (hB _ _ (LS.b hD6) L0.out); (try dsimp only at hSn); replace HQ1 := bkN hgr D01.out.symm HQ1; replace HQ2 := bkN hgr D02.out.symm HQ2; have HQ0 := hide hQ; clear hQ hgr hB)
            refine hK.out _ _ ?_ (fun hD7 => ?_)
            · (try dsimp only); first | assumption | exact hSof _ (zbD HB.out)
            clear hK K hD6; try simp only [Act.put, zl, z0, z1]
            refine wpAnyH_ready (rs := [7]) (by kernel_rfl) (by simp) ?_; refine consL 7 rfl (fun K hK => ?_) AllReadyH.nil
            (refine step_store_row rfl 32 (.tmp 11) (.tmp 46) rfl q1 #[.int .i64 g.B, .int .i64 g.A] rfl rfl 32 _ HQ1.out (by kernel_rfl) rfl (by simp [Value.oneCell']) ?_; refine capRow HQ1.out (fun W hQ hgr hB => ?_); have hSn : (LS w w2 A n c g p) W := hSof _ (hB _ _ (LS.b hD7) L1.out); (try dsimp only at hSn); replace HQ0 := bkN hgr D01.out HQ0; replace HQ2 := bkN hgr D12.out.symm HQ2; have HQ1 := hide hQ; clear hQ hgr hB)
            refine hK.out _ _ ?_ (fun hD8 => ?_)
            · (try dsimp only); first | assumption | exact hSof _ (zbD HB.out)
            clear hK K hD7; try simp only [Act.put, zl, z0, z1]
            refine wpAnyH_ready (rs := [8]) (by kernel_rfl) (by simp) ?_; refine consL 8 rfl (fun K hK => ?_) AllReadyH.nil
            (refine step_store_row rfl 32 (.tmp 12) (.tmp 48) rfl q2 #[.int .i64 p.B, .int .i64 p.A] rfl rfl 32 _ HQ2.out (by kernel_rfl) rfl (by simp [Value.oneCell']) ?_; refine capRow HQ2.out (fun W hQ hgr hB => ?_); have hSn : (LS w w2 A n c g p) W := hSof _ (hB _ _ (LS.b hD8) L2.out); (try dsimp only at hSn); replace HQ0 := bkN hgr D02.out HQ0; replace HQ1 := bkN hgr D12.out HQ1; have HQ2 := hide hQ; clear hQ hgr hB)
            refine hK.out _ _ ?_ (fun hD9 => ?_)
            · (try dsimp only); first | assumption | exact hSof _ (zbD HB.out)
            clear hK K hD8; try simp only [Act.put, zl, z0, z1]
            refine wpAnyH_done (by kernel_rfl) ?_ _
            (try dsimp only [Act.put, List.getElem_toArray, List.getElem_cons_succ, List.getElem_cons_zero])
            (try simp only [zl, z0, z1])
            go_wp2_with fail
            go_meet
            case rel => exact ⟨hide (by rw [HX0.out]; exact HQ0.out), hide (by rw [HX1.out]; exact HQ1.out), hide (by rw [HX2.out]; exact HQ2.out), hide (LS.b hSn)⟩
    case rest =>
      clear HQ0 HQ1 HQ2 HB
      obtain ⟨HQ0, HQ1, HQ2, HB⟩ := hcut
      rename World => w4
      (try clear c00 c01 z0)
      have c00 : w4.cell? ⟨q0, 0, none⟩ = some (.int .i64 X0.A) := (blk_cell HQ0.out 0).trans rfl
      have c01 : w4.cell? ⟨q0, 1, none⟩ = some (.int .i64 X0.B) := (blk_cell HQ0.out 1).trans rfl
      have z0 := blk_lt HQ0.out
      (try clear c10 c11 z1)
      have c10 : w4.cell? ⟨q1, 0, none⟩ = some (.int .i64 X1.A) := (blk_cell HQ1.out 0).trans rfl
      have c11 : w4.cell? ⟨q1, 1, none⟩ = some (.int .i64 X1.B) := (blk_cell HQ1.out 1).trans rfl
      have z1 := blk_lt HQ1.out
      (try clear c20 c21 z2)
      have c20 : w4.cell? ⟨q2, 0, none⟩ = some (.int .i64 X2.A) := (blk_cell HQ2.out 0).trans rfl
      have c21 : w4.cell? ⟨q2, 1, none⟩ = some (.int .i64 X2.B) := (blk_cell HQ2.out 1).trans rfl
      have z2 := blk_lt HQ2.out
      (try clear hS)
      have hS := HSO.out _ HB.out
      (try dsimp only at hS)
      by_cases ha : X0.A = f.sets
      · have hfin := M.least_a HSW.out HSD.out HWN.out (by rw [HX0.out]; exact ha)
        have HV0 := hide (HLV.out.symm.trans hfin.1)
        have HE0 := hide (HLE.out.symm.trans hfin.2)
        clear hfin
        have ha' : (X0.A == f.sets) = true := by simpa using ha
        have HFIN := hide (zbT HBW2.out HB.out HBW2.out.size)
        clear ha
        go_wp2_with fail
        go_ret2
        exact ⟨by rw [HV0.out, HE0.out]; rfl, by first | exact HFIN.out | exact zbD HFIN.out | exact zbD (zbD HFIN.out) | (go_split_ands; (exact kb))⟩
      · have ha' : (X0.A == f.sets) = false := by simpa using ha
        by_cases hb : X0.B = f.sets
        · have hfin := M.least_b HSW.out HSD.out HWN.out (by rw [HX0.out]; exact ha) (by rw [HX0.out]; exact hb)
          have HV0 := hide (HLV.out.symm.trans hfin.1)
          have HE0 := hide (HLE.out.symm.trans hfin.2)
          clear hfin
          have hb' : (X0.B == f.sets) = true := by simpa using hb
          have HFIN := hide (zbT HBW2.out HB.out HBW2.out.size)
          clear ha hb
          go_wp2_with fail
          go_ret2
          exact ⟨by rw [HV0.out, HE0.out]; rfl, by first | exact HFIN.out | exact zbD HFIN.out | exact zbD (zbD HFIN.out) | (go_split_ands; (exact kb))⟩
        · have hb' : (X0.B == f.sets) = false := by simpa using hb
          have hfin := M.least_c HSW.out HSD.out HWN.out (by rw [HX0.out]; exact ha) (by rw [HX0.out]; exact hb)
          rw [HX0.out, HX1.out, HX2.out] at hfin
          obtain ⟨hfv, hfe, xa0, xa1, xb0, xb1⟩ := hfin
          have HV := hide (HLV.out.symm.trans hfv)
          have HE := hide (HLE.out.symm.trans hfe)
          clear hfv hfe HLV HLE
          have HGF1 := hide (show M.fine X1 = true by rw [← HX1.out]; exact fine_sw HGF.out)
          have HPF1 := hide (show M.fine X2 = true by rw [← HX2.out]; exact fine_sw HPF.out)
          have hgb := fine_bd HGF1.out
          have HPB := hide (fine_bd HPF1.out)
          have hv2 := HVV.out.s1
          have hv3 := HVV.out.s0
          obtain ⟨x0, hx0⟩ : ∃ q, X0.A = q := ⟨_, rfl⟩
          obtain ⟨y0, hy0⟩ : ∃ q, X0.B = q := ⟨_, rfl⟩
          have HCO := fun W => hide ((from_costs f HVV.out 5).2 X0.A X0.B W xa0 xa1 xb0 xb1 (by omega))
          have HFA := fun W => hide ((from_costs f HVV.out 6).1 (X0.A + 1) X0.B W (by omega) (by omega) xb0 (by omega) (.inr xb1) (by omega))
          have HFB := fun W => hide ((from_costs f HVV.out 6).1 X0.A (X0.B + 1) W xa0 (by omega) (by omega) (by omega) (.inl xa1) (by omega))
          have HTI := hide (show M.rtied f ps g = M.isTie (M.ofSet f ⟨X0.A, X0.B⟩) X1 by
            rw [rtied_isTie (f := f) HWN.out.symm (fine_bd HGF.out).1]
            rcases HSD.out with e | e
            · subst e
              rw [← HX0.out, ← HX1.out]
              rfl
            · subst e
              rw [← HX0.out, ← HX1.out]
              exact ((congrArg (fun s => M.isTie s (M.swap g)) (M.ofSet_sw f won)).trans (M.isTie_sw _ g)).symm)
          have HTO := hide (show M.rto f ps = (M.ofSet f ⟨X0.A, X0.B⟩).to by
            unfold M.rto
            rw [HWN.out]
            rcases HSD.out with e | e
            · subst e
              rw [← HX0.out]
              rfl
            · subst e
              rw [← HX0.out]
              exact (congrArg M.Fm.to (M.ofSet_sw f won)).symm)
          have HNA := hide (ofSet_noAd f ⟨X0.A, X0.B⟩)
          have HTB := hide (And.intro (HVV.out.ofSet ⟨X0.A, X0.B⟩).o0 (HVV.out.ofSet ⟨X0.A, X0.B⟩).o1)
          have HBD := hide (And.intro (And.intro (M.fromR_bd HVV.out 5 (X0.A + 1) X0.B) (M.fromR_bd HVV.out 5 X0.A (X0.B + 1))) (And.intro (M.fromR_bd HVV.out 6 (X0.A + 1) X0.B) (M.fromR_bd HVV.out 6 X0.A (X0.B + 1))))
          unfold M.leastR M.winR M.loseR M.adR M.aimTo at HV
          obtain ⟨s, hs⟩ : ∃ q, M.ofSet f ⟨X0.A, X0.B⟩ = q := ⟨_, rfl⟩
          rw [hs] at HCO HTI HTO HNA HTB HV
          clear hs
          obtain ⟨tt, htt⟩ : ∃ q, s.to = q := ⟨_, rfl⟩
          obtain ⟨ti, hti⟩ : ∃ q, M.isTie s X1 = q := ⟨_, rfl⟩
          have HST := hide htt
          rw [htt] at HTO HTB HV
          rw [hti] at HTI HV
          rw [← HNA.out] at HV
          clear htt hti
          obtain ⟨wn, hwn5⟩ : ∃ q, M.fromR f 1000000 44 88 5 (X0.A + 1) X0.B = q := ⟨_, rfl⟩
          obtain ⟨ls, hls5⟩ : ∃ q, M.fromR f 1000000 44 88 5 X0.A (X0.B + 1) = q := ⟨_, rfl⟩
          obtain ⟨wz, hwz⟩ : ∃ q, M.fromR f 1000000 44 88 6 (X0.A + 1) X0.B = q := ⟨_, rfl⟩
          obtain ⟨lz, hlz⟩ : ∃ q, M.fromR f 1000000 44 88 6 X0.A (X0.B + 1) = q := ⟨_, rfl⟩
          rw [hwn5, hls5] at HCO
          rw [hwn5, hls5, hwz, hlz] at HBD HV
          rw [hwz] at HFA
          rw [hlz] at HFB
          clear hwn5 hls5 hwz hlz
          obtain ⟨x1, y1⟩ := X1
          dsimp only at hgb HV HQ1
          obtain ⟨x, rfl⟩ : ∃ x : Nat, x1 = (x : Int) := ⟨x1.toNat, by omega⟩
          obtain ⟨y, rfl⟩ : ∃ y : Nat, y1 = (y : Int) := ⟨y1.toNat, by omega⟩
          have hx40 : x ≤ 40 := by omega
          have hy40 : y ≤ 40 := by omega
          clear hgb ha hb
          clear hx0 hy0
          go_upto_region 17 with (first | (go_at_call 49; (with_reducible refine (HCO _).out.mono ?_); rintro e w5 ⟨go, bo, rfl, ht, hb⟩; have HT := hide ht; clear ht; have HQ0 := hide ((hb.block _ (blk_lt HQ0.out)).trans HQ0.out); have HQ1 := hide ((hb.block _ (blk_lt HQ1.out)).trans HQ1.out); have HQ2 := hide ((hb.block _ (blk_lt HQ2.out)).trans HQ2.out); have HB := hide (zbT HB.out hb HB.out.size); clear hb; (try clear c00 c01 z0); have c00 : w5.cell? ⟨q0, 0, none⟩ = some (.int .i64 X0.A) := (blk_cell HQ0.out 0).trans rfl; have c01 : w5.cell? ⟨q0, 1, none⟩ = some (.int .i64 X0.B) := (blk_cell HQ0.out 1).trans rfl; have z0 := blk_lt HQ0.out; (try clear c10 c11 z1); have c10 : w5.cell? ⟨q1, 0, none⟩ = some (.int .i64 (x : Int)) := (blk_cell HQ1.out 0).trans rfl; have c11 : w5.cell? ⟨q1, 1, none⟩ = some (.int .i64 (y : Int)) := (blk_cell HQ1.out 1).trans rfl; have z1 := blk_lt HQ1.out; (try clear c20 c21 z2); have c20 : w5.cell? ⟨q2, 0, none⟩ = some (.int .i64 X2.A) := (blk_cell HQ2.out 0).trans rfl; have c21 : w5.cell? ⟨q2, 1, none⟩ = some (.int .i64 X2.B) := (blk_cell HQ2.out 1).trans rfl; have z2 := blk_lt HQ2.out; (try clear hS); have hS := HSO.out _ HB.out; (try dsimp only at hS)) | (go_at_call 50; with_reducible refine (refTied_any f A n c ps g p _ HVV.out HN.out ((HR.out.below (zbT HBW2.out HB.out HBW2.out.size)).mono (zbT HBW2.out HB.out HBW2.out.size).size) (by omega)).mono ?_; rw [HTI.out, HTO.out]; rintro e w6 ⟨rfl, hb⟩; have HT := hide (HT.out.below hb); have HQ0 := hide ((hb.block _ (blk_lt HQ0.out)).trans HQ0.out); have HQ1 := hide ((hb.block _ (blk_lt HQ1.out)).trans HQ1.out); have HQ2 := hide ((hb.block _ (blk_lt HQ2.out)).trans HQ2.out); have HB := hide (zbT HB.out hb HB.out.size); clear hb; (try clear c00 c01 z0); have c00 : w6.cell? ⟨q0, 0, none⟩ = some (.int .i64 X0.A) := (blk_cell HQ0.out 0).trans rfl; have c01 : w6.cell? ⟨q0, 1, none⟩ = some (.int .i64 X0.B) := (blk_cell HQ0.out 1).trans rfl; have z0 := blk_lt HQ0.out; (try clear c10 c11 z1); have c10 : w6.cell? ⟨q1, 0, none⟩ = some (.int .i64 (x : Int)) := (blk_cell HQ1.out 0).trans rfl; have c11 : w6.cell? ⟨q1, 1, none⟩ = some (.int .i64 (y : Int)) := (blk_cell HQ1.out 1).trans rfl; have z1 := blk_lt HQ1.out; (try clear c20 c21 z2); have c20 : w6.cell? ⟨q2, 0, none⟩ = some (.int .i64 X2.A) := (blk_cell HQ2.out 0).trans rfl; have c21 : w6.cell? ⟨q2, 1, none⟩ = some (.int .i64 X2.B) := (blk_cell HQ2.out 1).trans rfl; have z2 := blk_lt HQ2.out; (try clear hS); have hS := HSO.out _ HB.out; (try dsimp only at hS)))
          have hSof17 : ∀ w', Below w6.heap.size w6 w' → (fun w' => Below w6.heap.size w6 w' ∧ w.heap.size < w'.heap.size ∧ w'.cell? ⟨w.heap.size, 2, none⟩ = some (.bool f.noAd)) w' := fun w' hb => by
            have h := HSO.out w' (zbT HB.out hb HB.out.size)
            (try dsimp only at h)
            go_split_ands
            exact ⟨hb, by assumption, by assumption⟩
          have hS17 : (fun w' => Below w6.heap.size w6 w' ∧ w.heap.size < w'.heap.size ∧ w'.cell? ⟨w.heap.size, 2, none⟩ = some (.bool f.noAd)) w6 := hSof17 _ (zbR _ _)
          (try dsimp only at hS17)
          refine wp_region_held_drew (S := (fun w' => Below w6.heap.size w6 w' ∧ w.heap.size < w'.heap.size ∧ w'.cell? ⟨w.heap.size, 2, none⟩ = some (.bool f.noAd))) (by kernel_rfl) ?_ (fun hD0 => ?_)
          · (try dsimp only); first | exact hSof17 _ (zbD (zbR _ _))
          refine tW ?_ 0 rfl (by kernel_rfl) (fun _ _ _ h => h) (by rfl) (by assumption) ?_ ?_; rotate_left; (focus (intro w hSw; (try dsimp only at hSw); go_simp; try with_reducible rfl)); try simp only [Act.put, zl, z0, z1]
          refine tW ?_ 1 rfl (by kernel_rfl) (fun _ _ _ h => h) (by rfl) (by assumption) ?_ ?_; rotate_left; (focus (intro w hSw; (try dsimp only at hSw); go_simp; try with_reducible rfl)); try simp only [Act.put, zl, z0, z1]
          refine tW ?_ 2 rfl (by kernel_rfl) (fun _ _ _ h => h) (by rfl) (by assumption) ?_ ?_; rotate_left; (focus (intro w hSw; (try dsimp only at hSw); go_simp; try with_reducible rfl)); try simp only [Act.put, zl, z0, z1]
          refine tW ?_ 3 rfl (by kernel_rfl) (fun _ _ _ h => h) (by rfl) (by assumption) ?_ ?_; rotate_left; (focus (intro w hSw; (try dsimp only at hSw); go_simp; try with_reducible rfl)); try simp only [Act.put, zl, z0, z1]
          refine tW ?_ 4 rfl (by kernel_rfl) (fun _ _ _ h => h) (by rfl) (by assumption) ?_ ?_; rotate_left; (focus (intro w hSw; (try dsimp only at hSw); go_simp; try with_reducible rfl)); try simp only [Act.put, zl, z0, z1]
          refine wpAnyH_done (by kernel_rfl) ?_ _
          (try dsimp only [Act.put, List.getElem_toArray, List.getElem_cons_succ, List.getElem_cons_zero])
          (try simp only [zl, z0, z1])
          clear hSof17 hS17
          obtain ⟨la, hla⟩ : ∃ q, (if ti = true then tt else 4) = q := ⟨_, rfl⟩
          obtain ⟨ad, had⟩ : ∃ q, (ti || !f.noAd) = q := ⟨_, rfl⟩
          have HLA := hide hla
          have HAD := hide had
          have HLB := hide (show 0 ≤ la ∧ la ≤ 100 by have := HTB.out; rw [← hla]; split <;> omega)
          rw [hla, had] at HV
          clear hla had
          go_upto_if 74 with fail
          go_cut [16, 17] from 75 to 75 (fun v16 v17 wx => v16 = .int .i64 la ∧ v17 = .bool ad ∧ Hid (Below w6.heap.size w6 wx))
          case first =>
            cases ti
            · go_wp2_with fail
              go_meet
              case rel => exact ⟨by rw [← HLA.out]; rfl, by rw [← HAD.out]; rfl, hide (by first | exact zbD (zbR _ _) | exact zbR _ _)⟩
            · go_wp2_with fail
              go_meet
              case rel => exact ⟨by rw [← HLA.out]; rfl, by rw [← HAD.out]; rfl, hide (by first | exact zbD (zbR _ _) | exact zbR _ _)⟩
          case rest =>
            obtain ⟨rfl, rfl, hbc⟩ := hcut
            rename World => w7
            have hb := hbc.out
            have HQ0 := hide ((hb.block _ (blk_lt HQ0.out)).trans HQ0.out)
            have HQ1 := hide ((hb.block _ (blk_lt HQ1.out)).trans HQ1.out)
            have HQ2 := hide ((hb.block _ (blk_lt HQ2.out)).trans HQ2.out)
            have HT := hide (HT.out.below hb)
            have HB := hide (zbT HB.out hb HB.out.size)
            clear hb hbc
            (try clear c00 c01 z0)
            have c00 : w7.cell? ⟨q0, 0, none⟩ = some (.int .i64 X0.A) := (blk_cell HQ0.out 0).trans rfl
            have c01 : w7.cell? ⟨q0, 1, none⟩ = some (.int .i64 X0.B) := (blk_cell HQ0.out 1).trans rfl
            have z0 := blk_lt HQ0.out
            (try clear c10 c11 z1)
            have c10 : w7.cell? ⟨q1, 0, none⟩ = some (.int .i64 (x : Int)) := (blk_cell HQ1.out 0).trans rfl
            have c11 : w7.cell? ⟨q1, 1, none⟩ = some (.int .i64 (y : Int)) := (blk_cell HQ1.out 1).trans rfl
            have z1 := blk_lt HQ1.out
            (try clear c20 c21 z2)
            have c20 : w7.cell? ⟨q2, 0, none⟩ = some (.int .i64 X2.A) := (blk_cell HQ2.out 0).trans rfl
            have c21 : w7.cell? ⟨q2, 1, none⟩ = some (.int .i64 X2.B) := (blk_cell HQ2.out 1).trans rfl
            have z2 := blk_lt HQ2.out
            (try clear hS)
            have hS := HSO.out _ HB.out
            (try dsimp only at hS)
            have hwx : IntKind.i64.wrap ((x : Int) + 1) = (x : Int) + 1 := IntWalk.i64_in _ (by omega)
            have hwy : IntKind.i64.wrap ((y : Int) + 1) = (y : Int) + 1 := IntWalk.i64_in _ (by omega)
            have hx0 : (0 : Int) ≤ (x : Int) := by omega
            have hx1 : (0 : Int) ≤ (x : Int) + 1 := by omega
            have hy0 : (0 : Int) ≤ (y : Int) := by omega
            have hy1 : (0 : Int) ≤ (y : Int) + 1 := by omega
            have hx2 : (x : Int) < 45 := by omega
            have hx3 : (x : Int) + 1 < 45 := by omega
            have hy2 : (y : Int) < 45 := by omega
            have hy3 : (y : Int) + 1 < 45 := by omega
            have hx4 : ((x : Int) + 1).toNat = x + 1 := by omega
            have hy4 : ((y : Int) + 1).toNat = y + 1 := by omega
            obtain ⟨c1, hc1⟩ : ∃ q, M.cost s wn ls (x + 1) y = q := ⟨_, rfl⟩
            obtain ⟨c2, hc2⟩ : ∃ q, M.cost s wn ls x (y + 1) = q := ⟨_, rfl⟩
            have HCB := hide (show (0 ≤ c1 ∧ c1 ≤ 1000000) ∧ (0 ≤ c2 ∧ c2 ≤ 1000000) by
              rw [← hc1, ← hc2]
              have h0 : 0 ≤ s.to := by have := HTB.out; have := HST.out; omega
              exact ⟨⟨M.cost_low h0 HBD.out.1.1.1 HBD.out.1.2.1 88 _ _, M.cost_bd ..⟩, ⟨M.cost_low h0 HBD.out.1.1.1 HBD.out.1.2.1 88 _ _, M.cost_bd ..⟩⟩)
            have t0 : w7.cell? ⟨go, x + 1, none⟩ = some (.slice (some ⟨bo (x + 1), 0, none⟩) 45 45) := HT.out.cell (x + 1) (by omega)
            have t1 : w7.cell? ⟨bo (x + 1), y, none⟩ = some (.int .i64 c1) := by rw [← hc1]; exact HT.out.rows.at_ (show x + 1 < 45 by omega) (by omega)
            have t2 : w7.cell? ⟨go, x, none⟩ = some (.slice (some ⟨bo x, 0, none⟩) 45 45) := HT.out.cell x (by omega)
            have t3 : w7.cell? ⟨bo x, y + 1, none⟩ = some (.int .i64 c2) := by rw [← hc2]; exact HT.out.rows.at_ (show x < 45 by omega) (by omega)
            have t4 := HT.out.gl
            have t5 := HT.out.rows.bl (show x + 1 < 45 by omega)
            have t6 := HT.out.rows.bl (show x < 45 by omega)
            have hc1' : M.costF s 1000000 wn ls 44 88 ((x : Int) + 1) (y : Int) = c1 := by rw [← hc1]; exact congrArg (fun a => M.costF s 1000000 wn ls 44 88 a (y : Int)) (by omega)
            have hc2' : M.costF s 1000000 wn ls 44 88 (x : Int) ((y : Int) + 1) = c2 := by rw [← hc2]; exact congrArg (fun a => M.costF s 1000000 wn ls 44 88 (x : Int) a) (by omega)
            rw [hc1', hc2'] at HV
            clear hc1 hc2 hc1' hc2' HT
            have hSof20 : ∀ w', Below w7.heap.size w7 w' → (fun w' => Below w7.heap.size w7 w' ∧ w'.cell? ⟨q1, 0, none⟩ = some (.int .i64 (x : Int)) ∧ w'.cell? ⟨q1, 1, none⟩ = some (.int .i64 (y : Int)) ∧ w'.cell? ⟨go, x + 1, none⟩ = some (.slice (some ⟨bo (x + 1), 0, none⟩) 45 45) ∧ w'.cell? ⟨bo (x + 1), y, none⟩ = some (.int .i64 c1) ∧ w'.cell? ⟨go, x, none⟩ = some (.slice (some ⟨bo x, 0, none⟩) 45 45) ∧ w'.cell? ⟨bo x, y + 1, none⟩ = some (.int .i64 c2) ∧ go < w'.heap.size ∧ bo (x + 1) < w'.heap.size ∧ bo x < w'.heap.size ∧ q1 < w'.heap.size) w' := fun w' hb =>
              ⟨hb, (hb.cell (p := ⟨q1, 0, none⟩) z1).trans c10, (hb.cell (p := ⟨q1, 1, none⟩) z1).trans c11, (hb.cell (p := ⟨go, x + 1, none⟩) t4).trans t0, (hb.cell (p := ⟨bo (x + 1), y, none⟩) t5).trans t1, (hb.cell (p := ⟨go, x, none⟩) t4).trans t2, (hb.cell (p := ⟨bo x, y + 1, none⟩) t6).trans t3, Nat.lt_of_lt_of_le t4 hb.size, Nat.lt_of_lt_of_le t5 hb.size, Nat.lt_of_lt_of_le t6 hb.size, Nat.lt_of_lt_of_le z1 hb.size⟩
            go_upto_region 20 with fail
            refine wp_region_held_drew (S := (fun w' => Below w7.heap.size w7 w' ∧ w'.cell? ⟨q1, 0, none⟩ = some (.int .i64 (x : Int)) ∧ w'.cell? ⟨q1, 1, none⟩ = some (.int .i64 (y : Int)) ∧ w'.cell? ⟨go, x + 1, none⟩ = some (.slice (some ⟨bo (x + 1), 0, none⟩) 45 45) ∧ w'.cell? ⟨bo (x + 1), y, none⟩ = some (.int .i64 c1) ∧ w'.cell? ⟨go, x, none⟩ = some (.slice (some ⟨bo x, 0, none⟩) 45 45) ∧ w'.cell? ⟨bo x, y + 1, none⟩ = some (.int .i64 c2) ∧ go < w'.heap.size ∧ bo (x + 1) < w'.heap.size ∧ bo x < w'.heap.size ∧ q1 < w'.heap.size)) (by kernel_rfl) ?_ (fun hD0 => ?_)
            · (try dsimp only); first | assumption | exact hSof20 _ (zbD (zbR _ _))
            refine tW ?_ 0 rfl (by kernel_rfl) (fun _ _ _ h => h) (by rfl) (by assumption) ?_ ?_; rotate_left; (focus (intro w hSw; (try dsimp only at hSw); go_simp; try with_reducible rfl)); try simp only [Act.put, zl, z0, z1]
            refine tW ?_ 1 rfl (by kernel_rfl) (fun _ _ _ h => h) (by rfl) (by assumption) ?_ ?_; rotate_left; (focus (intro w hSw; (try dsimp only at hSw); go_simp; try with_reducible rfl)); try simp only [Act.put, zl, z0, z1]
            refine tW ?_ 2 rfl (by kernel_rfl) (fun _ _ _ h => h) (by rfl) (by assumption) ?_ ?_; rotate_left; (focus (intro w hSw; (try dsimp only at hSw); go_simp; try with_reducible rfl)); try simp only [Act.put, zl, z0, z1]
            refine tW ?_ 3 rfl (by kernel_rfl) (fun _ _ _ h => h) (by rfl) (by assumption) ?_ ?_; rotate_left; (focus (intro w hSw; (try dsimp only at hSw); go_simp; try with_reducible rfl)); try simp only [Act.put, zl, z0, z1]
            refine tW ?_ 4 rfl (by kernel_rfl) (fun _ _ _ h => h) (by rfl) (by assumption) ?_ ?_; rotate_left; (focus (intro w hSw; (try dsimp only at hSw); go_simp; try with_reducible rfl)); try simp only [Act.put, zl, z0, z1]
            refine tW ?_ 5 rfl (by kernel_rfl) (fun _ _ _ h => h) (by rfl) (by assumption) ?_ ?_; rotate_left; (focus (intro w hSw; (try dsimp only at hSw); go_simp; try with_reducible rfl)); try simp only [Act.put, zl, z0, z1]
            refine tW ?_ 6 rfl (by kernel_rfl) (fun _ _ _ h => h) (by rfl) (by assumption) ?_ ?_; rotate_left; (focus (intro w hSw; (try dsimp only at hSw); go_simp; try with_reducible rfl)); try simp only [Act.put, zl, z0, z1]
            refine tW ?_ 7 rfl (by kernel_rfl) (fun _ _ _ h => h) (by rfl) (by assumption) ?_ ?_; rotate_left; (focus (intro w hSw; (try dsimp only at hSw); go_simp; try with_reducible rfl)); try simp only [Act.put, zl, z0, z1]
            refine tW ?_ 8 rfl (by kernel_rfl) (fun _ _ _ h => h) (by rfl) (by assumption) ?_ ?_; rotate_left; (focus (intro w hSw; (try dsimp only at hSw); go_simp; try with_reducible rfl)); try simp only [Act.put, zl, z0, z1]
            refine tW ?_ 9 rfl (by kernel_rfl) (fun _ _ _ h => h) (by rfl) (by assumption) ?_ ?_; rotate_left; (focus (intro w hSw; (try dsimp only at hSw); go_simp; try with_reducible rfl)); try simp only [Act.put, zl, z0, z1]
            refine tW ?_ 10 rfl (by kernel_rfl) (fun _ _ _ h => h) (by rfl) (by assumption) ?_ ?_; rotate_left; (focus (intro w hSw; (try dsimp only at hSw); go_simp; try with_reducible rfl)); try simp only [Act.put, zl, z0, z1]
            refine tW ?_ 11 rfl (by kernel_rfl) (fun _ _ _ h => h) (by rfl) (by assumption) ?_ ?_; rotate_left; (focus (intro w hSw; (try dsimp only at hSw); go_simp; try with_reducible rfl)); try simp only [Act.put, zl, z0, z1]
            refine tW ?_ 12 rfl (by kernel_rfl) (fun _ _ _ h => h) (by rfl) (by assumption) ?_ ?_; rotate_left; (focus (intro w hSw; (try dsimp only at hSw); go_simp; try with_reducible rfl)); try simp only [Act.put, zl, z0, z1]
            refine tW ?_ 13 rfl (by kernel_rfl) (fun _ _ _ h => h) (by rfl) (by assumption) ?_ ?_; rotate_left; (focus (intro w hSw; (try dsimp only at hSw); go_simp; try with_reducible rfl)); try simp only [Act.put, zl, z0, z1]
            refine tW ?_ 14 rfl (by kernel_rfl) (fun _ _ _ h => h) (by rfl) (by assumption) ?_ ?_; rotate_left; (focus (intro w hSw; (try dsimp only at hSw); go_simp; try with_reducible rfl)); try simp only [Act.put, zl, z0, z1]
            refine tW ?_ 15 rfl (by kernel_rfl) (fun _ _ _ h => h) (by rfl) (by assumption) ?_ ?_; rotate_left; (focus (intro w hSw; (try dsimp only at hSw); go_simp; try with_reducible rfl)); try simp only [Act.put, zl, z0, z1]
            refine tW ?_ 16 rfl (by kernel_rfl) (fun _ _ _ h => h) (by rfl) (by assumption) ?_ ?_; rotate_left; (focus (intro w hSw; (try dsimp only at hSw); go_simp; try with_reducible rfl)); try simp only [Act.put, zl, z0, z1]
            refine tW ?_ 17 rfl (by kernel_rfl) (fun _ _ _ h => h) (by rfl) (by assumption) ?_ ?_; rotate_left; (focus (intro w hSw; (try dsimp only at hSw); go_simp; try with_reducible rfl)); try simp only [Act.put, zl, z0, z1]
            refine tW ?_ 18 rfl (by kernel_rfl) (fun _ _ _ h => h) (by rfl) (by assumption) ?_ ?_; rotate_left; (focus (intro w hSw; (try dsimp only at hSw); go_simp; try with_reducible rfl)); try simp only [Act.put, zl, z0, z1]
            refine tW ?_ 19 rfl (by kernel_rfl) (fun _ _ _ h => h) (by rfl) (by assumption) ?_ ?_; rotate_left; (focus (intro w hSw; (try dsimp only at hSw); go_simp; try with_reducible rfl)); try simp only [Act.put, zl, z0, z1]
            refine tW ?_ 20 rfl (by kernel_rfl) (fun _ _ _ h => h) (by rfl) (by assumption) ?_ ?_; rotate_left; (focus (intro w hSw; (try dsimp only at hSw); go_simp; try with_reducible rfl)); try simp only [Act.put, zl, z0, z1]
            refine tW ?_ 21 rfl (by kernel_rfl) (fun _ _ _ h => h) (by rfl) (by assumption) ?_ ?_; rotate_left; (focus (intro w hSw; (try dsimp only at hSw); go_simp; try with_reducible rfl)); try simp only [Act.put, zl, z0, z1]
            refine wpAnyH_done (by kernel_rfl) ?_ _
            (try dsimp only [Act.put, List.getElem_toArray, List.getElem_cons_succ, List.getElem_cons_zero])
            (try simp only [List.setIfInBounds_toArray, List.set_cons_zero, List.set_cons_succ])
            clear t0 t1 t2 t3 t4 t5 t6 hSof20
            obtain ⟨l1, hl1⟩ : ∃ q, M.leads ⟨(x : Int) + 1, (y : Int)⟩ f.games = q := ⟨_, rfl⟩
            obtain ⟨l2, hl2⟩ : ∃ q, M.leads ⟨(x : Int), (y : Int) + 1⟩ f.games = q := ⟨_, rfl⟩
            have HPL0 := fun (W : World) => hide (show Calls Try.prog 52 #[.agg #[.int .i64 (x : Int), .int .i64 (y : Int)], .int .i64 0] W (fun e w' => e = .returned (.agg #[.int .i64 ((x : Int) + 1), .int .i64 (y : Int)]) ∧ Below W.heap.size W w') from by
              have h := refPlus_any ⟨(x : Int), (y : Int)⟩ 0 W ⟨by dsimp; omega, by dsimp; omega, by dsimp; omega, by dsimp; omega⟩
              rw [show M.plus ⟨(x : Int), (y : Int)⟩ 0 = ⟨(x : Int) + 1, (y : Int)⟩ from if_pos rfl] at h
              exact h)
            have HPL1 := fun (W : World) => hide (show Calls Try.prog 52 #[.agg #[.int .i64 (x : Int), .int .i64 (y : Int)], .int .i64 1] W (fun e w' => e = .returned (.agg #[.int .i64 (x : Int), .int .i64 ((y : Int) + 1)]) ∧ Below W.heap.size W w') from by
              have h := refPlus_any ⟨(x : Int), (y : Int)⟩ 1 W ⟨by dsimp; omega, by dsimp; omega, by dsimp; omega, by dsimp; omega⟩
              rw [show M.plus ⟨(x : Int), (y : Int)⟩ 1 = ⟨(x : Int), (y : Int) + 1⟩ from if_neg (by omega)] at h
              exact h)
            have HLD0 := fun (W : World) => hide (refLeads_any ⟨(x : Int) + 1, (y : Int)⟩ f.games W ⟨by dsimp; omega, by dsimp; omega, by dsimp; omega, by dsimp; omega⟩)
            have HLD1 := fun (W : World) => hide (refLeads_any ⟨(x : Int), (y : Int) + 1⟩ f.games W ⟨by dsimp; omega, by dsimp; omega, by dsimp; omega, by dsimp; omega⟩)
            rw [hl1] at HLD0
            rw [hl2] at HLD1
            have hi1 := M.leads_is0 (p := ⟨(x : Int) + 1, (y : Int)⟩) (n := f.games)
            have hi2 := M.leads_is1 (p := ⟨(x : Int), (y : Int) + 1⟩) (n := f.games)
            rw [hl1] at hi1
            rw [hl2] at hi2
            dsimp only at hi1 hi2
            obtain ⟨d1, hd1⟩ : ∃ q, (ti || (l1 == 0)) = q := ⟨_, rfl⟩
            obtain ⟨d2, hd2⟩ : ∃ q, (ti || (l2 == 1)) = q := ⟨_, rfl⟩
            obtain ⟨wv, hwv⟩ : ∃ q, (if d1 = true then wz else c1) = q := ⟨_, rfl⟩
            obtain ⟨lvv, hlvv⟩ : ∃ q, (if d2 = true then lz else c2) = q := ⟨_, rfl⟩
            have hq1 : (ti = true ∨ (f.games ≤ (x : Int) + 1 ∧ (y : Int) + 2 ≤ (x : Int) + 1)) ↔ d1 = true := by rw [← hd1, Bool.or_eq_true, beq_iff_eq, hi1]
            have hq2 : (ti = true ∨ (f.games ≤ (y : Int) + 1 ∧ (x : Int) + 2 ≤ (y : Int) + 1)) ↔ d2 = true := by rw [← hd2, Bool.or_eq_true, beq_iff_eq, hi2]
            simp only [hq1, hq2] at HV
            rw [hwv, hlvv] at HV
            have HD1 := hide hd1
            have HD2 := hide hd2
            have HWV := hide hwv
            have HLV2 := hide hlvv
            have HVB := hide (show (0 ≤ wv ∧ wv ≤ 1000000) ∧ (0 ≤ lvv ∧ lvv ≤ 1000000) by
              have h1 := HBD.out
              have h2 := HCB.out
              rw [← hwv, ← hlvv]
              constructor
              · split <;> omega
              · split <;> omega)
            clear hl1 hl2 hi1 hi2 hd1 hd2 hwv hlvv hq1 hq2 hwx hwy hx0 hx1 hy0 hy1 hx2 hx3 hy2 hy3 hx4 hy4
            have hwa : IntKind.i64.wrap (X0.A + 1) = X0.A + 1 := IntWalk.i64_in _ (by omega)
            have hwb : IntKind.i64.wrap (X0.B + 1) = X0.B + 1 := IntWalk.i64_in _ (by omega)
            go_upto_region 21 with fail
            go_cut [104] from 96 to 104 (fun v wx => v = .bool d1 ∧ Hid (Below w7.heap.size w7 wx))
            case first =>
              have hSof21 : ∀ w', Below w7.heap.size w7 w' → (fun w' => Below w7.heap.size w7 w' ∧ w'.cell? ⟨q1, 0, none⟩ = some (.int .i64 (x : Int)) ∧ w'.cell? ⟨q1, 1, none⟩ = some (.int .i64 (y : Int)) ∧ q1 < w'.heap.size ∧ w.heap.size < w'.heap.size ∧ w'.cell? ⟨w.heap.size, 1, none⟩ = some (.int .i64 f.games)) w' := fun w' hb => by
                have h := HSO.out w' (zbT HB.out hb HB.out.size)
                (try dsimp only at h)
                have k0 := (hb.cell (p := ⟨q1, 0, none⟩) z1).trans c10
                have k1 := (hb.cell (p := ⟨q1, 1, none⟩) z1).trans c11
                have k2 := Nat.lt_of_lt_of_le z1 hb.size
                go_split_ands
                exact ⟨hb, by assumption, by assumption, by assumption, by assumption, by assumption⟩
              have hS21 : (fun w' => Below w7.heap.size w7 w' ∧ w'.cell? ⟨q1, 0, none⟩ = some (.int .i64 (x : Int)) ∧ w'.cell? ⟨q1, 1, none⟩ = some (.int .i64 (y : Int)) ∧ q1 < w'.heap.size ∧ w.heap.size < w'.heap.size ∧ w'.cell? ⟨w.heap.size, 1, none⟩ = some (.int .i64 f.games)) w7 := hSof21 _ (zbR _ _)
              (try dsimp only at hS21)
              cases ti
              · refine wp_region_held_drew (S := (fun w' => Below w7.heap.size w7 w' ∧ w'.cell? ⟨q1, 0, none⟩ = some (.int .i64 (x : Int)) ∧ w'.cell? ⟨q1, 1, none⟩ = some (.int .i64 (y : Int)) ∧ q1 < w'.heap.size ∧ w.heap.size < w'.heap.size ∧ w'.cell? ⟨w.heap.size, 1, none⟩ = some (.int .i64 f.games))) (by kernel_rfl) ?_ (fun hD0 => ?_)
                · (try dsimp only); first | assumption | exact hSof21 _ (zbD (zbR _ _)) | exact hSof21 _ (zbD (zbD (zbR _ _)))
                refine tW ?_ 0 rfl (by kernel_rfl) (fun _ _ _ h => h) (by rfl) (by assumption) ?_ ?_; rotate_left; (focus (intro w hSw; (try dsimp only at hSw); go_simp; try with_reducible rfl)); try simp only [Act.put, zl, z0, z1]
                refine tW ?_ 1 rfl (by kernel_rfl) (fun _ _ _ h => h) (by rfl) (by assumption) ?_ ?_; rotate_left; (focus (intro w hSw; (try dsimp only at hSw); go_simp; try with_reducible rfl)); try simp only [Act.put, zl, z0, z1]
                refine tW ?_ 2 rfl (by kernel_rfl) (fun _ _ _ h => h) (by rfl) (by assumption) ?_ ?_; rotate_left; (focus (intro w hSw; (try dsimp only at hSw); go_simp; try with_reducible rfl)); try simp only [Act.put, zl, z0, z1]
                refine tW ?_ 4 rfl (by kernel_rfl) (fun _ _ _ h => h) (by rfl) (by assumption) ?_ ?_; rotate_left; (focus (intro w hSw; (try dsimp only at hSw); go_simp; try with_reducible rfl)); try simp only [Act.put, zl, z0, z1]
                refine tW ?_ 5 rfl (by kernel_rfl) (fun _ _ _ h => h) (by rfl) (by assumption) ?_ ?_; rotate_left; (focus (intro w hSw; (try dsimp only at hSw); go_simp; try with_reducible rfl)); try simp only [Act.put, zl, z0, z1]
                refine wpAnyH_ready (rs := [3]) (by kernel_rfl) (by simp) ?_; refine consL 3 rfl (fun K hK => ?_) AllReadyH.nil; go_simp
                (go_at_call 52; with_reducible refine (HPL0 _).out.mono ?_; rintro e wn0 ⟨rfl, hb⟩; have hSn : (fun w' => Below w7.heap.size w7 w' ∧ w'.cell? ⟨q1, 0, none⟩ = some (.int .i64 (x : Int)) ∧ w'.cell? ⟨q1, 1, none⟩ = some (.int .i64 (y : Int)) ∧ q1 < w'.heap.size ∧ w.heap.size < w'.heap.size ∧ w'.cell? ⟨w.heap.size, 1, none⟩ = some (.int .i64 f.games)) wn0 := hSof21 _ (zbT (hD0).1 hb (hD0).1.size); (try dsimp only at hSn); clear hb)
                refine hK.out _ _ ?_ (fun hD1 => ?_)
                · (try dsimp only); first | assumption | exact hSof21 _ (zbD (zbR _ _)) | exact hSof21 _ (zbD (zbD (zbR _ _)))
                clear hK K hD0; try simp only [Act.put, zl, z0, z1]
                refine wpAnyH_ready (rs := [6]) (by kernel_rfl) (by simp) ?_; refine consL 6 rfl (fun K hK => ?_) AllReadyH.nil; go_simp
                (go_at_call 51; with_reducible refine (HLD0 _).out.mono ?_; rintro e wn0 ⟨rfl, hb⟩; have hSn : (fun w' => Below w7.heap.size w7 w' ∧ w'.cell? ⟨q1, 0, none⟩ = some (.int .i64 (x : Int)) ∧ w'.cell? ⟨q1, 1, none⟩ = some (.int .i64 (y : Int)) ∧ q1 < w'.heap.size ∧ w.heap.size < w'.heap.size ∧ w'.cell? ⟨w.heap.size, 1, none⟩ = some (.int .i64 f.games)) wn0 := hSof21 _ (zbT (hD1).1 hb (hD1).1.size); (try dsimp only at hSn); clear hb)
                refine hK.out _ _ ?_ (fun hD2 => ?_)
                · (try dsimp only); first | assumption | exact hSof21 _ (zbD (zbR _ _)) | exact hSof21 _ (zbD (zbD (zbR _ _)))
                clear hK K hD1; try simp only [Act.put, zl, z0, z1]
                refine tW ?_ 7 rfl (by kernel_rfl) (fun _ _ _ h => h) (by rfl) (by assumption) ?_ ?_; rotate_left; (focus (intro w hSw; (try dsimp only at hSw); go_simp; try with_reducible rfl)); try simp only [Act.put, zl, z0, z1]
                refine tW ?_ 8 rfl (by kernel_rfl) (fun _ _ _ h => h) (by rfl) (by assumption) ?_ ?_; rotate_left; (focus (intro w hSw; (try dsimp only at hSw); go_simp; try with_reducible rfl)); try simp only [Act.put, zl, z0, z1]
                refine wpAnyH_done (by kernel_rfl) ?_ _
                go_wp2_with fail
                go_meet
                case rel => exact ⟨by rw [← HD1.out]; rfl, hide (by go_split_ands; assumption)⟩
              · refine wp_region_held_drew (S := (fun w' => Below w7.heap.size w7 w' ∧ w'.cell? ⟨q1, 0, none⟩ = some (.int .i64 (x : Int)) ∧ w'.cell? ⟨q1, 1, none⟩ = some (.int .i64 (y : Int)) ∧ q1 < w'.heap.size ∧ w.heap.size < w'.heap.size ∧ w'.cell? ⟨w.heap.size, 1, none⟩ = some (.int .i64 f.games))) (by kernel_rfl) ?_ (fun hD0 => ?_)
                · (try dsimp only); first | assumption | exact hSof21 _ (zbD (zbR _ _)) | exact hSof21 _ (zbD (zbD (zbR _ _)))
                refine tW ?_ 0 rfl (by kernel_rfl) (fun _ _ _ h => h) (by rfl) (by assumption) ?_ ?_; rotate_left; (focus (intro w hSw; (try dsimp only at hSw); go_simp; try with_reducible rfl)); try simp only [Act.put, zl, z0, z1]
                refine tW ?_ 1 rfl (by kernel_rfl) (fun _ _ _ h => h) (by rfl) (by assumption) ?_ ?_; rotate_left; (focus (intro w hSw; (try dsimp only at hSw); go_simp; try with_reducible rfl)); try simp only [Act.put, zl, z0, z1]
                refine takeL 2 rfl (by kernel_rfl) (by kernel_rfl) (by kernel_rfl) (fun _ _ _ h => h) (Or.inr ⟨by rfl, rfl⟩) (by assumption) ?_; try simp only [Act.put, zl, z0, z1]
                refine takeL 3 rfl (by kernel_rfl) (by kernel_rfl) (by kernel_rfl) (fun _ _ _ h => h) (Or.inr ⟨by rfl, rfl⟩) (by assumption) ?_; try simp only [Act.put, zl, z0, z1]
                refine takeL 4 rfl (by kernel_rfl) (by kernel_rfl) (by kernel_rfl) (fun _ _ _ h => h) (Or.inr ⟨by rfl, rfl⟩) (by assumption) ?_; try simp only [Act.put, zl, z0, z1]
                refine takeL 5 rfl (by kernel_rfl) (by kernel_rfl) (by kernel_rfl) (fun _ _ _ h => h) (Or.inr ⟨by rfl, rfl⟩) (by assumption) ?_; try simp only [Act.put, zl, z0, z1]
                refine takeL 6 rfl (by kernel_rfl) (by kernel_rfl) (by kernel_rfl) (fun _ _ _ h => h) (Or.inr ⟨by rfl, rfl⟩) (by assumption) ?_; try simp only [Act.put, zl, z0, z1]
                refine takeL 7 rfl (by kernel_rfl) (by kernel_rfl) (by kernel_rfl) (fun _ _ _ h => h) (Or.inr ⟨by rfl, rfl⟩) (by assumption) ?_; try simp only [Act.put, zl, z0, z1]
                refine tW ?_ 8 rfl (by kernel_rfl) (fun _ _ _ h => h) (by rfl) (by assumption) ?_ ?_; rotate_left; (focus (intro w hSw; (try dsimp only at hSw); go_simp; try with_reducible rfl)); try simp only [Act.put, zl, z0, z1]
                refine wpAnyH_done (by kernel_rfl) ?_ _
                go_wp2_with fail
                go_meet
                case rel => exact ⟨by rw [← HD1.out]; rfl, hide (by go_split_ands; assumption)⟩
            case rest =>
              obtain ⟨rfl, hbc⟩ := hcut
              rename World => w8
              have hb := hbc.out
              have HQ0 := hide ((hb.block _ (blk_lt HQ0.out)).trans HQ0.out)
              have HQ1 := hide ((hb.block _ (blk_lt HQ1.out)).trans HQ1.out)
              have HQ2 := hide ((hb.block _ (blk_lt HQ2.out)).trans HQ2.out)
              have HB := hide (zbT HB.out hb HB.out.size)
              clear hb hbc
              (try clear c00 c01 z0)
              have c00 : w8.cell? ⟨q0, 0, none⟩ = some (.int .i64 X0.A) := (blk_cell HQ0.out 0).trans rfl
              have c01 : w8.cell? ⟨q0, 1, none⟩ = some (.int .i64 X0.B) := (blk_cell HQ0.out 1).trans rfl
              have z0 := blk_lt HQ0.out
              (try clear c10 c11 z1)
              have c10 : w8.cell? ⟨q1, 0, none⟩ = some (.int .i64 (x : Int)) := (blk_cell HQ1.out 0).trans rfl
              have c11 : w8.cell? ⟨q1, 1, none⟩ = some (.int .i64 (y : Int)) := (blk_cell HQ1.out 1).trans rfl
              have z1 := blk_lt HQ1.out
              (try clear c20 c21 z2)
              have c20 : w8.cell? ⟨q2, 0, none⟩ = some (.int .i64 X2.A) := (blk_cell HQ2.out 0).trans rfl
              have c21 : w8.cell? ⟨q2, 1, none⟩ = some (.int .i64 X2.B) := (blk_cell HQ2.out 1).trans rfl
              have z2 := blk_lt HQ2.out
              (try clear hS)
              have hS := HSO.out _ HB.out
              (try dsimp only at hS)
              go_upto_if 104 with fail
              go_cut [18] from 105 to 111 (fun v wx => v = .int .i64 wv ∧ Hid (Below w8.heap.size w8 wx))
              case first =>
                cases d1
                · go_wp2_with fail
                  go_meet
                  case rel => exact ⟨by rw [← HWV.out]; rfl, hide (by first | exact zbR _ _ | exact zbD (zbR _ _))⟩
                · go_wp2_with (go_at_call 53; with_reducible refine (HFA _).out.mono ?_; rintro e wf ⟨rfl, hbf⟩; have HBF := hide hbf; clear hbf)
                  go_meet
                  case rel => exact ⟨by rw [← HWV.out]; rfl, hide (by first | exact HBF.out | exact zbD HBF.out | exact zbT (zbD (zbR _ _)) HBF.out (Nat.le_refl _))⟩
              case rest =>
                obtain ⟨rfl, hbc⟩ := hcut
                rename World => w9
                have hb := hbc.out
                have HQ0 := hide ((hb.block _ (blk_lt HQ0.out)).trans HQ0.out)
                have HQ1 := hide ((hb.block _ (blk_lt HQ1.out)).trans HQ1.out)
                have HQ2 := hide ((hb.block _ (blk_lt HQ2.out)).trans HQ2.out)
                have HB := hide (zbT HB.out hb HB.out.size)
                clear hb hbc
                (try clear c00 c01 z0)
                have c00 : w9.cell? ⟨q0, 0, none⟩ = some (.int .i64 X0.A) := (blk_cell HQ0.out 0).trans rfl
                have c01 : w9.cell? ⟨q0, 1, none⟩ = some (.int .i64 X0.B) := (blk_cell HQ0.out 1).trans rfl
                have z0 := blk_lt HQ0.out
                (try clear c10 c11 z1)
                have c10 : w9.cell? ⟨q1, 0, none⟩ = some (.int .i64 (x : Int)) := (blk_cell HQ1.out 0).trans rfl
                have c11 : w9.cell? ⟨q1, 1, none⟩ = some (.int .i64 (y : Int)) := (blk_cell HQ1.out 1).trans rfl
                have z1 := blk_lt HQ1.out
                (try clear c20 c21 z2)
                have c20 : w9.cell? ⟨q2, 0, none⟩ = some (.int .i64 X2.A) := (blk_cell HQ2.out 0).trans rfl
                have c21 : w9.cell? ⟨q2, 1, none⟩ = some (.int .i64 X2.B) := (blk_cell HQ2.out 1).trans rfl
                have z2 := blk_lt HQ2.out
                (try clear hS)
                have hS := HSO.out _ HB.out
                (try dsimp only at hS)
                go_upto_region 23 with fail
                go_cut [120] from 112 to 120 (fun v wx => v = .bool d2 ∧ Hid (Below w9.heap.size w9 wx))
                case first =>
                  have hSof21 : ∀ w', Below w9.heap.size w9 w' → (fun w' => Below w9.heap.size w9 w' ∧ w'.cell? ⟨q1, 0, none⟩ = some (.int .i64 (x : Int)) ∧ w'.cell? ⟨q1, 1, none⟩ = some (.int .i64 (y : Int)) ∧ q1 < w'.heap.size ∧ w.heap.size < w'.heap.size ∧ w'.cell? ⟨w.heap.size, 1, none⟩ = some (.int .i64 f.games)) w' := fun w' hb => by
                    have h := HSO.out w' (zbT HB.out hb HB.out.size)
                    (try dsimp only at h)
                    have k0 := (hb.cell (p := ⟨q1, 0, none⟩) z1).trans c10
                    have k1 := (hb.cell (p := ⟨q1, 1, none⟩) z1).trans c11
                    have k2 := Nat.lt_of_lt_of_le z1 hb.size
                    go_split_ands
                    exact ⟨hb, by assumption, by assumption, by assumption, by assumption, by assumption⟩
                  have hS21 : (fun w' => Below w9.heap.size w9 w' ∧ w'.cell? ⟨q1, 0, none⟩ = some (.int .i64 (x : Int)) ∧ w'.cell? ⟨q1, 1, none⟩ = some (.int .i64 (y : Int)) ∧ q1 < w'.heap.size ∧ w.heap.size < w'.heap.size ∧ w'.cell? ⟨w.heap.size, 1, none⟩ = some (.int .i64 f.games)) w9 := hSof21 _ (zbR _ _)
                  (try dsimp only at hS21)
                  cases ti
                  · refine wp_region_held_drew (S := (fun w' => Below w9.heap.size w9 w' ∧ w'.cell? ⟨q1, 0, none⟩ = some (.int .i64 (x : Int)) ∧ w'.cell? ⟨q1, 1, none⟩ = some (.int .i64 (y : Int)) ∧ q1 < w'.heap.size ∧ w.heap.size < w'.heap.size ∧ w'.cell? ⟨w.heap.size, 1, none⟩ = some (.int .i64 f.games))) (by kernel_rfl) ?_ (fun hD0 => ?_)
                    · (try dsimp only); first | assumption | exact hSof21 _ (zbD (zbR _ _)) | exact hSof21 _ (zbD (zbD (zbR _ _)))
                    refine tW ?_ 0 rfl (by kernel_rfl) (fun _ _ _ h => h) (by rfl) (by assumption) ?_ ?_; rotate_left; (focus (intro w hSw; (try dsimp only at hSw); go_simp; try with_reducible rfl)); try simp only [Act.put, zl, z0, z1]
                    refine tW ?_ 1 rfl (by kernel_rfl) (fun _ _ _ h => h) (by rfl) (by assumption) ?_ ?_; rotate_left; (focus (intro w hSw; (try dsimp only at hSw); go_simp; try with_reducible rfl)); try simp only [Act.put, zl, z0, z1]
                    refine tW ?_ 2 rfl (by kernel_rfl) (fun _ _ _ h => h) (by rfl) (by assumption) ?_ ?_; rotate_left; (focus (intro w hSw; (try dsimp only at hSw); go_simp; try with_reducible rfl)); try simp only [Act.put, zl, z0, z1]
                    refine tW ?_ 4 rfl (by kernel_rfl) (fun _ _ _ h => h) (by rfl) (by assumption) ?_ ?_; rotate_left; (focus (intro w hSw; (try dsimp only at hSw); go_simp; try with_reducible rfl)); try simp only [Act.put, zl, z0, z1]
                    refine tW ?_ 5 rfl (by kernel_rfl) (fun _ _ _ h => h) (by rfl) (by assumption) ?_ ?_; rotate_left; (focus (intro w hSw; (try dsimp only at hSw); go_simp; try with_reducible rfl)); try simp only [Act.put, zl, z0, z1]
                    refine wpAnyH_ready (rs := [3]) (by kernel_rfl) (by simp) ?_; refine consL 3 rfl (fun K hK => ?_) AllReadyH.nil; go_simp
                    (go_at_call 52; with_reducible refine (HPL1 _).out.mono ?_; rintro e wn0 ⟨rfl, hb⟩; have hSn : (fun w' => Below w9.heap.size w9 w' ∧ w'.cell? ⟨q1, 0, none⟩ = some (.int .i64 (x : Int)) ∧ w'.cell? ⟨q1, 1, none⟩ = some (.int .i64 (y : Int)) ∧ q1 < w'.heap.size ∧ w.heap.size < w'.heap.size ∧ w'.cell? ⟨w.heap.size, 1, none⟩ = some (.int .i64 f.games)) wn0 := hSof21 _ (zbT (hD0).1 hb (hD0).1.size); (try dsimp only at hSn); clear hb)
                    refine hK.out _ _ ?_ (fun hD1 => ?_)
                    · (try dsimp only); first | assumption | exact hSof21 _ (zbD (zbR _ _)) | exact hSof21 _ (zbD (zbD (zbR _ _)))
                    clear hK K hD0; try simp only [Act.put, zl, z0, z1]
                    refine wpAnyH_ready (rs := [6]) (by kernel_rfl) (by simp) ?_; refine consL 6 rfl (fun K hK => ?_) AllReadyH.nil; go_simp
                    (go_at_call 51; with_reducible refine (HLD1 _).out.mono ?_; rintro e wn0 ⟨rfl, hb⟩; have hSn : (fun w' => Below w9.heap.size w9 w' ∧ w'.cell? ⟨q1, 0, none⟩ = some (.int .i64 (x : Int)) ∧ w'.cell? ⟨q1, 1, none⟩ = some (.int .i64 (y : Int)) ∧ q1 < w'.heap.size ∧ w.heap.size < w'.heap.size ∧ w'.cell? ⟨w.heap.size, 1, none⟩ = some (.int .i64 f.games)) wn0 := hSof21 _ (zbT (hD1).1 hb (hD1).1.size); (try dsimp only at hSn); clear hb)
                    refine hK.out _ _ ?_ (fun hD2 => ?_)
                    · (try dsimp only); first | assumption | exact hSof21 _ (zbD (zbR _ _)) | exact hSof21 _ (zbD (zbD (zbR _ _)))
                    clear hK K hD1; try simp only [Act.put, zl, z0, z1]
                    refine tW ?_ 7 rfl (by kernel_rfl) (fun _ _ _ h => h) (by rfl) (by assumption) ?_ ?_; rotate_left; (focus (intro w hSw; (try dsimp only at hSw); go_simp; try with_reducible rfl)); try simp only [Act.put, zl, z0, z1]
                    refine tW ?_ 8 rfl (by kernel_rfl) (fun _ _ _ h => h) (by rfl) (by assumption) ?_ ?_; rotate_left; (focus (intro w hSw; (try dsimp only at hSw); go_simp; try with_reducible rfl)); try simp only [Act.put, zl, z0, z1]
                    refine wpAnyH_done (by kernel_rfl) ?_ _
                    go_wp2_with fail
                    go_meet
                    case rel => exact ⟨by rw [← HD2.out]; rfl, hide (by go_split_ands; assumption)⟩
                  · refine wp_region_held_drew (S := (fun w' => Below w9.heap.size w9 w' ∧ w'.cell? ⟨q1, 0, none⟩ = some (.int .i64 (x : Int)) ∧ w'.cell? ⟨q1, 1, none⟩ = some (.int .i64 (y : Int)) ∧ q1 < w'.heap.size ∧ w.heap.size < w'.heap.size ∧ w'.cell? ⟨w.heap.size, 1, none⟩ = some (.int .i64 f.games))) (by kernel_rfl) ?_ (fun hD0 => ?_)
                    · (try dsimp only); first | assumption | exact hSof21 _ (zbD (zbR _ _)) | exact hSof21 _ (zbD (zbD (zbR _ _)))
                    refine tW ?_ 0 rfl (by kernel_rfl) (fun _ _ _ h => h) (by rfl) (by assumption) ?_ ?_; rotate_left; (focus (intro w hSw; (try dsimp only at hSw); go_simp; try with_reducible rfl)); try simp only [Act.put, zl, z0, z1]
                    refine tW ?_ 1 rfl (by kernel_rfl) (fun _ _ _ h => h) (by rfl) (by assumption) ?_ ?_; rotate_left; (focus (intro w hSw; (try dsimp only at hSw); go_simp; try with_reducible rfl)); try simp only [Act.put, zl, z0, z1]
                    refine takeL 2 rfl (by kernel_rfl) (by kernel_rfl) (by kernel_rfl) (fun _ _ _ h => h) (Or.inr ⟨by rfl, rfl⟩) (by assumption) ?_; try simp only [Act.put, zl, z0, z1]
                    refine takeL 3 rfl (by kernel_rfl) (by kernel_rfl) (by kernel_rfl) (fun _ _ _ h => h) (Or.inr ⟨by rfl, rfl⟩) (by assumption) ?_; try simp only [Act.put, zl, z0, z1]
                    refine takeL 4 rfl (by kernel_rfl) (by kernel_rfl) (by kernel_rfl) (fun _ _ _ h => h) (Or.inr ⟨by rfl, rfl⟩) (by assumption) ?_; try simp only [Act.put, zl, z0, z1]
                    refine takeL 5 rfl (by kernel_rfl) (by kernel_rfl) (by kernel_rfl) (fun _ _ _ h => h) (Or.inr ⟨by rfl, rfl⟩) (by assumption) ?_; try simp only [Act.put, zl, z0, z1]
                    refine takeL 6 rfl (by kernel_rfl) (by kernel_rfl) (by kernel_rfl) (fun _ _ _ h => h) (Or.inr ⟨by rfl, rfl⟩) (by assumption) ?_; try simp only [Act.put, zl, z0, z1]
                    refine takeL 7 rfl (by kernel_rfl) (by kernel_rfl) (by kernel_rfl) (fun _ _ _ h => h) (Or.inr ⟨by rfl, rfl⟩) (by assumption) ?_; try simp only [Act.put, zl, z0, z1]
                    refine tW ?_ 8 rfl (by kernel_rfl) (fun _ _ _ h => h) (by rfl) (by assumption) ?_ ?_; rotate_left; (focus (intro w hSw; (try dsimp only at hSw); go_simp; try with_reducible rfl)); try simp only [Act.put, zl, z0, z1]
                    refine wpAnyH_done (by kernel_rfl) ?_ _
                    go_wp2_with fail
                    go_meet
                    case rel => exact ⟨by rw [← HD2.out]; rfl, hide (by go_split_ands; assumption)⟩
                case rest =>
                  obtain ⟨rfl, hbc⟩ := hcut
                  rename World => w10
                  have hb := hbc.out
                  have HQ0 := hide ((hb.block _ (blk_lt HQ0.out)).trans HQ0.out)
                  have HQ1 := hide ((hb.block _ (blk_lt HQ1.out)).trans HQ1.out)
                  have HQ2 := hide ((hb.block _ (blk_lt HQ2.out)).trans HQ2.out)
                  have HB := hide (zbT HB.out hb HB.out.size)
                  clear hb hbc
                  (try clear c00 c01 z0)
                  have c00 : w10.cell? ⟨q0, 0, none⟩ = some (.int .i64 X0.A) := (blk_cell HQ0.out 0).trans rfl
                  have c01 : w10.cell? ⟨q0, 1, none⟩ = some (.int .i64 X0.B) := (blk_cell HQ0.out 1).trans rfl
                  have z0 := blk_lt HQ0.out
                  (try clear c10 c11 z1)
                  have c10 : w10.cell? ⟨q1, 0, none⟩ = some (.int .i64 (x : Int)) := (blk_cell HQ1.out 0).trans rfl
                  have c11 : w10.cell? ⟨q1, 1, none⟩ = some (.int .i64 (y : Int)) := (blk_cell HQ1.out 1).trans rfl
                  have z1 := blk_lt HQ1.out
                  (try clear c20 c21 z2)
                  have c20 : w10.cell? ⟨q2, 0, none⟩ = some (.int .i64 X2.A) := (blk_cell HQ2.out 0).trans rfl
                  have c21 : w10.cell? ⟨q2, 1, none⟩ = some (.int .i64 X2.B) := (blk_cell HQ2.out 1).trans rfl
                  have z2 := blk_lt HQ2.out
                  (try clear hS)
                  have hS := HSO.out _ HB.out
                  (try dsimp only at hS)
                  go_upto_if 120 with fail
                  go_cut [19] from 121 to 127 (fun v wx => v = .int .i64 lvv ∧ Hid (Below w10.heap.size w10 wx))
                  case first =>
                    cases d2
                    · go_wp2_with fail
                      go_meet
                      case rel => exact ⟨by rw [← HLV2.out]; rfl, hide (by first | exact zbR _ _ | exact zbD (zbR _ _))⟩
                    · go_wp2_with (go_at_call 53; with_reducible refine (HFB _).out.mono ?_; rintro e wf ⟨rfl, hbf⟩; have HBF := hide hbf; clear hbf)
                      go_meet
                      case rel => exact ⟨by rw [← HLV2.out]; rfl, hide (by first | exact HBF.out | exact zbD HBF.out | exact zbT (zbD (zbR _ _)) HBF.out (Nat.le_refl _))⟩
                  case rest =>
                    obtain ⟨rfl, hbc⟩ := hcut
                    rename World => w11
                    have hb := hbc.out
                    have HQ0 := hide ((hb.block _ (blk_lt HQ0.out)).trans HQ0.out)
                    have HQ1 := hide ((hb.block _ (blk_lt HQ1.out)).trans HQ1.out)
                    have HQ2 := hide ((hb.block _ (blk_lt HQ2.out)).trans HQ2.out)
                    have HB := hide (zbT HB.out hb HB.out.size)
                    clear hb hbc
                    (try clear c00 c01 z0)
                    have c00 : w11.cell? ⟨q0, 0, none⟩ = some (.int .i64 X0.A) := (blk_cell HQ0.out 0).trans rfl
                    have c01 : w11.cell? ⟨q0, 1, none⟩ = some (.int .i64 X0.B) := (blk_cell HQ0.out 1).trans rfl
                    have z0 := blk_lt HQ0.out
                    (try clear c10 c11 z1)
                    have c10 : w11.cell? ⟨q1, 0, none⟩ = some (.int .i64 (x : Int)) := (blk_cell HQ1.out 0).trans rfl
                    have c11 : w11.cell? ⟨q1, 1, none⟩ = some (.int .i64 (y : Int)) := (blk_cell HQ1.out 1).trans rfl
                    have z1 := blk_lt HQ1.out
                    (try clear c20 c21 z2)
                    have c20 : w11.cell? ⟨q2, 0, none⟩ = some (.int .i64 X2.A) := (blk_cell HQ2.out 0).trans rfl
                    have c21 : w11.cell? ⟨q2, 1, none⟩ = some (.int .i64 X2.B) := (blk_cell HQ2.out 1).trans rfl
                    have z2 := blk_lt HQ2.out
                    (try clear hS)
                    have hS := HSO.out _ HB.out
                    (try dsimp only at hS)
                    obtain ⟨n1, hn1⟩ : ∃ q, M.needR X2.A X2.B la ad = q := ⟨_, rfl⟩
                    obtain ⟨n2, hn2⟩ : ∃ q, M.needR X2.B X2.A la ad = q := ⟨_, rfl⟩
                    have HN1 := fun (W : World) => hide (refNeed_any X2.A X2.B la ad W (by have := HPB.out; omega) (by have := HPB.out; omega) HLB.out)
                    have HN2 := fun (W : World) => hide (refNeed_any X2.B X2.A la ad W (by have := HPB.out; omega) (by have := HPB.out; omega) HLB.out)
                    have HNB := hide (show (-200 ≤ n1 ∧ n1 ≤ 200) ∧ (-200 ≤ n2 ∧ n2 ≤ 200) by
                      have h1 := HPB.out
                      have h2 := HLB.out
                      rw [← hn1, ← hn2]
                      unfold M.needR
                      constructor
                      · split <;> omega
                      · split <;> omega)
                    rw [hn1] at HN1 HV
                    rw [hn2] at HN2 HV
                    clear hn1 hn2
                    have hmn1 : IntKind.i64.wrap (n1 + wv) = n1 + wv := IntWalk.i64_in _ (by have h1 := HNB.out; have h2 := HVB.out; omega)
                    have hmn2 : IntKind.i64.wrap (n2 + lvv) = n2 + lvv := IntWalk.i64_in _ (by have h1 := HNB.out; have h2 := HVB.out; omega)
                    have hmm1 : (if n2 + lvv < n1 + wv then n2 + lvv else n1 + wv) = lv := by have h := HV.out; split <;> omega
                    have hmm2 : min (n1 + wv) (n2 + lvv) = lv := HV.out.symm
                    have HBZ := hide (zbT HBW2.out HB.out HBW2.out.size)
                    have hSof25 : ∀ w', Below w11.heap.size w11 w' → (fun w' => Below w11.heap.size w11 w' ∧ w'.cell? ⟨q2, 0, none⟩ = some (.int .i64 X2.A) ∧ w'.cell? ⟨q2, 1, none⟩ = some (.int .i64 X2.B) ∧ q2 < w'.heap.size) w' := fun w' hb => ⟨hb, (hb.cell (p := ⟨q2, 0, none⟩) z2).trans c20, (hb.cell (p := ⟨q2, 1, none⟩) z2).trans c21, Nat.lt_of_lt_of_le z2 hb.size⟩
                    go_upto_region 25 with fail
                    refine wp_region_held_drew (S := (fun w' => Below w11.heap.size w11 w' ∧ w'.cell? ⟨q2, 0, none⟩ = some (.int .i64 X2.A) ∧ w'.cell? ⟨q2, 1, none⟩ = some (.int .i64 X2.B) ∧ q2 < w'.heap.size)) (by kernel_rfl) ?_ (fun hD0 => ?_)
                    · (try dsimp only); first | assumption | exact hSof25 _ (zbD (zbR _ _)) | exact hSof25 _ (zbD (zbD (zbR _ _)))
                    refine tW ?_ 0 rfl (by kernel_rfl) (fun _ _ _ h => h) (by rfl) (by assumption) ?_ ?_; rotate_left; (focus (intro w hSw; (try dsimp only at hSw); go_simp; try with_reducible rfl)); try simp only [Act.put, zl, z0, z1]
                    refine tW ?_ 1 rfl (by kernel_rfl) (fun _ _ _ h => h) (by rfl) (by assumption) ?_ ?_; rotate_left; (focus (intro w hSw; (try dsimp only at hSw); go_simp; try with_reducible rfl)); try simp only [Act.put, zl, z0, z1]
                    refine tW ?_ 2 rfl (by kernel_rfl) (fun _ _ _ h => h) (by rfl) (by assumption) ?_ ?_; rotate_left; (focus (intro w hSw; (try dsimp only at hSw); go_simp; try with_reducible rfl)); try simp only [Act.put, zl, z0, z1]
                    refine tW ?_ 3 rfl (by kernel_rfl) (fun _ _ _ h => h) (by rfl) (by assumption) ?_ ?_; rotate_left; (focus (intro w hSw; (try dsimp only at hSw); go_simp; try with_reducible rfl)); try simp only [Act.put, zl, z0, z1]
                    refine tW ?_ 4 rfl (by kernel_rfl) (fun _ _ _ h => h) (by rfl) (by assumption) ?_ ?_; rotate_left; (focus (intro w hSw; (try dsimp only at hSw); go_simp; try with_reducible rfl)); try simp only [Act.put, zl, z0, z1]
                    refine tW ?_ 5 rfl (by kernel_rfl) (fun _ _ _ h => h) (by rfl) (by assumption) ?_ ?_; rotate_left; (focus (intro w hSw; (try dsimp only at hSw); go_simp; try with_reducible rfl)); try simp only [Act.put, zl, z0, z1]
                    refine tW ?_ 7 rfl (by kernel_rfl) (fun _ _ _ h => h) (by rfl) (by assumption) ?_ ?_; rotate_left; (focus (intro w hSw; (try dsimp only at hSw); go_simp; try with_reducible rfl)); try simp only [Act.put, zl, z0, z1]
                    refine tW ?_ 9 rfl (by kernel_rfl) (fun _ _ _ h => h) (by rfl) (by assumption) ?_ ?_; rotate_left; (focus (intro w hSw; (try dsimp only at hSw); go_simp; try with_reducible rfl)); try simp only [Act.put, zl, z0, z1]
                    refine tW ?_ 10 rfl (by kernel_rfl) (fun _ _ _ h => h) (by rfl) (by assumption) ?_ ?_; rotate_left; (focus (intro w hSw; (try dsimp only at hSw); go_simp; try with_reducible rfl)); try simp only [Act.put, zl, z0, z1]
                    refine tW ?_ 11 rfl (by kernel_rfl) (fun _ _ _ h => h) (by rfl) (by assumption) ?_ ?_; rotate_left; (focus (intro w hSw; (try dsimp only at hSw); go_simp; try with_reducible rfl)); try simp only [Act.put, zl, z0, z1]
                    refine tW ?_ 12 rfl (by kernel_rfl) (fun _ _ _ h => h) (by rfl) (by assumption) ?_ ?_; rotate_left; (focus (intro w hSw; (try dsimp only at hSw); go_simp; try with_reducible rfl)); try simp only [Act.put, zl, z0, z1]
                    refine tW ?_ 13 rfl (by kernel_rfl) (fun _ _ _ h => h) (by rfl) (by assumption) ?_ ?_; rotate_left; (focus (intro w hSw; (try dsimp only at hSw); go_simp; try with_reducible rfl)); try simp only [Act.put, zl, z0, z1]
                    refine tW ?_ 14 rfl (by kernel_rfl) (fun _ _ _ h => h) (by rfl) (by assumption) ?_ ?_; rotate_left; (focus (intro w hSw; (try dsimp only at hSw); go_simp; try with_reducible rfl)); try simp only [Act.put, zl, z0, z1]
                    refine tW ?_ 16 rfl (by kernel_rfl) (fun _ _ _ h => h) (by rfl) (by assumption) ?_ ?_; rotate_left; (focus (intro w hSw; (try dsimp only at hSw); go_simp; try with_reducible rfl)); try simp only [Act.put, zl, z0, z1]
                    refine wpAnyH_ready (rs := [6]) (by kernel_rfl) (by simp) ?_; refine consL 6 rfl (fun K hK => ?_) AllReadyH.nil; go_simp
                    ((go_at_call 54; first | (with_reducible refine (HN1 _).out.mono ?_; rintro e wn0 ⟨rfl, hb⟩; have hSn : (fun w' => Below w11.heap.size w11 w' ∧ w'.cell? ⟨q2, 0, none⟩ = some (.int .i64 X2.A) ∧ w'.cell? ⟨q2, 1, none⟩ = some (.int .i64 X2.B) ∧ q2 < w'.heap.size) wn0 := hSof25 _ (zbT (hD0).1 hb (hD0).1.size); (try dsimp only at hSn); clear hb) | (with_reducible refine (HN2 _).out.mono ?_; rintro e wn1 ⟨rfl, hb⟩; have hSn : (fun w' => Below w11.heap.size w11 w' ∧ w'.cell? ⟨q2, 0, none⟩ = some (.int .i64 X2.A) ∧ w'.cell? ⟨q2, 1, none⟩ = some (.int .i64 X2.B) ∧ q2 < w'.heap.size) wn1 := hSof25 _ (zbT (hD0).1 hb (hD0).1.size); (try dsimp only at hSn); clear hb)))
                    refine hK.out _ _ ?_ (fun hD1 => ?_)
                    · (try dsimp only); first | assumption | exact hSof25 _ (zbD (zbR _ _)) | exact hSof25 _ (zbD (zbD (zbR _ _)))
                    clear hK K hD0; try simp only [Act.put, zl, z0, z1]
                    refine tW ?_ 8 rfl (by kernel_rfl) (fun _ _ _ h => h) (by rfl) (by assumption) ?_ ?_; rotate_left; (focus (intro w hSw; (try dsimp only at hSw); go_simp; try with_reducible rfl)); try simp only [Act.put, zl, z0, z1]
                    refine wpAnyH_ready (rs := [15]) (by kernel_rfl) (by simp) ?_; refine consL 15 rfl (fun K hK => ?_) AllReadyH.nil; go_simp
                    ((go_at_call 54; first | (with_reducible refine (HN1 _).out.mono ?_; rintro e wn0 ⟨rfl, hb⟩; have hSn : (fun w' => Below w11.heap.size w11 w' ∧ w'.cell? ⟨q2, 0, none⟩ = some (.int .i64 X2.A) ∧ w'.cell? ⟨q2, 1, none⟩ = some (.int .i64 X2.B) ∧ q2 < w'.heap.size) wn0 := hSof25 _ (zbT (hD1).1 hb (hD1).1.size); (try dsimp only at hSn); clear hb) | (with_reducible refine (HN2 _).out.mono ?_; rintro e wn1 ⟨rfl, hb⟩; have hSn : (fun w' => Below w11.heap.size w11 w' ∧ w'.cell? ⟨q2, 0, none⟩ = some (.int .i64 X2.A) ∧ w'.cell? ⟨q2, 1, none⟩ = some (.int .i64 X2.B) ∧ q2 < w'.heap.size) wn1 := hSof25 _ (zbT (hD1).1 hb (hD1).1.size); (try dsimp only at hSn); clear hb)))
                    refine hK.out _ _ ?_ (fun hD2 => ?_)
                    · (try dsimp only); first | assumption | exact hSof25 _ (zbD (zbR _ _)) | exact hSof25 _ (zbD (zbD (zbR _ _)))
                    clear hK K hD1; try simp only [Act.put, zl, z0, z1]
                    refine tW ?_ 17 rfl (by kernel_rfl) (fun _ _ _ h => h) (by rfl) (by assumption) ?_ ?_; rotate_left; (focus (intro w hSw; (try dsimp only at hSw); go_simp; try with_reducible rfl)); try simp only [Act.put, zl, z0, z1]
                    refine tW ?_ 18 rfl (by kernel_rfl) (fun _ _ _ h => h) (by rfl) (by assumption) ?_ ?_; rotate_left; (focus (intro w hSw; (try dsimp only at hSw); go_simp; try with_reducible rfl)); try simp only [Act.put, zl, z0, z1]
                    refine tW ?_ 19 rfl (by kernel_rfl) (fun _ _ _ h => h) (by rfl) (by assumption) ?_ ?_; rotate_left; (focus (intro w hSw; (try dsimp only at hSw); go_simp; try with_reducible rfl)); try simp only [Act.put, zl, z0, z1]
                    refine tW ?_ 20 rfl (by kernel_rfl) (fun _ _ _ h => h) (by rfl) (by assumption) ?_ ?_; rotate_left; (focus (intro w hSw; (try dsimp only at hSw); go_simp; try with_reducible rfl)); try simp only [Act.put, zl, z0, z1]
                    refine wpAnyH_done (by kernel_rfl) ?_ _
                    all_goals
                      have HBY := hide (show Below w11.heap.size w11 _ by go_split_ands; assumption)
                      go_wp2_with fail
                      go_ret2
                      exact ⟨by rw [HE.out]; rfl, by first | exact zbT HBZ.out HBY.out HBZ.out.size | exact zbD (zbT HBZ.out HBY.out HBZ.out.size)⟩

end Go.Proofs.Ytmhaapghiecfcaa
