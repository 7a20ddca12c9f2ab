/-
  For every view, every box and every number the law LinesShows returns true and leaves its arguments as they were. No condition.
-/
import Derived.Test.YtgnobonhohfofaaZB01
import Derived.Test.YtgnobonhohfofaaZB02
import Derived.Test.YtgnobonhohfofaaZB03
namespace Go.Proofs.Ytgnobonhohfofaa
open Go.RowKit
attribute [local go_sem ↓] Go.wp_at_zero Go.wp_at_succ

namespace L
def nA (v : Vw) : Nat := (v.hxh - v.hxl + 1).toNat
def nB (v : Vw) : Nat := (v.hyh - v.hyl + 1).toNat
def trB (v : Vw) (c : Mk) (a : Int) (k : Nat) : List Mk := (List.range k).map fun (j : Nat) => ⟨c.x, c.y, a, v.hyl + (j : Int)⟩
def trA (v : Vw) (c : Mk) (k : Nat) : List Mk := (List.range k).flatMap fun (i : Nat) => trB v c (v.hxl + (i : Int)) (nB v)
def trC (v : Vw) (l : List Mk) : List Mk := l.flatMap fun c => trA v c (nA v)
def truths (v : Vw) : List Mk := trC v ((tcents v 0).map mk0)
theorem trB_next (v : Vw) (c : Mk) (a : Int) (k : Nat) : trB v c a (k + 1) = trB v c a k ++ [⟨c.x, c.y, a, v.hyl + (k : Int)⟩] := by unfold trB; rw [List.range_succ, List.map_append]; rfl
theorem trA_next (v : Vw) (c : Mk) (k : Nat) : trA v c (k + 1) = trA v c k ++ trB v c (v.hxl + (k : Int)) (nB v) := by unfold trA; rw [List.range_succ, List.flatMap_append]; simp
theorem trC_next (v : Vw) {l : List Mk} {i : Nat} {c : Mk} (h : l[i]? = some c) : trC v (l.take (i + 1)) = trC v (l.take i) ++ trA v c (nA v) := by
  unfold trC; rw [List.take_add_one, h, Option.toList_some, List.flatMap_append]; simp
theorem trB_len (v : Vw) (c : Mk) (a : Int) (k : Nat) : (trB v c a k).length = k := by unfold trB; simp
theorem trA_len (v : Vw) (c : Mk) : ∀ k, (trA v c k).length = k * nB v
  | 0 => by simp [trA]
  | k + 1 => by rw [trA_next, List.length_append, trA_len v c k, trB_len, Nat.add_mul, Nat.one_mul]
theorem trC_len (v : Vw) : ∀ l : List Mk, (trC v l).length = l.length * (nA v * nB v)
  | [] => by simp [trC]
  | c :: r => by
    have ih := trC_len v r
    unfold trC at ih ⊢
    rw [List.flatMap_cons, List.length_append, ih, trA_len, List.length_cons, Nat.add_mul, Nat.one_mul, Nat.add_comm]
end L
theorem step_app_marks {w : World} {ops : Array Oper} {o : Oper} {a : Act} {K : Act → World → Prop} {Q : Exit → Act → World → Prop} {E : Prop} (hgd : o.guard = none) (s x : Operand)
    (ho : o.op = .call { callee := .builtin .append, args := #[s, x], argTypes := #[93, 93] }) (base : Nat) (v : Value) (ps : List L.Mk) (m0 : Nat) (hs : a.eval s = v) (hown : w.ownsRow base 30 4 v m0 (flatM ps))
    (A : Option Addr) (n c : Nat) (ss : List L.Mk) (hx : a.eval x = .slice A n c) (hn : ss.length = n) (hr : RdM w w.heap.size A ss) (hA : A = none → c = 0) (h0 : m0 ≤ 1000000) (h1 : n ≤ 1000) (hbase : base ≤ w.heap.size) (N : Nat) (hN : m0 + n = N)
    (h : ∀ A' c' w', w'.ownsRow base 30 4 (.slice A' N c') N (flatM (ps ++ ss)) → w.grownBy w' v.ownBlock → K (a.put o.dst (.slice A' N c')) w') :
    if Region.wanted o (yielded ops a.tmps) = true then Oper.wp Try.prog o a w K Q else E := by
  subst hN
  have hw : Region.wanted o (yielded ops a.tmps) = true := by simp [Region.wanted, hgd]
  rw [if_pos hw]
  obtain ⟨A', c', w', hr', h2, h3⟩ := run_app_marks o.type base v ps m0 hown A n c ss hn hr hA h0 h1 hbase
  unfold Oper.wp execOp
  simp only [ho, resolve, invoke, builtin, Sem.run_bind, Sem.run_pure, Result.andThen_ok, List.map_toArray, List.map_cons, List.map_nil, hs, hx, hr']
  exact h A' c' w' h2 h3

set_option maxRecDepth 100000 in
set_option maxHeartbeats 6400000 in
theorem refTruths_any (v : L.Vw) (A : Option Addr) (n c : Nat) (w : World) (hv : L.VwW v) (hn : v.ss.length = n) (hr : RdS w w.heap.size A v.ss) :
    Calls Try.prog 73 #[.agg #[.int .i64 v.size, .slice A n c, .int .i64 v.wrong, .int .i64 v.hxl, .int .i64 v.hxh, .int .i64 v.hyl, .int .i64 v.hyh]] w fun e w' => ∃ sv c', e = .returned (.slice sv (L.truths v).length c') ∧ w'.ownsRow w.heap.size 30 4 (.slice sv (L.truths v).length c') (L.truths v).length (flatM (L.truths v)) ∧ Below w.heap.size w w' := by
  have HN := hide hn
  have HR := hide hr
  have HV := hide hv
  obtain ⟨N, hN⟩ : ∃ N : Nat, v.size = (N : Int) := ⟨v.size.toNat, (Int.toNat_of_nonneg hv.s0).symm⟩
  have HSz := hide hN
  obtain ⟨tc, htc⟩ : ∃ tc, (L.tcents v 0).map L.mk0 = tc := ⟨_, rfl⟩
  have HTC := hide htc
  have hlen : tc.length ≤ 1681 := by
    have h1 : (L.tcents v 0).length ≤ (L.cents v.size.toNat).length := List.length_filter_le _ _
    rw [L.cents_length] at h1
    have h2 : v.size.toNat + 1 ≤ 41 := by have := hv.s0; have := hv.s1; omega
    have h3 := Nat.mul_le_mul h2 h2
    rw [← htc, List.length_map]; omega
  have hnA : L.nA v ≤ 9 := by unfold L.nA; have := hv.x0; have := hv.x1; omega
  have hnB : L.nB v ≤ 9 := by unfold L.nB; have := hv.y0; have := hv.y1; omega
  have EA := hide (show v.hxl + (L.nA v : Int) = v.hxh + 1 by unfold L.nA; have := hv.xx; omega)
  have EB := hide (show v.hyl + (L.nB v : Int) = v.hyh + 1 by unfold L.nB; have := hv.yy; omega)
  have hAB : L.nA v * L.nB v ≤ 81 := Nat.mul_le_mul hnA hnB
  have HTr := hide (show L.trC v tc = L.truths v by rw [← htc]; rfl)
  have x0 : 1 ≤ v.hxl := hv.x0
  have x1 : v.hxh ≤ 9 := hv.x1
  have y0 : 1 ≤ v.hyl := hv.y0
  have y1 : v.hyh ≤ 9 := hv.y1
  clear hn hr hv hN htc
  go_enter Try.func73, Try.ntmps73
  go_upto_region 1 with fail
  obtain ⟨W0, hW0⟩ : ∃ W0, w.alloc (.cells #[.int .i64 v.size, .slice A n c, .int .i64 v.wrong, .int .i64 v.hxl, .int .i64 v.hxh, .int .i64 v.hyl, .int .i64 v.hyh] 26) = W0 := ⟨_, rfl⟩
  have gp : W0.heap[w.heap.size]? = some (.cells #[.int .i64 v.size, .slice A n c, .int .i64 v.wrong, .int .i64 v.hxl, .int .i64 v.hxh, .int .i64 v.hyl, .int .i64 v.hyh] 26 (0, 0)) := by
    rw [← hW0]; exact World.alloc_heap_new _ _
  have gs : W0.heap.size = w.heap.size + 1 := by rw [← hW0]; simp
  have gB : Below w.heap.size w W0 := by rw [← hW0]; (repeat' first | exact zbR _ _ | assumption | refine zbD ?_ | refine zbA ?_ ?_ _ | refine zbS ?_ ?_ _ | refine zbT ?_ (by assumption) ?_ | (simp; done) | (simp; omega) | omega)
  rw [hW0]
  clear hW0
  obtain ⟨p, hp⟩ : ∃ p, w.heap.size = p := ⟨_, rfl⟩
  rw [hp]
  rw [hp] at gp
  have lp : p < W0.heap.size := by omega
  have HR0 := hide ((HR.out.below gB).mono gB.size)
  have HP := hide hp
  have GB := hide gB
  have GP := hide gp
  have cp0 := (blk_cell gp 0).trans rfl; have cp1 := (blk_cell gp 1).trans rfl; have cp2 := (blk_cell gp 2).trans rfl; have cp3 := (blk_cell gp 3).trans rfl; have cp4 := (blk_cell gp 4).trans rfl; have cp5 := (blk_cell gp 5).trans rfl; have cp6 := (blk_cell gp 6).trans rfl
  clear gp gB HR hp gs
  go_wp2_with (go_at_call 64; refine (refCents_any v A n c N _ HV.out HSz.out HN.out HR0.out).mono ?_; rintro e w2 ⟨svc, cc, rfl, hownc, hb2⟩; rw [HTC.out] at hownc ⊢)
  have GP2 := hide ((hb2.block p lp).trans GP.out)
  have GB2 := hide (GB.out.trans (hb2.mono GB.out.size))
  have q2 := hb2.size
  have lp2 : p < w2.heap.size := by omega
  have HC2 := hide hownc
  clear cp0 cp1 cp2 cp3 cp4 cp5 cp6 hownc hb2 lp q2 GP GB HR0
  go_loopw [3, 5] (fun m t wr => ∃ i : Nat, i ≤ tc.length ∧ t = .int .i64 i ∧ (∃ sv c', m = .slice sv (L.trC v (tc.take i)).length c' ∧ Hid (wr.ownsRow w2.heap.size 30 4 (.slice sv (L.trC v (tc.take i)).length c') (L.trC v (tc.take i)).length (flatM (L.trC v (tc.take i))))) ∧ Below w2.heap.size w2 wr) (fun _ t _ => tc.length - (intOf t).toNat)
  case atStart => exact ⟨0, by omega, rfl, ⟨none, 0, rfl, hide (World.ownsRow_nil _ _ _ _)⟩, Below.refl _ _⟩
  case round =>
    obtain ⟨i, hi, rfl, ⟨sv, c', rfl, hown⟩, hB⟩ := hrel
    have qB := hB.size
    have bp := (hB.block p lp2).trans GP2.out
    have cp0 := (blk_cell bp 0).trans rfl; have cp1 := (blk_cell bp 1).trans rfl; have cp2 := (blk_cell bp 2).trans rfl; have cp3 := (blk_cell bp 3).trans rfl; have cp4 := (blk_cell bp 4).trans rfl; have cp5 := (blk_cell bp 5).trans rfl; have cp6 := (blk_cell bp 6).trans rfl
    have lpr : p < wr.heap.size := by omega
    have hi0 : (0 : Int) ≤ (i : Int) := by omega
    have hi1 : (i : Int) ≤ 1681 := by omega
    clear bp
    by_cases hlt : i < tc.length
    · obtain ⟨cm, hcm⟩ : ∃ cm, tc[i]? = some cm := ⟨_, List.getElem?_eq_getElem hlt⟩
      have HCM := hide hcm
      clear hcm
      have hlt' : (i : Int) < (tc.length : Int) := by omega
      go_wp2_with fail
      clear cp0 cp1 cp2 cp3 cp4 cp5 cp6
      go_loopw [3, 6] (fun m t wr => ∃ k : Nat, k ≤ L.nA v ∧ t = .int .i64 (v.hxl + (k : Int)) ∧ (∃ sv c', m = .slice sv (L.trC v (tc.take i) ++ L.trA v cm k).length c' ∧ Hid (wr.ownsRow w2.heap.size 30 4 (.slice sv (L.trC v (tc.take i) ++ L.trA v cm k).length c') (L.trC v (tc.take i) ++ L.trA v cm k).length (flatM (L.trC v (tc.take i) ++ L.trA v cm k)))) ∧ Below w2.heap.size w2 wr) (fun _ t _ => (v.hxh + 1 - intOf t).toNat)
      case atStart => exact ⟨0, by omega, by simp, ⟨sv, c', by rw [show L.trA v cm 0 = [] from rfl, List.append_nil], by rw [show L.trA v cm 0 = [] from rfl, List.append_nil]; exact hown⟩, hB⟩
      case round =>
        clear hown hB qB lpr
        obtain ⟨k, hk, rfl, ⟨sv, c', rfl, hown⟩, hB⟩ := hrel
        have qB := hB.size
        have bp := (hB.block p lp2).trans GP2.out
        have cp0 := (blk_cell bp 0).trans rfl; have cp1 := (blk_cell bp 1).trans rfl; have cp2 := (blk_cell bp 2).trans rfl; have cp3 := (blk_cell bp 3).trans rfl; have cp4 := (blk_cell bp 4).trans rfl; have cp5 := (blk_cell bp 5).trans rfl; have cp6 := (blk_cell bp 6).trans rfl
        have lpr : p < wr.heap.size := by omega
        have hk0 : (0 : Int) ≤ (k : Int) := by omega
        have hk9 : (k : Int) ≤ 9 := by omega
        have ea := EA.out
        clear bp
        by_cases hlt2 : k < L.nA v
        · have hlt2' : v.hxl + (k : Int) ≤ v.hxh := by omega
          clear ea
          go_wp2_with fail
          clear cp0 cp1 cp2 cp3 cp4 cp5 cp6
          go_loopw [3, 7] (fun m t wr => ∃ l : Nat, l ≤ L.nB v ∧ t = .int .i64 (v.hyl + (l : Int)) ∧ (∃ sv c', m = .slice sv (L.trC v (tc.take i) ++ L.trA v cm k ++ L.trB v cm (v.hxl + (k : Int)) l).length c' ∧ Hid (wr.ownsRow w2.heap.size 30 4 (.slice sv (L.trC v (tc.take i) ++ L.trA v cm k ++ L.trB v cm (v.hxl + (k : Int)) l).length c') (L.trC v (tc.take i) ++ L.trA v cm k ++ L.trB v cm (v.hxl + (k : Int)) l).length (flatM (L.trC v (tc.take i) ++ L.trA v cm k ++ L.trB v cm (v.hxl + (k : Int)) l)))) ∧ Below w2.heap.size w2 wr) (fun _ t _ => (v.hyh + 1 - intOf t).toNat)
          case atStart => exact ⟨0, by omega, by simp, ⟨sv, c', by rw [show L.trB v cm (v.hxl + (k : Int)) 0 = [] from rfl, List.append_nil], by rw [show L.trB v cm (v.hxl + (k : Int)) 0 = [] from rfl, List.append_nil]; exact hown⟩, hB⟩
          case round =>
            clear hown hB qB lpr
            obtain ⟨l, hl, rfl, ⟨sv, c', rfl, hown⟩, hB⟩ := hrel
            have qB := hB.size
            have bp := (hB.block p lp2).trans GP2.out
            have cp0 := (blk_cell bp 0).trans rfl; have cp1 := (blk_cell bp 1).trans rfl; have cp2 := (blk_cell bp 2).trans rfl; have cp3 := (blk_cell bp 3).trans rfl; have cp4 := (blk_cell bp 4).trans rfl; have cp5 := (blk_cell bp 5).trans rfl; have cp6 := (blk_cell bp 6).trans rfl
            have lpr : p < wr.heap.size := by omega
            have hl0 : (0 : Int) ≤ (l : Int) := by omega
            have hl9 : (l : Int) ≤ 9 := by omega
            have eb := EB.out
            by_cases hlt3 : l < L.nB v
            · have hlt3' : v.hyl + (l : Int) ≤ v.hyh := by omega
              clear eb
              obtain ⟨outl, hout⟩ : ∃ outl, L.trC v (tc.take i) ++ L.trA v cm k ++ L.trB v cm (v.hxl + (k : Int)) l = outl := ⟨_, rfl⟩
              have hol : outl.length ≤ 200000 := by
                rw [← hout, List.length_append, List.length_append, L.trC_len, L.trA_len, L.trB_len, List.length_take]
                have h1 : min i tc.length * (L.nA v * L.nB v) ≤ 1681 * 81 := Nat.mul_le_mul (by omega) hAB
                have h2 : k * L.nB v ≤ 9 * 9 := Nat.mul_le_mul (by omega) hnB
                omega
              have HOut := hide hout
              obtain ⟨g, cap, e, hbg, hgl⟩ := HC2.out.form (by omega)
              have e' : svc = some ⟨g, 0, none⟩ ∧ cc = cap := by
                simp only [Value.slice.injEq] at e
                exact ⟨e.1, e.2.2⟩
              obtain ⟨rfl, rfl⟩ := e'
              obtain ⟨m0, m1, m2, m3⟩ := flatM_at HCM.out
              have s0 := (hB.cell (p := ⟨g, i * 4, none⟩) hgl).trans ((HC2.out.cellAt (i * 4) (by omega)).trans m0)
              have s1 := (hB.cell (p := ⟨g, i * 4 + 1, none⟩) hgl).trans ((HC2.out.cellAt (i * 4 + 1) (by omega)).trans m1)
              rw [hout] at hown ⊢
              have lgr : g < wr.heap.size := by omega
              clear e m0 m1 m2 m3 bp hout
              go_upto_region 12 with fail
              have hS : (fun w' => Below w2.heap.size w2 w' ∧ p < w'.heap.size ∧ g < w'.heap.size ∧ w'.cell? ⟨g, i * 4, none⟩ = some (.int .i64 cm.x) ∧ w'.cell? ⟨g, i * 4 + 1, none⟩ = some (.int .i64 cm.y)) wr := ⟨hB, lpr, lgr, s0, s1⟩
              have HO1 := hide hown.out
              have q1 := qB
              obtain ⟨W1, hW1⟩ : ∃ W1, wr = W1 := ⟨_, rfl⟩
              rw [hW1] at hS HO1 q1 ⊢
              clear hW1 hown hB qB lpr lgr s0 s1 cp0 cp1 cp2 cp3 cp4 cp5 cp6
              have hkeep : ∀ u u' : World, Below w2.heap.size u u' → (Below w2.heap.size w2 u ∧ p < u.heap.size ∧ g < u.heap.size ∧ u.cell? ⟨g, i * 4, none⟩ = some (.int .i64 cm.x) ∧ u.cell? ⟨g, i * 4 + 1, none⟩ = some (.int .i64 cm.y)) → (Below w2.heap.size w2 u' ∧ p < u'.heap.size ∧ g < u'.heap.size ∧ u'.cell? ⟨g, i * 4, none⟩ = some (.int .i64 cm.x) ∧ u'.cell? ⟨g, i * 4 + 1, none⟩ = some (.int .i64 cm.y)) := by
                rintro u u' hb ⟨hB, l_p, l_g, k0, k1⟩
                exact ⟨hB.trans hb, Nat.lt_of_lt_of_le l_p hb.size, Nat.lt_of_lt_of_le l_g hb.size, (hb.cell (p := ⟨g, i * 4, none⟩) hgl).trans k0, (hb.cell (p := ⟨g, i * 4 + 1, none⟩) hgl).trans k1⟩
              (try dsimp only at hS)
              refine wp_region_held_drew (S := (fun w' => Below w2.heap.size w2 w' ∧ p < w'.heap.size ∧ g < w'.heap.size ∧ w'.cell? ⟨g, i * 4, none⟩ = some (.int .i64 cm.x) ∧ w'.cell? ⟨g, i * 4 + 1, none⟩ = some (.int .i64 cm.y))) (by kernel_rfl) ?_ (fun hHeld0 => ?_)
              · (try dsimp only); first | exact hkeep _ _ hg7 (by assumption) | exact hkeep _ _ (zbA (zbR _ _) (show w2.heap.size ≤ _ by simp; omega) _) (by assumption) | exact hkeep _ _ (zbD (zbR _ _)) hS | (first | (go_keep; done) | (go_split_ands; (repeat' apply And.intro) <;> first | (go_keep; done) | (simp [*, zcA, zcP, zfA, zfP]; done) | (simp [zcA, zcP] <;> rfl) | (simp [*, zsS, zsO, zsA]; done) | ((first | refine (hc _ _ ?_).trans ?_ | refine (hf _ _ ?_).trans ?_) <;> first | assumption | (simp; done) | (simp; omega) | omega | (go_keep; done) | (simp [*, zcA, zcP, zfA, zfP]; done) | (simp [zcA, zcP]; rfl)) | (repeat' first | exact zbR _ _ | assumption | refine zbD ?_ | refine zbA ?_ ?_ _ | refine zbS ?_ ?_ _ | refine zbT ?_ (by assumption) ?_ | (simp; done) | (simp; omega) | omega)))
              refine tL (v := ?_) 0 rfl (by kernel_rfl) (fun _ _ _ h => h) (Or.inl ⟨by rfl, ?_⟩) (by assumption) ?_; rotate_left
              · (intro w hSw; (try dsimp only at hSw); go_simp; try with_reducible rfl)
              try simp only [Act.put, zl, z0, z1]
              refine tL (v := ?_) 1 rfl (by kernel_rfl) (fun _ _ _ h => h) (Or.inl ⟨by rfl, ?_⟩) (by assumption) ?_; rotate_left
              · (intro w hSw; (try dsimp only at hSw); go_simp; try with_reducible rfl)
              try simp only [Act.put, zl, z0, z1]
              refine tL (v := ?_) 2 rfl (by kernel_rfl) (fun _ _ _ h => h) (Or.inl ⟨by rfl, ?_⟩) (by assumption) ?_; rotate_left
              · (intro w hSw; (try dsimp only at hSw); go_simp; try with_reducible rfl)
              try simp only [Act.put, zl, z0, z1]
              refine tL (v := ?_) 3 rfl (by kernel_rfl) (fun _ _ _ h => h) (Or.inl ⟨by rfl, ?_⟩) (by assumption) ?_; rotate_left
              · (intro w hSw; (try dsimp only at hSw); go_simp; try with_reducible rfl)
              try simp only [Act.put, zl, z0, z1]
              refine tL (v := ?_) 4 rfl (by kernel_rfl) (fun _ _ _ h => h) (Or.inl ⟨by rfl, ?_⟩) (by assumption) ?_; rotate_left
              · (intro w hSw; (try dsimp only at hSw); go_simp; try with_reducible rfl)
              try simp only [Act.put, zl, z0, z1]
              refine tL (v := ?_) 5 rfl (by kernel_rfl) (fun _ _ _ h => h) (Or.inl ⟨by rfl, ?_⟩) (by assumption) ?_; rotate_left
              · (intro w hSw; (try dsimp only at hSw); go_simp; try with_reducible rfl)
              try simp only [Act.put, zl, z0, z1]
              refine tL (v := ?_) 6 rfl (by kernel_rfl) (fun _ _ _ h => h) (Or.inl ⟨by rfl, ?_⟩) (by assumption) ?_; rotate_left
              · (intro w hSw; (try dsimp only at hSw); go_simp; try with_reducible rfl)
              try simp only [Act.put, zl, z0, z1]
              refine tL (v := ?_) 7 rfl (by kernel_rfl) (fun _ _ _ h => h) (Or.inl ⟨by rfl, ?_⟩) (by assumption) ?_; rotate_left
              · (intro w hSw; (try dsimp only at hSw); go_simp; try with_reducible rfl)
              try simp only [Act.put, zl, z0, z1]
              refine tL (v := ?_) 8 rfl (by kernel_rfl) (fun _ _ _ h => h) (Or.inl ⟨by rfl, ?_⟩) (by assumption) ?_; rotate_left
              · (intro w hSw; (try dsimp only at hSw); go_simp; try with_reducible rfl)
              try simp only [Act.put, zl, z0, z1]
              refine tL (v := ?_) 9 rfl (by kernel_rfl) (fun _ _ _ h => h) (Or.inl ⟨by rfl, ?_⟩) (by assumption) ?_; rotate_left
              · (intro w hSw; (try dsimp only at hSw); go_simp; try with_reducible rfl)
              try simp only [Act.put, zl, z0, z1]
              refine tL (v := ?_) 10 rfl (by kernel_rfl) (fun _ _ _ h => h) (Or.inl ⟨by rfl, ?_⟩) (by assumption) ?_; rotate_left
              · (intro w hSw; (try dsimp only at hSw); go_simp; try with_reducible rfl)
              try simp only [Act.put, zl, z0, z1]
              refine tL (v := ?_) 11 rfl (by kernel_rfl) (fun _ _ _ h => h) (Or.inl ⟨by rfl, ?_⟩) (by assumption) ?_; rotate_left
              · (intro w hSw; (try dsimp only at hSw); go_simp; try with_reducible rfl)
              try simp only [Act.put, zl, z0, z1]
              refine tL (v := ?_) 12 rfl (by kernel_rfl) (fun _ _ _ h => h) (Or.inl ⟨by rfl, ?_⟩) (by assumption) ?_; rotate_left
              · (intro w hSw; (try dsimp only at hSw); go_simp; try with_reducible rfl)
              try simp only [Act.put, zl, z0, z1]
              refine tL (v := ?_) 13 rfl (by kernel_rfl) (fun _ _ _ h => h) (Or.inl ⟨by rfl, ?_⟩) (by assumption) ?_; rotate_left
              · (intro w hSw; (try dsimp only at hSw); go_simp; try with_reducible rfl)
              try simp only [Act.put, zl, z0, z1]
              refine wpAnyH_ready (rs := [14]) (by kernel_rfl) (by simp) ?_
              refine consL 14 rfl (fun K hK => ?_) AllReadyH.nil
              go_simp
              refine hK.out _ _ ?_ (fun hHeld1 => ?_)
              · (try dsimp only); first | exact hkeep _ _ hg7 (by assumption) | exact hkeep _ _ (zbA (zbR _ _) (show w2.heap.size ≤ _ by simp; omega) _) (by assumption) | exact hkeep _ _ (zbD (zbR _ _)) hS | (first | (go_keep; done) | (go_split_ands; (repeat' apply And.intro) <;> first | (go_keep; done) | (simp [*, zcA, zcP, zfA, zfP]; done) | (simp [zcA, zcP] <;> rfl) | (simp [*, zsS, zsO, zsA]; done) | ((first | refine (hc _ _ ?_).trans ?_ | refine (hf _ _ ?_).trans ?_) <;> first | assumption | (simp; done) | (simp; omega) | omega | (go_keep; done) | (simp [*, zcA, zcP, zfA, zfP]; done) | (simp [zcA, zcP]; rfl)) | (repeat' first | exact zbR _ _ | assumption | refine zbD ?_ | refine zbA ?_ ?_ _ | refine zbS ?_ ?_ _ | refine zbT ?_ (by assumption) ?_ | (simp; done) | (simp; omega) | omega)))
              clear hK K hHeld0
              try simp only [Act.put, zl, z0, z1]
              refine wpAnyH_ready (rs := [15]) (by kernel_rfl) (by simp) ?_
              refine consL 15 rfl (fun K hK => ?_) AllReadyH.nil
              (refine step_app_marks rfl (.tmp 36) (.tmp 50) rfl w2.heap.size _ outl _ rfl (HO1.out.drew.alloc _) (some ⟨_, 0, none⟩) 1 1 [⟨cm.x, cm.y, v.hxl + (k : Int), v.hyl + (l : Int)⟩] rfl rfl (rdM_one (World.alloc_heap_new _ _)) (fun e => by cases e) (by omega) (by omega) (by simp; omega) _ rfl ?_; intro A2 c2 w7 hown2 hgrow; have hg7 := grown_below (B := w2.heap.size) hgrow (by simp; omega) (fun g hg => (HO1.out.lt g hg).1); have HO2 := hide hown2; clear hown2 hgrow)
              refine hK.out _ _ ?_ (fun hHeld2 => ?_)
              · (try dsimp only); first | exact hkeep _ _ hg7 (by assumption) | exact hkeep _ _ (zbA (zbR _ _) (show w2.heap.size ≤ _ by simp; omega) _) (by assumption) | exact hkeep _ _ (zbD (zbR _ _)) hS | (first | (go_keep; done) | (go_split_ands; (repeat' apply And.intro) <;> first | (go_keep; done) | (simp [*, zcA, zcP, zfA, zfP]; done) | (simp [zcA, zcP] <;> rfl) | (simp [*, zsS, zsO, zsA]; done) | ((first | refine (hc _ _ ?_).trans ?_ | refine (hf _ _ ?_).trans ?_) <;> first | assumption | (simp; done) | (simp; omega) | omega | (go_keep; done) | (simp [*, zcA, zcP, zfA, zfP]; done) | (simp [zcA, zcP]; rfl)) | (repeat' first | exact zbR _ _ | assumption | refine zbD ?_ | refine zbA ?_ ?_ _ | refine zbS ?_ ?_ _ | refine zbT ?_ (by assumption) ?_ | (simp; done) | (simp; omega) | omega)))
              clear hK K hHeld1
              try simp only [Act.put, zl, z0, z1]
              refine tL (v := ?_) 16 rfl (by kernel_rfl) (fun _ _ _ h => h) (Or.inl ⟨by rfl, ?_⟩) (by assumption) ?_; rotate_left
              · (intro w hSw; (try dsimp only at hSw); go_simp; try with_reducible rfl)
              try simp only [Act.put, zl, z0, z1]
              refine wpAnyH_done (by kernel_rfl) ?_ _
              all_goals
                have HB7 := hide (show Below w2.heap.size w2 w7 by go_split_ands; assumption)
                have HE := hide (show L.trC v (tc.take i) ++ L.trA v cm k ++ L.trB v cm (v.hxl + (k : Int)) (l + 1) = outl ++ [⟨cm.x, cm.y, v.hxl + (k : Int), v.hyl + (l : Int)⟩] by rw [L.trB_next, ← List.append_assoc, HOut.out])
                have HL := hide (show (L.trC v (tc.take i) ++ L.trA v cm k ++ L.trB v cm (v.hxl + (k : Int)) (l + 1)).length = outl.length + 1 by rw [HE.out, List.length_append]; rfl)
                clear hkeep hS HOut
                go_wp2_with fail
                go_roundw
                case rel => exact ⟨l + 1, by omega, by go_num, ⟨A2, c2, by rw [HL.out], hide (by rw [HL.out, HE.out]; exact HO2.out)⟩, HB7.out⟩
                case measure => simp [intOf]; omega
            · have hln : l = L.nB v := by omega
              subst hln
              have hgt : v.hyh < v.hyl + (L.nB v : Int) := by omega
              clear eb bp
              have HE := hide (show L.trC v (tc.take i) ++ L.trA v cm (k + 1) = L.trC v (tc.take i) ++ L.trA v cm k ++ L.trB v cm (v.hxl + (k : Int)) (L.nB v) by rw [L.trA_next, List.append_assoc])
              go_wp2_with fail
              go_roundw
              case rel => exact ⟨k + 1, by omega, by go_num, ⟨sv, c', by rw [HE.out], hide (by rw [HE.out]; exact hown.out)⟩, hB⟩
              case measure => simp [intOf]; omega
        · have hkn : k = L.nA v := by omega
          subst hkn
          have hgt : v.hxh < v.hxl + (L.nA v : Int) := by omega
          clear ea
          have HE := hide (L.trC_next v HCM.out)
          go_wp2_with fail
          go_roundw
          case rel => exact ⟨i + 1, by omega, by go_num, ⟨sv, c', by rw [HE.out], hide (by rw [HE.out]; exact hown.out)⟩, hB⟩
          case measure => simp [intOf]; omega
    · have hin : i = tc.length := by omega
      subst hin
      have HE := hide (show L.trC v (tc.take tc.length) = L.truths v by rw [List.take_of_length_le (Nat.le_refl _)]; exact HTr.out)
      go_wp2_with fail
      go_ret
      refine ⟨sv, c', ?_, ?_, ?_⟩
      · rw [← HE.out]; rfl
      · rw [← HE.out]; exact owns_mono hown.out GB2.out.size
      · exact GB2.out.trans (hB.mono GB2.out.size)

end Go.Proofs.Ytgnobonhohfofaa

namespace Go.Proofs.Ytgnobonhohfofaa
open Go.RowKit
attribute [local go_sem ↓] Go.wp_at_zero Go.wp_at_succ

namespace L
theorem truths_mem {v : Vw} {m : Mk} (h : m ∈ truths v) : ∃ c ∈ tcents v 0, m.x = c.1 ∧ m.y = c.2 ∧ v.hxl ≤ m.hx ∧ m.hx ≤ v.hxh ∧ v.hyl ≤ m.hy ∧ m.hy ≤ v.hyh := by
  unfold truths trC at h
  obtain ⟨k, hk, h⟩ := List.mem_flatMap.1 h
  obtain ⟨c, hc, rfl⟩ := List.mem_map.1 hk
  unfold trA at h
  obtain ⟨i, hi, h⟩ := List.mem_flatMap.1 h
  unfold trB at h
  obtain ⟨j, hj, rfl⟩ := List.mem_map.1 h
  rw [List.mem_range] at hi hj
  unfold nA at hi
  unfold nB at hj
  exact ⟨c, hc, rfl, rfl, by dsimp only; omega, by dsimp only; omega, by dsimp only; omega, by dsimp only; omega⟩
theorem truths_of {v : Vw} {c : Int × Int} (hc : c ∈ tcents v 0) {p q : Int} (h1 : v.hxl ≤ p) (h2 : p ≤ v.hxh) (h3 : v.hyl ≤ q) (h4 : q ≤ v.hyh) : (⟨c.1, c.2, p, q⟩ : Mk) ∈ truths v := by
  unfold truths trC
  refine List.mem_flatMap.2 ⟨mk0 c, List.mem_map.2 ⟨c, hc, rfl⟩, ?_⟩
  unfold trA
  refine List.mem_flatMap.2 ⟨(p - v.hxl).toNat, List.mem_range.2 (by unfold nA; omega), ?_⟩
  unfold trB
  refine List.mem_map.2 ⟨(q - v.hyl).toNat, List.mem_range.2 (by unfold nB; omega), ?_⟩
  have e1 : v.hxl + ((p - v.hxl).toNat : Int) = p := by omega
  have e2 : v.hyl + ((q - v.hyl).toNat : Int) = q := by omega
  rw [e1, e2]
  rfl
def cntT (b : Bx) (l : List Mk) : Nat := (l.filter fun m => touch m b).length
theorem cntT_le (b : Bx) (l : List Mk) : cntT b l ≤ l.length := List.length_filter_le _ _
theorem cntT_next (b : Bx) {l : List Mk} {i : Nat} {m : Mk} (h : l[i]? = some m) : cntT b (l.take (i + 1)) = cntT b (l.take i) + (if touch m b then 1 else 0) := by
  unfold cntT
  rw [List.take_add_one, h, Option.toList_some, List.filter_append, List.length_append]
  congr 1
  cases ht : touch m b <;> simp [List.filter_cons, ht]
def callR (l : List Mk) (b : Bx) : Int := if l.length = 0 then 0 else if cntT b l = l.length then 1 else if cntT b l = 0 then 2 else 3
theorem callR_eq {v : Vw} (hv : VwW v) (b : Bx) : callR (truths v) b = callOf v b 0 := by
  have lowT : ∀ m ∈ truths v, ¬ outAt' v b 0 → touch m b = true := fun m hm ho => by
    obtain ⟨c, hc, e1, e2, h1, h2, h3, h4⟩ := truths_mem hm
    cases hl : touch ⟨c.1, c.2, v.hxl, v.hyl⟩ b
    · exact (ho ⟨c, hc, hl⟩).elim
    · obtain ⟨x, y, p, q⟩ := m
      dsimp only at e1 e2 h1 h3
      subst e1 e2
      exact touch_axes hv.x0 hv.y0 h1 h3 hl
  have highF : ∀ m ∈ truths v, ¬ inAt' v b 0 → touch m b = false := fun m hm ho => by
    obtain ⟨c, hc, e1, e2, h1, h2, h3, h4⟩ := truths_mem hm
    cases hl : touch m b
    · rfl
    · refine (ho ⟨c, hc, ?_⟩).elim
      obtain ⟨x, y, p, q⟩ := m
      dsimp only at e1 e2 h1 h2 h3 h4
      subst e1 e2
      exact touch_axes (by have := hv.x0; omega) (by have := hv.y0; omega) h2 h4 hl
  have inM : inAt' v b 0 → ∃ m ∈ truths v, touch m b = true := fun ⟨c, hc, h⟩ => ⟨_, truths_of hc hv.xx (Int.le_refl _) hv.yy (Int.le_refl _), h⟩
  have outM : outAt' v b 0 → ∃ m ∈ truths v, touch m b = false := fun ⟨c, hc, h⟩ => ⟨_, truths_of hc (Int.le_refl _) hv.xx (Int.le_refl _) hv.yy, h⟩
  have pos : ∀ m ∈ truths v, (truths v).length ≠ 0 := fun m hm e => by rw [List.eq_nil_of_length_eq_zero e] at hm; cases hm
  have all : (∀ m ∈ truths v, touch m b = true) → cntT b (truths v) = (truths v).length := fun h => List.length_filter_eq_length_iff.2 (by simpa using h)
  have none : (∀ m ∈ truths v, touch m b = false) → cntT b (truths v) = 0 := fun h => by
    unfold cntT
    rw [List.length_eq_zero_iff, List.filter_eq_nil_iff]
    intro m hm
    rw [h m hm]
    decide
  unfold callR
  rcases call_cases v b 0 with ⟨e, h1, h2⟩ | ⟨e, h1, h2⟩ | ⟨e, h1, h2⟩ | ⟨e, h1, h2⟩
  · rw [e, if_pos]
    rcases hl : truths v with _ | ⟨m, r⟩
    · rfl
    · have hm : m ∈ truths v := by rw [hl]; simp
      have a1 := lowT m hm h2
      have a2 := highF m hm h1
      rw [a1] at a2
      cases a2
  · obtain ⟨m, hm, _⟩ := inM h1
    rw [e, if_neg (pos m hm), if_pos (all (fun m hm => lowT m hm h2))]
  · obtain ⟨m, hm, _⟩ := outM h2
    have := none (fun m hm => highF m hm h1)
    have hp := pos m hm
    rw [e, if_neg hp, if_neg (by omega), if_pos this]
  · obtain ⟨m, hm, ht⟩ := inM h1
    obtain ⟨m', hm', ht'⟩ := outM h2
    have a1 : cntT b (truths v) ≠ (truths v).length := fun h => by
      have := List.length_filter_eq_length_iff.1 h m' hm'
      rw [ht'] at this
      cases this
    have a2 : cntT b (truths v) ≠ 0 := fun h => by
      unfold cntT at h
      rw [List.length_eq_zero_iff, List.filter_eq_nil_iff] at h
      exact h m hm ht
    rw [e, if_neg (pos m hm), if_neg a1, if_neg a2]
theorem truths_ok {v : Vw} (hv : VwW v) {m : Mk} (h : m ∈ truths v) : MkOk m := by
  obtain ⟨c, hc, e1, e2, h1, h2, h3, h4⟩ := truths_mem h
  unfold tcents at hc
  obtain ⟨a1, a2, a3, a4⟩ := mem_cents (List.mem_filter.1 hc).1
  have := hv.s0; have := hv.s1; have := hv.x0; have := hv.x1; have := hv.y0; have := hv.y1
  exact ⟨by omega, by omega, by omega, by omega, by omega, by omega, by omega, by omega⟩
theorem truths_len {v : Vw} (hv : VwW v) : (truths v).length ≤ 200000 := by
  unfold truths
  rw [trC_len, List.length_map]
  have h1 : (tcents v 0).length ≤ (cents v.size.toNat).length := List.length_filter_le _ _
  rw [cents_length] at h1
  have h2 : v.size.toNat + 1 ≤ 41 := by have := hv.s0; have := hv.s1; omega
  have h3 := Nat.mul_le_mul h2 h2
  have hnA : nA v ≤ 9 := by unfold nA; have := hv.x0; have := hv.x1; omega
  have hnB : nB v ≤ 9 := by unfold nB; have := hv.y0; have := hv.y1; omega
  have h4 := Nat.mul_le_mul hnA hnB
  have h5 := Nat.mul_le_mul (show (tcents v 0).length ≤ 1681 by omega) h4
  omega
end L

set_option maxRecDepth 100000 in
set_option maxHeartbeats 6400000 in
theorem refcall_any (v : L.Vw) (A : Option Addr) (n c : Nat) (b : L.Bx) (w : World) (hv : L.VwW v) (hb : L.BxOk b) (hn : v.ss.length = n) (hr : RdS w w.heap.size A v.ss) :
    Calls Try.prog 67 #[.agg #[.int .i64 v.size, .slice A n c, .int .i64 v.wrong, .int .i64 v.hxl, .int .i64 v.hxh, .int .i64 v.hyl, .int .i64 v.hyh], .agg #[.int .i64 b.l, .int .i64 b.r, .int .i64 b.b, .int .i64 b.t]] w fun e w' => e = .returned (.int .i64 (L.callOf v b 0)) ∧ Below w.heap.size w w' := by
  have HN := hide hn
  have HR := hide hr
  have HV := hide hv
  have HB := hide hb
  have HE := hide (L.callR_eq hv b)
  obtain ⟨tl, htl⟩ : ∃ tl, L.truths v = tl := ⟨_, rfl⟩
  have HTL := hide htl
  have hlen : tl.length ≤ 200000 := by rw [← htl]; exact L.truths_len hv
  have HOKS := hide (show ∀ m ∈ tl, L.MkOk m from fun m hm => L.truths_ok hv (by rw [htl]; exact hm))
  clear hn hr hv hb
  rw [htl] at HE
  clear htl
  go_enter Try.func67, Try.ntmps67
  go_upto_region 1 with fail
  obtain ⟨W0, hW0⟩ : ∃ W0, (w.alloc (.cells #[.int .i64 v.size, .slice A n c, .int .i64 v.wrong, .int .i64 v.hxl, .int .i64 v.hxh, .int .i64 v.hyl, .int .i64 v.hyh] 26)).alloc (.cells #[.int .i64 b.l, .int .i64 b.r, .int .i64 b.b, .int .i64 b.t] 28) = W0 := ⟨_, rfl⟩
  have gp : W0.heap[w.heap.size]? = some (.cells #[.int .i64 v.size, .slice A n c, .int .i64 v.wrong, .int .i64 v.hxl, .int .i64 v.hxh, .int .i64 v.hyl, .int .i64 v.hyh] 26 (0, 0)) := by
    rw [← hW0]; exact (Below.heap_alloc _ _ _ (by first | (simp; done) | (simp; omega) | omega)).trans (World.alloc_heap_new _ _)
  have gq : W0.heap[w.heap.size + 1]? = some (.cells #[.int .i64 b.l, .int .i64 b.r, .int .i64 b.b, .int .i64 b.t] 28 (0, 0)) := by
    rw [← hW0]; exact blk_new2
  have gs : W0.heap.size = w.heap.size + 1 + 1 := by rw [← hW0]; simp
  have gB : Below w.heap.size w W0 := by rw [← hW0]; (repeat' first | exact zbR _ _ | assumption | refine zbD ?_ | refine zbA ?_ ?_ _ | refine zbS ?_ ?_ _ | refine zbT ?_ (by assumption) ?_ | (simp; done) | (simp; omega) | omega)
  rw [hW0]
  clear hW0
  obtain ⟨p, hp⟩ : ∃ p, w.heap.size = p := ⟨_, rfl⟩
  obtain ⟨q, hq⟩ : ∃ q, w.heap.size + 1 = q := ⟨_, rfl⟩
  rw [hq, hp]
  rw [hp] at gp
  rw [hq] at gq
  have lp : p < W0.heap.size := by omega
  have lq : q < W0.heap.size := by omega
  have HR0 := hide ((HR.out.below gB).mono gB.size)
  have GB := hide gB
  have GQ := hide gq
  have cp0 := (blk_cell gp 0).trans rfl; have cp1 := (blk_cell gp 1).trans rfl; have cp2 := (blk_cell gp 2).trans rfl; have cp3 := (blk_cell gp 3).trans rfl; have cp4 := (blk_cell gp 4).trans rfl; have cp5 := (blk_cell gp 5).trans rfl; have cp6 := (blk_cell gp 6).trans rfl
  clear gp gq gB gs hp hq HR
  go_wp2_with (go_at_call 73; refine (refTruths_any v A n c _ HV.out HN.out HR0.out).mono ?_; rintro e w2 ⟨svt, ct, rfl, hownt, hb2⟩; rw [HTL.out] at hownt ⊢)
  have GQ2 := hide ((hb2.block q lq).trans GQ.out)
  have GB2 := hide (GB.out.trans (hb2.mono GB.out.size))
  have q2 := hb2.size
  have lq2 : q < w2.heap.size := by omega
  have HT2 := hide hownt
  clear cp0 cp1 cp2 cp3 cp4 cp5 cp6 hownt hb2 lp lq q2 GQ GB HR0
  go_loopw [6, 7] (fun m t wr => ∃ i : Nat, i ≤ tl.length ∧ t = .int .i64 i ∧ m = .int .i64 (L.cntT b (tl.take i) : Int) ∧ Below w2.heap.size w2 wr) (fun _ t _ => tl.length - (intOf t).toNat)
  case atStart => exact ⟨0, by omega, rfl, by simp [L.cntT], Below.refl _ _⟩
  case round =>
    obtain ⟨i, hi, rfl, rfl, hB⟩ := hrel
    have qB := hB.size
    have hi0 : (0 : Int) ≤ (i : Int) := by omega
    have hcl := L.cntT_le b (tl.take i)
    rw [List.length_take] at hcl
    by_cases hlt : i < tl.length
    · obtain ⟨tm, htm⟩ : ∃ tm, tl[i]? = some tm := ⟨_, List.getElem?_eq_getElem hlt⟩
      obtain ⟨g, cap, e, hbg, hgl⟩ := HT2.out.form (by omega)
      have e' : svt = some ⟨g, 0, none⟩ ∧ ct = cap := by
        simp only [Value.slice.injEq] at e
        exact ⟨e.1, e.2.2⟩
      obtain ⟨rfl, rfl⟩ := e'
      obtain ⟨m0, m1, m2, m3⟩ := flatM_at htm
      have s0 := (hB.cell (p := ⟨g, i * 4, none⟩) hgl).trans ((HT2.out.cellAt (i * 4) (by omega)).trans m0)
      have s1 := (hB.cell (p := ⟨g, i * 4 + 1, none⟩) hgl).trans ((HT2.out.cellAt (i * 4 + 1) (by omega)).trans m1)
      have s2 := (hB.cell (p := ⟨g, i * 4 + 1 + 1, none⟩) hgl).trans ((HT2.out.cellAt (i * 4 + 1 + 1) (by omega)).trans m2)
      have s3 := (hB.cell (p := ⟨g, i * 4 + 1 + 1 + 1, none⟩) hgl).trans ((HT2.out.cellAt (i * 4 + 1 + 1 + 1) (by omega)).trans m3)
      have bq := (hB.block q lq2).trans GQ2.out
      have hlt' : (i : Int) < (tl.length : Int) := by omega
      have HTM := hide (HOKS.out tm (List.mem_of_getElem? htm))
      have HNX := hide (L.cntT_next b htm)
      have lgr : g < wr.heap.size := by omega
      have lqr : q < wr.heap.size := by omega
      have hc0 : (0 : Int) ≤ (L.cntT b (tl.take i) : Int) := by omega
      have hc1 : (L.cntT b (tl.take i) : Int) ≤ 200000 := by omega
      have cq0 := (blk_cell bq 0).trans rfl; have cq1 := (blk_cell bq 1).trans rfl; have cq2 := (blk_cell bq 2).trans rfl; have cq3 := (blk_cell bq 3).trans rfl
      clear e m0 m1 m2 m3 bq htm hcl
      go_upto_region 6 with fail
      have hS : (fun w' => Below wr.heap.size wr w' ∧ q < w'.heap.size ∧ g < w'.heap.size ∧ w'.cell? ⟨q, 0, none⟩ = some (.int .i64 b.l) ∧ w'.cell? ⟨q, 1, none⟩ = some (.int .i64 b.r) ∧ w'.cell? ⟨q, 2, none⟩ = some (.int .i64 b.b) ∧ w'.cell? ⟨q, 3, none⟩ = some (.int .i64 b.t) ∧ w'.cell? ⟨g, i * 4, none⟩ = some (.int .i64 tm.x) ∧ w'.cell? ⟨g, i * 4 + 1, none⟩ = some (.int .i64 tm.y) ∧ w'.cell? ⟨g, i * 4 + 1 + 1, none⟩ = some (.int .i64 tm.hx) ∧ w'.cell? ⟨g, i * 4 + 1 + 1 + 1, none⟩ = some (.int .i64 tm.hy)) wr := ⟨Below.refl _ _, lqr, lgr, cq0, cq1, cq2, cq3, s0, s1, s2, s3⟩
      have HB1 := hide hB
      obtain ⟨W1, hW1⟩ : ∃ W1, wr = W1 := ⟨_, rfl⟩
      rw [hW1] at hS HB1 ⊢
      clear hW1 hB qB lqr lgr cq0 cq1 cq2 cq3 s0 s1 s2 s3
      have hkeep : ∀ u u' : World, Below u.heap.size u u' → (Below W1.heap.size W1 u ∧ q < u.heap.size ∧ g < u.heap.size ∧ u.cell? ⟨q, 0, none⟩ = some (.int .i64 b.l) ∧ u.cell? ⟨q, 1, none⟩ = some (.int .i64 b.r) ∧ u.cell? ⟨q, 2, none⟩ = some (.int .i64 b.b) ∧ u.cell? ⟨q, 3, none⟩ = some (.int .i64 b.t) ∧ u.cell? ⟨g, i * 4, none⟩ = some (.int .i64 tm.x) ∧ u.cell? ⟨g, i * 4 + 1, none⟩ = some (.int .i64 tm.y) ∧ u.cell? ⟨g, i * 4 + 1 + 1, none⟩ = some (.int .i64 tm.hx) ∧ u.cell? ⟨g, i * 4 + 1 + 1 + 1, none⟩ = some (.int .i64 tm.hy)) → (Below W1.heap.size W1 u' ∧ q < u'.heap.size ∧ g < u'.heap.size ∧ u'.cell? ⟨q, 0, none⟩ = some (.int .i64 b.l) ∧ u'.cell? ⟨q, 1, none⟩ = some (.int .i64 b.r) ∧ u'.cell? ⟨q, 2, none⟩ = some (.int .i64 b.b) ∧ u'.cell? ⟨q, 3, none⟩ = some (.int .i64 b.t) ∧ u'.cell? ⟨g, i * 4, none⟩ = some (.int .i64 tm.x) ∧ u'.cell? ⟨g, i * 4 + 1, none⟩ = some (.int .i64 tm.y) ∧ u'.cell? ⟨g, i * 4 + 1 + 1, none⟩ = some (.int .i64 tm.hx) ∧ u'.cell? ⟨g, i * 4 + 1 + 1 + 1, none⟩ = some (.int .i64 tm.hy)) := by
        rintro u u' hb ⟨hB, l_q, l_g, k0, k1, k2, k3, k4, k5, k6, k7⟩
        exact ⟨hB.trans (hb.mono hB.size), Nat.lt_of_lt_of_le l_q hb.size, Nat.lt_of_lt_of_le l_g hb.size, (hb.cell (p := ⟨q, 0, none⟩) l_q).trans k0, (hb.cell (p := ⟨q, 1, none⟩) l_q).trans k1, (hb.cell (p := ⟨q, 2, none⟩) l_q).trans k2, (hb.cell (p := ⟨q, 3, none⟩) l_q).trans k3, (hb.cell (p := ⟨g, i * 4, none⟩) l_g).trans k4, (hb.cell (p := ⟨g, i * 4 + 1, none⟩) l_g).trans k5, (hb.cell (p := ⟨g, i * 4 + 1 + 1, none⟩) l_g).trans k6, (hb.cell (p := ⟨g, i * 4 + 1 + 1 + 1, none⟩) l_g).trans k7⟩
      (try dsimp only at hS)
      refine wp_region_held_drew (S := (fun w' => Below W1.heap.size W1 w' ∧ q < w'.heap.size ∧ g < w'.heap.size ∧ w'.cell? ⟨q, 0, none⟩ = some (.int .i64 b.l) ∧ w'.cell? ⟨q, 1, none⟩ = some (.int .i64 b.r) ∧ w'.cell? ⟨q, 2, none⟩ = some (.int .i64 b.b) ∧ w'.cell? ⟨q, 3, none⟩ = some (.int .i64 b.t) ∧ w'.cell? ⟨g, i * 4, none⟩ = some (.int .i64 tm.x) ∧ w'.cell? ⟨g, i * 4 + 1, none⟩ = some (.int .i64 tm.y) ∧ w'.cell? ⟨g, i * 4 + 1 + 1, none⟩ = some (.int .i64 tm.hx) ∧ w'.cell? ⟨g, i * 4 + 1 + 1 + 1, none⟩ = some (.int .i64 tm.hy))) (by kernel_rfl) ?_ (fun hHeld0 => ?_)
      · (try dsimp only); (first | (go_keep; done) | (go_split_ands; (repeat' apply And.intro) <;> first | (go_keep; done) | (simp [*, zcA, zcP, zfA, zfP]; done) | (simp [zcA, zcP] <;> rfl) | (simp [*, zsS, zsO, zsA]; done) | ((first | refine (hc _ _ ?_).trans ?_ | refine (hf _ _ ?_).trans ?_) <;> first | assumption | (simp; done) | (simp; omega) | omega | (go_keep; done) | (simp [*, zcA, zcP, zfA, zfP]; done) | (simp [zcA, zcP]; rfl)) | (repeat' first | exact zbR _ _ | assumption | refine zbD ?_ | refine zbA ?_ ?_ _ | refine zbS ?_ ?_ _ | refine zbT ?_ (by assumption) ?_ | (simp; done) | (simp; omega) | omega)))
      refine tL (v := ?_) 0 rfl (by kernel_rfl) (fun _ _ _ h => h) (Or.inl ⟨by rfl, ?_⟩) (by assumption) ?_; rotate_left
      · (intro w hSw; (try dsimp only at hSw); go_simp; try with_reducible rfl)
      try simp only [Act.put, zl, z0, z1]
      refine tL (v := ?_) 1 rfl (by kernel_rfl) (fun _ _ _ h => h) (Or.inl ⟨by rfl, ?_⟩) (by assumption) ?_; rotate_left
      · (intro w hSw; (try dsimp only at hSw); go_simp; try with_reducible rfl)
      try simp only [Act.put, zl, z0, z1]
      refine tL (v := ?_) 2 rfl (by kernel_rfl) (fun _ _ _ h => h) (Or.inl ⟨by rfl, ?_⟩) (by assumption) ?_; rotate_left
      · (intro w hSw; (try dsimp only at hSw); go_simp; try with_reducible rfl)
      try simp only [Act.put, zl, z0, z1]
      refine tL (v := ?_) 3 rfl (by kernel_rfl) (fun _ _ _ h => h) (Or.inl ⟨by rfl, ?_⟩) (by assumption) ?_; rotate_left
      · (intro w hSw; (try dsimp only at hSw); go_simp; try with_reducible rfl)
      try simp only [Act.put, zl, z0, z1]
      refine tL (v := ?_) 4 rfl (by kernel_rfl) (fun _ _ _ h => h) (Or.inl ⟨by rfl, ?_⟩) (by assumption) ?_; rotate_left
      · (intro w hSw; (try dsimp only at hSw); go_simp; try with_reducible rfl)
      try simp only [Act.put, zl, z0, z1]
      refine wpAnyH_ready (rs := [5]) (by kernel_rfl) (by simp) ?_
      refine consL 5 rfl (fun K hK => ?_) AllReadyH.nil
      go_simp
      (go_at_call 21; refine (refTouch_any tm b _ HB.out HTM.out).mono ?_; rintro e w6 ⟨rfl, hb⟩; have hSn := hkeep _ _ hb (by assumption); (try clear hS); have hS := hSn; clear hSn)
      refine hK.out _ _ ?_ (fun hHeld1 => ?_)
      · (try dsimp only); exact hS
      clear hK K hHeld0
      try simp only [Act.put, zl, z0, z1]
      refine wpAnyH_done (by kernel_rfl) ?_ _
      obtain ⟨hB6, _, _, _⟩ := hS
      have HB6 := hide (HB1.out.trans (hB6.mono HB1.out.size))
      clear hkeep hHeld1 hB6
      cases ht : L.touch tm b
      all_goals
        rw [ht] at HNX
        go_wp2_with fail
        go_roundw
        case rel => exact ⟨i + 1, by omega, by go_num, by (first | (rw [HNX.out]; simp; done) | (rw [HNX.out]; go_num)), HB6.out⟩
        case measure => simp [intOf]; omega
    · have hin : i = tl.length := by omega
      subst hin
      have hT := List.take_of_length_le (Nat.le_refl tl.length)
      rw [hT] at hcl ⊢
      obtain ⟨cn, hcn⟩ : ∃ cn, L.cntT b tl = cn := ⟨_, rfl⟩
      obtain ⟨ln, hln⟩ : ∃ ln, tl.length = ln := ⟨_, rfl⟩
      unfold L.callR at HE
      rw [hcn, hln] at HE
      rw [hcn, hln] at hcl
      rw [hcn]
      simp only [hln]
      have HLN := hide hln
      clear hT hcn hln hlen hlt hi
      by_cases e0 : ln = 0
      · rw [if_pos e0] at HE
        subst e0
        go_wp2_with fail
        go_ret
        exact ⟨by rw [← HE.out]; rfl, GB2.out.trans (hB.mono GB2.out.size)⟩
      · rw [if_neg e0] at HE
        have d0 : ((ln : Int) == 0) = false := by simp only [beq_eq_false_iff_ne, ne_eq]; omega
        by_cases e1 : cn = ln
        · rw [if_pos e1] at HE
          subst e1
          go_wp2_with fail
          go_ret
          exact ⟨by rw [← HE.out]; rfl, GB2.out.trans (hB.mono GB2.out.size)⟩
        · rw [if_neg e1] at HE
          have d1 : ((cn : Int) == (ln : Int)) = false := by simp only [beq_eq_false_iff_ne, ne_eq]; omega
          by_cases e2 : cn = 0
          · rw [if_pos e2] at HE
            subst e2
            go_wp2_with fail
            go_ret
            exact ⟨by rw [← HE.out]; rfl, GB2.out.trans (hB.mono GB2.out.size)⟩
          · rw [if_neg e2] at HE
            have d2 : ((cn : Int) == 0) = false := by simp only [beq_eq_false_iff_ne, ne_eq]; omega
            go_wp2_with fail
            go_ret
            exact ⟨by rw [← HE.out]; rfl, GB2.out.trans (hB.mono GB2.out.size)⟩

end Go.Proofs.Ytgnobonhohfofaa

namespace Go.Proofs.Ytgnobonhohfofaa
open Go.RowKit
attribute [local go_sem ↓] Go.wp_at_zero Go.wp_at_succ


set_option maxRecDepth 100000 in
set_option maxHeartbeats 3200000 in
theorem refCall_any (v : L.Vw) (A : Option Addr) (n c : Nat) (b : L.Bx) (w : World) (hn : v.ss.length = n) (hr : RdS w w.heap.size A v.ss) :
    Calls Try.prog 41 #[.agg #[.int .i64 v.size, .slice A n c, .int .i64 v.wrong, .int .i64 v.hxl, .int .i64 v.hxh, .int .i64 v.hyl, .int .i64 v.hyh], .agg #[.int .i64 b.l, .int .i64 b.r, .int .i64 b.b, .int .i64 b.t]] w fun e w' => e = .returned (.tuple #[.int .i64 (L.callV v b), .int .i64 (L.callE v b)]) ∧ Below w.heap.size w w' := by
  have HN := hide hn
  have HR := hide hr
  clear hn hr
  rcases L.checkBE_cases v b with h | h | h
  · obtain ⟨hv, hb⟩ := L.checkBE_ok h
    have HV := hide hv
    have HB := hide hb
    have H := hide h
    clear hv hb h
    have E1 := hide (show L.callV v b = L.callOf v b 0 by unfold L.callV; rw [if_pos H.out])
    by_cases h0 : L.callOf v b 0 = 0
    · have E2 := hide (show L.callE v b = 3 by unfold L.callE; rw [if_pos H.out, if_pos h0])
      have H0 := hide h0
      clear h0
      go_enter Try.func41, Try.ntmps41
      go_wp2_with (first | (go_at_call 66; refine (checkBox_any v A n c b _ HN.out ((HR.out.below (by (repeat' first | exact zbR _ _ | assumption | refine zbD ?_ | refine zbA ?_ ?_ _ | refine zbS ?_ ?_ _ | refine zbT ?_ (by assumption) ?_ | (simp; done) | (simp; omega) | omega))).mono (by first | (simp; done) | (simp; omega) | omega))).mono ?_; rintro e w2 ⟨rfl, hb2⟩; rw [H.out]; obtain ⟨hc2, hf2⟩ := bcell hb2; have q2 := hb2.size; (try simp only [World.size_alloc] at q2); have z2_0 : w.heap.size < w2.heap.size := (by omega); have z2_1 : w.heap.size + 1 < w2.heap.size := (by omega)) | (go_at_call 67; refine (refcall_any v A n c b _ HV.out.w HB.out HN.out ((HR.out.below (by (repeat' first | exact zbR _ _ | assumption | refine zbD ?_ | refine zbA ?_ ?_ _ | refine zbS ?_ ?_ _ | refine zbT ?_ (by assumption) ?_ | (simp; done) | (simp; omega) | omega))).mono (by first | (simp; done) | (simp; omega) | omega))).mono ?_; rintro e w3 ⟨rfl, hb3⟩; rw [H0.out]))
      go_ret2
      exact ⟨by rw [E1.out, E2.out, H0.out]; rfl, by (repeat' first | exact zbR _ _ | assumption | refine zbD ?_ | refine zbA ?_ ?_ _ | refine zbS ?_ ?_ _ | refine zbT ?_ (by assumption) ?_ | (simp; done) | (simp; omega) | omega)⟩
    · have E2 := hide (show L.callE v b = 0 by unfold L.callE; rw [if_pos H.out, if_neg h0])
      have d0 : (L.callOf v b 0 == 0) = false := by simpa using h0
      clear h0
      go_enter Try.func41, Try.ntmps41
      go_wp2_with (first | (go_at_call 66; refine (checkBox_any v A n c b _ HN.out ((HR.out.below (by (repeat' first | exact zbR _ _ | assumption | refine zbD ?_ | refine zbA ?_ ?_ _ | refine zbS ?_ ?_ _ | refine zbT ?_ (by assumption) ?_ | (simp; done) | (simp; omega) | omega))).mono (by first | (simp; done) | (simp; omega) | omega))).mono ?_; rintro e w2 ⟨rfl, hb2⟩; rw [H.out]; obtain ⟨hc2, hf2⟩ := bcell hb2; have q2 := hb2.size; (try simp only [World.size_alloc] at q2); have z2_0 : w.heap.size < w2.heap.size := (by omega); have z2_1 : w.heap.size + 1 < w2.heap.size := (by omega)) | (go_at_call 67; refine (refcall_any v A n c b _ HV.out.w HB.out HN.out ((HR.out.below (by (repeat' first | exact zbR _ _ | assumption | refine zbD ?_ | refine zbA ?_ ?_ _ | refine zbS ?_ ?_ _ | refine zbT ?_ (by assumption) ?_ | (simp; done) | (simp; omega) | omega))).mono (by first | (simp; done) | (simp; omega) | omega))).mono ?_; rintro e w3 ⟨rfl, hb3⟩))
      go_ret2
      exact ⟨by rw [E1.out, E2.out]; rfl, by (repeat' first | exact zbR _ _ | assumption | refine zbD ?_ | refine zbA ?_ ?_ _ | refine zbS ?_ ?_ _ | refine zbT ?_ (by assumption) ?_ | (simp; done) | (simp; omega) | omega)⟩
  all_goals
    have E1 := hide (show L.callV v b = 0 by unfold L.callV; rw [if_neg (by omega)])
    have E2 := hide (show L.callE v b = L.checkBE v b by unfold L.callE; rw [if_neg (by omega)])
    have H := hide h
    clear h
    go_enter Try.func41, Try.ntmps41
    go_wp2_with (first | (go_at_call 66; refine (checkBox_any v A n c b _ HN.out ((HR.out.below (by (repeat' first | exact zbR _ _ | assumption | refine zbD ?_ | refine zbA ?_ ?_ _ | refine zbS ?_ ?_ _ | refine zbT ?_ (by assumption) ?_ | (simp; done) | (simp; omega) | omega))).mono (by first | (simp; done) | (simp; omega) | omega))).mono ?_; rintro e w2 ⟨rfl, hb2⟩; rw [H.out]; obtain ⟨hc2, hf2⟩ := bcell hb2; have q2 := hb2.size; (try simp only [World.size_alloc] at q2); have z2_0 : w.heap.size < w2.heap.size := (by omega); have z2_1 : w.heap.size + 1 < w2.heap.size := (by omega)))
    go_ret2
    exact ⟨by rw [E1.out, E2.out, H.out]; rfl, by (repeat' first | exact zbR _ _ | assumption | refine zbD ?_ | refine zbA ?_ ?_ _ | refine zbS ?_ ?_ _ | refine zbT ?_ (by assumption) ?_ | (simp; done) | (simp; omega) | omega)⟩

theorem L.not_sure {c : Int} (h : L.sure c = false) : (c == 1) = false ∧ (c == 2) = false := by
  unfold L.sure at h
  simpa using h
theorem L.is_sure {c : Int} (h : L.sure c = true) : c = 1 ∨ c = 2 := by
  unfold L.sure at h
  simpa using h

set_option maxRecDepth 100000 in
set_option maxHeartbeats 3200000 in
theorem refDecide_any (said : Int) (v : L.Vw) (A : Option Addr) (n c : Nat) (b : L.Bx) (w : World) (hn : v.ss.length = n) (hr : RdS w w.heap.size A v.ss) :
    Calls Try.prog 43 #[.int .i64 said, .agg #[.int .i64 v.size, .slice A n c, .int .i64 v.wrong, .int .i64 v.hxl, .int .i64 v.hxh, .int .i64 v.hyl, .int .i64 v.hyh], .agg #[.int .i64 b.l, .int .i64 b.r, .int .i64 b.b, .int .i64 b.t]] w fun e w' => e = .returned (.tuple #[.int .i64 (L.decV said v b), .bool (L.decK said v b), .int .i64 (L.decE said v b)]) ∧ Below w.heap.size w w' := by
  have HN := hide hn
  have HR := hide hr
  clear hn hr
  rcases L.checkBE_cases v b with h | h | h
  · obtain ⟨hv, hb⟩ := L.checkBE_ok h
    have HV := hide hv
    have HB := hide hb
    have H := hide h
    clear hv hb h
    cases hs : L.sure said
    · have E1 := hide (show L.decV said v b = 0 by unfold L.decV; rw [if_pos H.out, hs]; rfl)
      have E2 := hide (show L.decK said v b = false by unfold L.decK; rw [if_pos H.out, hs]; rfl)
      have E3 := hide (show L.decE said v b = 22 by unfold L.decE; rw [if_pos H.out, hs]; rfl)
      obtain ⟨d1, d2⟩ := L.not_sure hs
      have d3 : (said != 1) = true := by simp only [bne, d1]; rfl
      have d4 : (said != 2) = true := by simp only [bne, d2]; rfl
      clear hs
      go_enter Try.func43, Try.ntmps43
      go_wp2_with (first | (go_at_call 66; refine (checkBox_any v A n c b _ HN.out ((HR.out.below (by (repeat' first | exact zbR _ _ | assumption | refine zbD ?_ | refine zbA ?_ ?_ _ | refine zbS ?_ ?_ _ | refine zbT ?_ (by assumption) ?_ | (simp; done) | (simp; omega) | omega))).mono (by first | (simp; done) | (simp; omega) | omega))).mono ?_; rintro e w2 ⟨rfl, hb2⟩; rw [H.out]; obtain ⟨hc2, hf2⟩ := bcell hb2; have q2 := hb2.size; (try simp only [World.size_alloc] at q2); have z2_0 : w.heap.size < w2.heap.size := (by omega); have z2_1 : w.heap.size + 1 < w2.heap.size := (by omega)))
      go_ret3
      exact ⟨by rw [E1.out, E2.out, E3.out]; rfl, by (repeat' first | exact zbR _ _ | assumption | refine zbD ?_ | refine zbA ?_ ?_ _ | refine zbS ?_ ?_ _ | refine zbT ?_ (by assumption) ?_ | (simp; done) | (simp; omega) | omega)⟩
    · have hs' := L.is_sure hs
      obtain ⟨cv, hcv⟩ : ∃ cv, L.callOf v b 0 = cv := ⟨_, rfl⟩
      have HCV := hide hcv
      have hr1 := L.callOf_rng v b 0
      cases hs2 : L.sure (L.callOf v b 0)
      · have E1 := hide (show L.decV said v b = said by unfold L.decV; rw [if_pos H.out, hs, hs2]; rfl)
        have E2 := hide (show L.decK said v b = true by unfold L.decK; rw [if_pos H.out, hs, hs2]; rfl)
        have E3 := hide (show L.decE said v b = 0 by unfold L.decE; rw [if_pos H.out, hs]; rfl)
        rw [hcv] at hs2
        obtain ⟨d1, d2⟩ := L.not_sure hs2
        clear hs hs2 hcv hr1
        rcases hs' with rfl | rfl
        all_goals
          go_enter Try.func43, Try.ntmps43
          go_wp2_with (first | (go_at_call 66; refine (checkBox_any v A n c b _ HN.out ((HR.out.below (by (repeat' first | exact zbR _ _ | assumption | refine zbD ?_ | refine zbA ?_ ?_ _ | refine zbS ?_ ?_ _ | refine zbT ?_ (by assumption) ?_ | (simp; done) | (simp; omega) | omega))).mono (by first | (simp; done) | (simp; omega) | omega))).mono ?_; rintro e w2 ⟨rfl, hb2⟩; rw [H.out]; obtain ⟨hc2, hf2⟩ := bcell hb2; have q2 := hb2.size; (try simp only [World.size_alloc] at q2); have z2_0 : w.heap.size < w2.heap.size := (by omega); have z2_1 : w.heap.size + 1 < w2.heap.size := (by omega)) | (go_at_call 67; refine (refcall_any v A n c b _ HV.out.w HB.out HN.out ((HR.out.below (by (repeat' first | exact zbR _ _ | assumption | refine zbD ?_ | refine zbA ?_ ?_ _ | refine zbS ?_ ?_ _ | refine zbT ?_ (by assumption) ?_ | (simp; done) | (simp; omega) | omega))).mono (by first | (simp; done) | (simp; omega) | omega))).mono ?_; rintro e w3 ⟨rfl, hb3⟩; rw [HCV.out]))
          go_ret3
          exact ⟨by rw [E1.out, E2.out, E3.out]; rfl, by (repeat' first | exact zbR _ _ | assumption | refine zbD ?_ | refine zbA ?_ ?_ _ | refine zbS ?_ ?_ _ | refine zbT ?_ (by assumption) ?_ | (simp; done) | (simp; omega) | omega)⟩
      · have E1 := hide (show L.decV said v b = cv by unfold L.decV; rw [if_pos H.out, hs, hs2, hcv]; rfl)
        have E2 := hide (show L.decK said v b = (cv != said) by unfold L.decK; rw [if_pos H.out, hs, hs2, hcv]; rfl)
        have E3 := hide (show L.decE said v b = 0 by unfold L.decE; rw [if_pos H.out, hs]; rfl)
        rw [hcv] at hs2
        have hs2' := L.is_sure hs2
        clear hs hs2 hcv hr1
        rcases hs' with rfl | rfl <;> rcases hs2' with rfl | rfl
        all_goals
          go_enter Try.func43, Try.ntmps43
          go_wp2_with (first | (go_at_call 66; refine (checkBox_any v A n c b _ HN.out ((HR.out.below (by (repeat' first | exact zbR _ _ | assumption | refine zbD ?_ | refine zbA ?_ ?_ _ | refine zbS ?_ ?_ _ | refine zbT ?_ (by assumption) ?_ | (simp; done) | (simp; omega) | omega))).mono (by first | (simp; done) | (simp; omega) | omega))).mono ?_; rintro e w2 ⟨rfl, hb2⟩; rw [H.out]; obtain ⟨hc2, hf2⟩ := bcell hb2; have q2 := hb2.size; (try simp only [World.size_alloc] at q2); have z2_0 : w.heap.size < w2.heap.size := (by omega); have z2_1 : w.heap.size + 1 < w2.heap.size := (by omega)) | (go_at_call 67; refine (refcall_any v A n c b _ HV.out.w HB.out HN.out ((HR.out.below (by (repeat' first | exact zbR _ _ | assumption | refine zbD ?_ | refine zbA ?_ ?_ _ | refine zbS ?_ ?_ _ | refine zbT ?_ (by assumption) ?_ | (simp; done) | (simp; omega) | omega))).mono (by first | (simp; done) | (simp; omega) | omega))).mono ?_; rintro e w3 ⟨rfl, hb3⟩; rw [HCV.out]))
          go_ret3
          exact ⟨by rw [E1.out, E2.out, E3.out]; rfl, by (repeat' first | exact zbR _ _ | assumption | refine zbD ?_ | refine zbA ?_ ?_ _ | refine zbS ?_ ?_ _ | refine zbT ?_ (by assumption) ?_ | (simp; done) | (simp; omega) | omega)⟩
  all_goals
    have E1 := hide (show L.decV said v b = 0 by unfold L.decV; rw [if_neg (by omega)])
    have E2 := hide (show L.decK said v b = false by unfold L.decK; rw [if_neg (by omega)])
    have E3 := hide (show L.decE said v b = L.checkBE v b by unfold L.decE; rw [if_neg (by omega)])
    have H := hide h
    clear h
    go_enter Try.func43, Try.ntmps43
    go_wp2_with (first | (go_at_call 66; refine (checkBox_any v A n c b _ HN.out ((HR.out.below (by (repeat' first | exact zbR _ _ | assumption | refine zbD ?_ | refine zbA ?_ ?_ _ | refine zbS ?_ ?_ _ | refine zbT ?_ (by assumption) ?_ | (simp; done) | (simp; omega) | omega))).mono (by first | (simp; done) | (simp; omega) | omega))).mono ?_; rintro e w2 ⟨rfl, hb2⟩; rw [H.out]; obtain ⟨hc2, hf2⟩ := bcell hb2; have q2 := hb2.size; (try simp only [World.size_alloc] at q2); have z2_0 : w.heap.size < w2.heap.size := (by omega); have z2_1 : w.heap.size + 1 < w2.heap.size := (by omega)))
    go_ret3
    exact ⟨by rw [E1.out, E2.out, E3.out, H.out]; rfl, by (repeat' first | exact zbR _ _ | assumption | refine zbD ?_ | refine zbA ?_ ?_ _ | refine zbS ?_ ?_ _ | refine zbT ?_ (by assumption) ?_ | (simp; done) | (simp; omega) | omega)⟩

theorem L.find_call (v : L.Vw) (b : L.Bx) : ((L.findC v b 0 1).isSome = (L.callOf v b 0 == 1 || L.callOf v b 0 == 3)) ∧ ((L.findC v b 0 2).isSome = (L.callOf v b 0 == 2 || L.callOf v b 0 == 3)) := by
  unfold L.callOf
  cases h1 : (L.findC v b 0 1).isSome <;> cases h2 : (L.findC v b 0 2).isSome <;> simp

set_option maxRecDepth 100000 in
set_option maxHeartbeats 3200000 in
theorem refCheckShow_any (v : L.Vw) (A : Option Addr) (n c : Nat) (b : L.Bx) (call : Int) (w : World) (hn : v.ss.length = n) (hr : RdS w w.heap.size A v.ss) :
    Calls Try.prog 44 #[.agg #[.int .i64 v.size, .slice A n c, .int .i64 v.wrong, .int .i64 v.hxl, .int .i64 v.hxh, .int .i64 v.hyl, .int .i64 v.hyh], .agg #[.int .i64 b.l, .int .i64 b.r, .int .i64 b.b, .int .i64 b.t], .int .i64 call] w fun e w' => e = .returned (.int .i64 (L.showE v b call)) ∧ Below w.heap.size w w' := by
  have HN := hide hn
  have HR := hide hr
  clear hn hr
  rcases L.checkBE_cases v b with h | h | h
  · obtain ⟨hv, hb⟩ := L.checkBE_ok h
    have HV := hide hv
    have HB := hide hb
    have H := hide h
    clear hv hb h
    cases hs : L.sure call
    · have E1 := hide (show L.showE v b call = 22 by unfold L.showE; rw [if_pos H.out, hs]; rfl)
      obtain ⟨d1, d2⟩ := L.not_sure hs
      have d3 : (call != 1) = true := by simp only [bne, d1]; rfl
      have d4 : (call != 2) = true := by simp only [bne, d2]; rfl
      clear hs
      go_enter Try.func44, Try.ntmps44
      go_wp2_with (first | (go_at_call 66; refine (checkBox_any v A n c b _ HN.out ((HR.out.below (by (repeat' first | exact zbR _ _ | assumption | refine zbD ?_ | refine zbA ?_ ?_ _ | refine zbS ?_ ?_ _ | refine zbT ?_ (by assumption) ?_ | (simp; done) | (simp; omega) | omega))).mono (by first | (simp; done) | (simp; omega) | omega))).mono ?_; rintro e w2 ⟨rfl, hb2⟩; rw [H.out]; obtain ⟨hc2, hf2⟩ := bcell hb2; have q2 := hb2.size; (try simp only [World.size_alloc] at q2); have z2_0 : w.heap.size < w2.heap.size := (by omega); have z2_1 : w.heap.size + 1 < w2.heap.size := (by omega)))
      go_ret
      exact ⟨by rw [E1.out]; rfl, by (repeat' first | exact zbR _ _ | assumption | refine zbD ?_ | refine zbA ?_ ?_ _ | refine zbS ?_ ?_ _ | refine zbT ?_ (by assumption) ?_ | (simp; done) | (simp; omega) | omega)⟩
    · have hs' := L.is_sure hs
      have hr1 := L.callOf_rng v b 0
      have hf := L.find_call v b
      have E1 := show L.showE v b call = if (L.findC v b 0 call).isSome then 0 else 3 by unfold L.showE; rw [if_pos H.out, hs]; rfl
      obtain ⟨cv, hcv⟩ : ∃ cv, L.callOf v b 0 = cv := ⟨_, rfl⟩
      have HCV := hide hcv
      rw [hcv] at hr1 hf
      clear hs hcv
      have hcv4 : cv = 0 ∨ cv = 1 ∨ cv = 2 ∨ cv = 3 := by omega
      rcases hs' with rfl | rfl
      · rw [hf.1] at E1
        clear hf hr1
        rcases hcv4 with rfl | rfl | rfl | rfl
        all_goals
          have EE := hide E1
          clear E1
          go_enter Try.func44, Try.ntmps44
          go_wp2_with (first | (go_at_call 66; refine (checkBox_any v A n c b _ HN.out ((HR.out.below (by (repeat' first | exact zbR _ _ | assumption | refine zbD ?_ | refine zbA ?_ ?_ _ | refine zbS ?_ ?_ _ | refine zbT ?_ (by assumption) ?_ | (simp; done) | (simp; omega) | omega))).mono (by first | (simp; done) | (simp; omega) | omega))).mono ?_; rintro e w2 ⟨rfl, hb2⟩; rw [H.out]; obtain ⟨hc2, hf2⟩ := bcell hb2; have q2 := hb2.size; (try simp only [World.size_alloc] at q2); have z2_0 : w.heap.size < w2.heap.size := (by omega); have z2_1 : w.heap.size + 1 < w2.heap.size := (by omega)) | (go_at_call 67; refine (refcall_any v A n c b _ HV.out.w HB.out HN.out ((HR.out.below (by (repeat' first | exact zbR _ _ | assumption | refine zbD ?_ | refine zbA ?_ ?_ _ | refine zbS ?_ ?_ _ | refine zbT ?_ (by assumption) ?_ | (simp; done) | (simp; omega) | omega))).mono (by first | (simp; done) | (simp; omega) | omega))).mono ?_; rintro e w3 ⟨rfl, hb3⟩; rw [HCV.out]))
          go_ret
          exact ⟨by rw [EE.out]; rfl, by (repeat' first | exact zbR _ _ | assumption | refine zbD ?_ | refine zbA ?_ ?_ _ | refine zbS ?_ ?_ _ | refine zbT ?_ (by assumption) ?_ | (simp; done) | (simp; omega) | omega)⟩
      · rw [hf.2] at E1
        clear hf hr1
        rcases hcv4 with rfl | rfl | rfl | rfl
        all_goals
          have EE := hide E1
          clear E1
          go_enter Try.func44, Try.ntmps44
          go_wp2_with (first | (go_at_call 66; refine (checkBox_any v A n c b _ HN.out ((HR.out.below (by (repeat' first | exact zbR _ _ | assumption | refine zbD ?_ | refine zbA ?_ ?_ _ | refine zbS ?_ ?_ _ | refine zbT ?_ (by assumption) ?_ | (simp; done) | (simp; omega) | omega))).mono (by first | (simp; done) | (simp; omega) | omega))).mono ?_; rintro e w2 ⟨rfl, hb2⟩; rw [H.out]; obtain ⟨hc2, hf2⟩ := bcell hb2; have q2 := hb2.size; (try simp only [World.size_alloc] at q2); have z2_0 : w.heap.size < w2.heap.size := (by omega); have z2_1 : w.heap.size + 1 < w2.heap.size := (by omega)) | (go_at_call 67; refine (refcall_any v A n c b _ HV.out.w HB.out HN.out ((HR.out.below (by (repeat' first | exact zbR _ _ | assumption | refine zbD ?_ | refine zbA ?_ ?_ _ | refine zbS ?_ ?_ _ | refine zbT ?_ (by assumption) ?_ | (simp; done) | (simp; omega) | omega))).mono (by first | (simp; done) | (simp; omega) | omega))).mono ?_; rintro e w3 ⟨rfl, hb3⟩; rw [HCV.out]))
          go_ret
          exact ⟨by rw [EE.out]; rfl, by (repeat' first | exact zbR _ _ | assumption | refine zbD ?_ | refine zbA ?_ ?_ _ | refine zbS ?_ ?_ _ | refine zbT ?_ (by assumption) ?_ | (simp; done) | (simp; omega) | omega)⟩
  all_goals
    have E1 := hide (show L.showE v b call = L.checkBE v b by unfold L.showE; rw [if_neg (by omega)])
    have H := hide h
    clear h
    go_enter Try.func44, Try.ntmps44
    go_wp2_with (first | (go_at_call 66; refine (checkBox_any v A n c b _ HN.out ((HR.out.below (by (repeat' first | exact zbR _ _ | assumption | refine zbD ?_ | refine zbA ?_ ?_ _ | refine zbS ?_ ?_ _ | refine zbT ?_ (by assumption) ?_ | (simp; done) | (simp; omega) | omega))).mono (by first | (simp; done) | (simp; omega) | omega))).mono ?_; rintro e w2 ⟨rfl, hb2⟩; rw [H.out]; obtain ⟨hc2, hf2⟩ := bcell hb2; have q2 := hb2.size; (try simp only [World.size_alloc] at q2); have z2_0 : w.heap.size < w2.heap.size := (by omega); have z2_1 : w.heap.size + 1 < w2.heap.size := (by omega)))
    go_ret
    exact ⟨by rw [E1.out, H.out]; rfl, by (repeat' first | exact zbR _ _ | assumption | refine zbD ?_ | refine zbA ?_ ?_ _ | refine zbS ?_ ?_ _ | refine zbT ?_ (by assumption) ?_ | (simp; done) | (simp; omega) | omega)⟩

end Go.Proofs.Ytgnobonhohfofaa

namespace Go.Proofs.Ytgnobonhohfofaa
open Go.RowKit
attribute [local go_sem ↓] Go.wp_at_zero Go.wp_at_succ

theorem drew_blk' {W : World} {g : Nat} {o : Option Obj} (h : W.heap[g]? = o) : W.drew.heap[g]? = o := h
theorem blk_set4 {W : World} {g : Nat} {T : TypeId} (h : W.heap[g]? = some (.cells #[.int .i64 0, .int .i64 0, .int .i64 0, .int .i64 0] T (0, 0))) (a b c d : Value) : ((((W.setCell ⟨g, 0, none⟩ a).setCell ⟨g, 1, none⟩ b).setCell ⟨g, 2, none⟩ c).setCell ⟨g, 3, none⟩ d).heap[g]? = some (.cells #[a, b, c, d] T (0, 0)) :=
  blk_set (blk_set (blk_set (blk_set h 0 a) 1 b) 2 c) 3 d
theorem drew_size (W : World) : W.drew.heap.size = W.heap.size := rfl
theorem drew_cell (W : World) (a : Addr) : W.drew.cell? a = W.cell? a := rfl
theorem drew_frozen (W : World) (a : Addr) : W.drew.frozen? a = W.frozen? a := rfl

namespace L
theorem showM_zero {v : Vw} {b : Bx} {call : Int} (h : showE v b call ≠ 0) : showM v b call = ⟨0, 0, 0, 0⟩ := by
  unfold showE at h
  unfold showM
  by_cases hc : checkBE v b = 0
  · rw [if_pos hc] at h ⊢
    cases hs : sure call
    · rfl
    · rw [hs] at h
      cases hf : (findC v b 0 call).isSome
      · exact found_none hf
      · rw [hf] at h; exact (h rfl).elim
  · rw [if_neg hc]
theorem showM_yes {v : Vw} {b : Bx} {call : Int} (h : showE v b call = 0) : VwOk v ∧ BxOk b ∧ sure call = true ∧ truthB v (showM v b call) = true ∧ touch (showM v b call) b = decide (call = 1) ∧ MkOk (showM v b call) := by
  unfold showE at h
  by_cases hc : checkBE v b = 0
  · rw [if_pos hc] at h
    obtain ⟨hv, hb⟩ := checkBE_ok hc
    cases hs : sure call
    · rw [hs] at h; cases h
    · rw [hs] at h
      cases hf : (findC v b 0 call).isSome
      · rw [hf] at h; cases h
      · have e : showM v b call = foundM v b 0 call := by unfold showM; rw [if_pos hc, hs]; rfl
        obtain ⟨a1, a2⟩ := found_some hv hf
        rw [e]
        exact ⟨hv, hb, rfl, a1, a2, truth_ok hv a1⟩
  · rw [if_neg hc] at h; exact (hc h).elim
end L

set_option maxRecDepth 100000 in
set_option maxHeartbeats 6400000 in
theorem showsLaw_far (v : L.Vw) (A : Option Addr) (n c : Nat) (b : L.Bx) (call : Int) (w : World) (hn : v.ss.length = n) (hr : RdS w w.heap.size A v.ss) (hA : A = none → c = 0) (h : L.farB v = true) :
    Calls Try.prog 13 #[.agg #[.int .i64 v.size, .slice A n c, .int .i64 v.wrong, .int .i64 v.hxl, .int .i64 v.hxh, .int .i64 v.hyl, .int .i64 v.hyh], .agg #[.int .i64 b.l, .int .i64 b.r, .int .i64 b.b, .int .i64 b.t], .int .i64 call] w fun e w' => e = .returned (.bool true) ∧ Below w.heap.size w w' := by
  have HN := hide hn
  have HR := hide hr
  have HA := hide hA
  clear hn hr hA
  have HF := hide h
  clear h
  go_enter Try.func13, Try.ntmps13
  go_upto_region 1 with fail
  obtain ⟨W0, hW0⟩ : ∃ W0, (w.alloc (.cells #[.int .i64 v.size, .slice A n c, .int .i64 v.wrong, .int .i64 v.hxl, .int .i64 v.hxh, .int .i64 v.hyl, .int .i64 v.hyh] 26)).alloc (.cells #[.int .i64 b.l, .int .i64 b.r, .int .i64 b.b, .int .i64 b.t] 28) = W0 := ⟨_, rfl⟩
  have gp : W0.heap[w.heap.size]? = some (.cells #[.int .i64 v.size, .slice A n c, .int .i64 v.wrong, .int .i64 v.hxl, .int .i64 v.hxh, .int .i64 v.hyl, .int .i64 v.hyh] 26 (0, 0)) := by
    rw [← hW0]; exact ((Below.heap_alloc _ _ _ (by first | (simp; done) | (simp; omega) | omega)).trans (World.alloc_heap_new _ _))
  have gq : W0.heap[w.heap.size + 1]? = some (.cells #[.int .i64 b.l, .int .i64 b.r, .int .i64 b.b, .int .i64 b.t] 28 (0, 0)) := by
    rw [← hW0]; exact ((congrArg _ (by simp)).trans (World.alloc_heap_new _ _))
  have gs : W0.heap.size = w.heap.size + 1 + 1 := by rw [← hW0]; simp
  have gB : Below w.heap.size w W0 := by rw [← hW0]; (repeat' first | exact zbR _ _ | assumption | refine zbD ?_ | refine zbA ?_ ?_ _ | refine zbS ?_ ?_ _ | refine zbT ?_ (by assumption) ?_ | (simp; done) | (simp; omega) | omega)
  rw [hW0]
  clear hW0
  obtain ⟨p, hp⟩ : ∃ p, w.heap.size = p := ⟨_, rfl⟩
  obtain ⟨q, hq⟩ : ∃ q, w.heap.size + 1 = q := ⟨_, rfl⟩
  rw [hq, hp]
  rw [hp] at gp
  rw [hq] at gq
  have lp : p < W0.heap.size := by omega
  have lq : q < W0.heap.size := by omega
  have HR0 := hide ((HR.out.below gB).mono gB.size)
  have GB := hide gB
  have GP := hide gp
  have cp0 := (blk_cell gp 0).trans rfl; have cp1 := (blk_cell gp 1).trans rfl; have cp2 := (blk_cell gp 2).trans rfl; have cp3 := (blk_cell gp 3).trans rfl; have cp4 := (blk_cell gp 4).trans rfl; have cp5 := (blk_cell gp 5).trans rfl; have cp6 := (blk_cell gp 6).trans rfl
  have GQ := hide gq
  have cq0 := (blk_cell gq 0).trans rfl; have cq1 := (blk_cell gq 1).trans rfl; have cq2 := (blk_cell gq 2).trans rfl; have cq3 := (blk_cell gq 3).trans rfl
  clear gp gq gB gs hp hq
  go_wp2_with (first | (go_at_call 28; refine (Far_any v A n c _ HN.out ((HR0.out.below (by (repeat' first | exact zbR _ _ | assumption | refine zbD ?_ | refine zbA ?_ ?_ _ | refine zbS ?_ ?_ _ | refine zbT ?_ (by assumption) ?_ | (simp; done) | (simp; omega) | omega))).mono (by first | (simp; done) | (simp; omega) | omega))).mono ?_; rintro e w2 ⟨rfl, hb2⟩; rw [HF.out]; obtain ⟨hc2, hf2⟩ := bcell hb2; have q2 := hb2.size; (try simp only [World.size_alloc] at q2); have z2_p : p < w2.heap.size := (by omega); have z2_q : q < w2.heap.size := (by omega)) | (go_at_call 16; refine (works_any _).mono ?_; rintro e w19 ⟨rfl, hb19⟩))
  go_ret
  exact ⟨rfl, GB.out.trans ((show Below W0.heap.size W0 _ by (repeat' first | exact zbR _ _ | assumption | refine zbD ?_ | refine zbA ?_ ?_ _ | refine zbS ?_ ?_ _ | refine zbT ?_ (by assumption) ?_ | (simp; done) | (simp; omega) | omega)).mono GB.out.size)⟩

set_option maxRecDepth 100000 in
set_option maxHeartbeats 6400000 in
theorem showsLaw_no (v : L.Vw) (A : Option Addr) (n c : Nat) (b : L.Bx) (call : Int) (w : World) (hn : v.ss.length = n) (hr : RdS w w.heap.size A v.ss) (hA : A = none → c = 0) (h : L.farB v = false) (he : L.showE v b call ≠ 0) :
    Calls Try.prog 13 #[.agg #[.int .i64 v.size, .slice A n c, .int .i64 v.wrong, .int .i64 v.hxl, .int .i64 v.hxh, .int .i64 v.hyl, .int .i64 v.hyh], .agg #[.int .i64 b.l, .int .i64 b.r, .int .i64 b.b, .int .i64 b.t], .int .i64 call] w fun e w' => e = .returned (.bool true) ∧ Below w.heap.size w w' := by
  have HN := hide hn
  have HR := hide hr
  have HA := hide hA
  clear hn hr hA
  have HF := hide h
  have hn40 : n ≤ 1000 := by have := (L.farB_no h).1; have := HN.out; omega
  obtain ⟨y, hy⟩ : ∃ y, L.showM v b call = y := ⟨_, rfl⟩
  obtain ⟨ye, hye⟩ : ∃ y, L.showE v b call = y := ⟨_, rfl⟩
  have HY := hide hy
  have HYE := hide hye
  have hz := L.showM_zero he
  rw [hy] at hz
  rw [hye] at he
  have d1 : (ye == 0) = false := by simp only [beq_eq_false_iff_ne, ne_eq]; exact he
  have d2 : (ye != 0) = true := by simpa using he
  have HZ := hide hz
  clear h hye he hy hz
  go_enter Try.func13, Try.ntmps13
  go_upto_region 1 with fail
  obtain ⟨W0, hW0⟩ : ∃ W0, (w.alloc (.cells #[.int .i64 v.size, .slice A n c, .int .i64 v.wrong, .int .i64 v.hxl, .int .i64 v.hxh, .int .i64 v.hyl, .int .i64 v.hyh] 26)).alloc (.cells #[.int .i64 b.l, .int .i64 b.r, .int .i64 b.b, .int .i64 b.t] 28) = W0 := ⟨_, rfl⟩
  have gp : W0.heap[w.heap.size]? = some (.cells #[.int .i64 v.size, .slice A n c, .int .i64 v.wrong, .int .i64 v.hxl, .int .i64 v.hxh, .int .i64 v.hyl, .int .i64 v.hyh] 26 (0, 0)) := by
    rw [← hW0]; exact ((Below.heap_alloc _ _ _ (by first | (simp; done) | (simp; omega) | omega)).trans (World.alloc_heap_new _ _))
  have gq : W0.heap[w.heap.size + 1]? = some (.cells #[.int .i64 b.l, .int .i64 b.r, .int .i64 b.b, .int .i64 b.t] 28 (0, 0)) := by
    rw [← hW0]; exact ((congrArg _ (by simp)).trans (World.alloc_heap_new _ _))
  have gs : W0.heap.size = w.heap.size + 1 + 1 := by rw [← hW0]; simp
  have gB : Below w.heap.size w W0 := by rw [← hW0]; (repeat' first | exact zbR _ _ | assumption | refine zbD ?_ | refine zbA ?_ ?_ _ | refine zbS ?_ ?_ _ | refine zbT ?_ (by assumption) ?_ | (simp; done) | (simp; omega) | omega)
  rw [hW0]
  clear hW0
  obtain ⟨p, hp⟩ : ∃ p, w.heap.size = p := ⟨_, rfl⟩
  obtain ⟨q, hq⟩ : ∃ q, w.heap.size + 1 = q := ⟨_, rfl⟩
  rw [hq, hp]
  rw [hp] at gp
  rw [hq] at gq
  have lp : p < W0.heap.size := by omega
  have lq : q < W0.heap.size := by omega
  have HR0 := hide ((HR.out.below gB).mono gB.size)
  have GB := hide gB
  have GP := hide gp
  have cp0 := (blk_cell gp 0).trans rfl; have cp1 := (blk_cell gp 1).trans rfl; have cp2 := (blk_cell gp 2).trans rfl; have cp3 := (blk_cell gp 3).trans rfl; have cp4 := (blk_cell gp 4).trans rfl; have cp5 := (blk_cell gp 5).trans rfl; have cp6 := (blk_cell gp 6).trans rfl
  have GQ := hide gq
  have cq0 := (blk_cell gq 0).trans rfl; have cq1 := (blk_cell gq 1).trans rfl; have cq2 := (blk_cell gq 2).trans rfl; have cq3 := (blk_cell gq 3).trans rfl
  clear gp gq gB gs hp hq
  go_upto_region 3 with (first | (go_at_call 28; refine (Far_any v A n c _ HN.out ((HR0.out.below (by (repeat' first | exact zbR _ _ | assumption | refine zbD ?_ | refine zbA ?_ ?_ _ | refine zbS ?_ ?_ _ | refine zbT ?_ (by assumption) ?_ | (simp; done) | (simp; omega) | omega))).mono (by first | (simp; done) | (simp; omega) | omega))).mono ?_; rintro e w2 ⟨rfl, hb2⟩; rw [HF.out]; obtain ⟨hc2, hf2⟩ := bcell hb2; have q2 := hb2.size; (try simp only [World.size_alloc] at q2); have z2_p : p < w2.heap.size := (by omega); have z2_q : q < w2.heap.size := (by omega)))
  go_cut [7, 8] from 13 to 19 (fun v7 v8 wx => ∃ g : Nat, v7 = .pointer (some ⟨g, 0, none⟩) ∧ v8 = .int .i64 ye ∧ Hid (wx.heap[g]? = some (.cells #[.int .i64 y.x, .int .i64 y.y, .int .i64 y.hx, .int .i64 y.hy] 30 (0, 0))) ∧ Hid (Below W0.heap.size W0 wx))
  case first =>
    go_region_with (first | (go_at_call 26; refine (Copy_any v A n c _ HN.out ((HR0.out.below (by (repeat' first | exact zbR _ _ | assumption | refine zbD ?_ | refine zbA ?_ ?_ _ | refine zbS ?_ ?_ _ | refine zbT ?_ (by assumption) ?_ | (simp; done) | (simp; omega) | omega))).mono (by first | (simp; done) | (simp; omega) | omega)) HA.out hn40).mono ?_; rintro e w3 ⟨A', c', rfl, hown, hb3⟩; have HRO := hide (owns_RdS hown HN.out); clear hown; have y31 : p < w2.heap.size + 1 := (by omega); have y32 : q < w2.heap.size + 1 := (by omega); obtain ⟨hc3, hf3⟩ := bcell hb3; have q3 := hb3.size; (try simp only [World.size_alloc, drew_size, drew_cell, drew_frozen] at hc3 hf3 q3); have z3_p : p < w3.heap.size := (by omega); have z3_q : q < w3.heap.size := (by omega); (try have zn32 : w2.heap.size < w3.heap.size := (by omega))) | (go_at_call 20; refine (Show_any v A' n c' b _ _ HN.out ((HRO.out.below (by (repeat' first | exact zbR _ _ | assumption | refine zbD ?_ | refine zbA ?_ ?_ _ | refine zbS ?_ ?_ _ | refine zbT ?_ (by assumption) ?_ | (simp; done) | (simp; omega) | omega))).mono (by first | (simp; done) | (simp; omega) | omega))).mono ?_; rintro e w4 ⟨rfl, hb4⟩; rw [HY.out, HYE.out]; have y41 : p < w3.heap.size + 1 := (by omega); have y42 : q < w3.heap.size + 1 := (by omega); obtain ⟨hc4, hf4⟩ := bcell hb4; have q4 := hb4.size; (try simp only [World.size_alloc, drew_size, drew_cell, drew_frozen] at hc4 hf4 q4); have z4_p : p < w4.heap.size := (by omega); have z4_q : q < w4.heap.size := (by omega); (try have zn42 : w2.heap.size < w4.heap.size := (by omega)); (try have zn43 : w3.heap.size < w4.heap.size := (by omega))))
    all_goals
      (try dsimp only [Act.put, List.getElem_toArray, List.getElem_cons_succ, List.getElem_cons_zero])
      (try simp only [zl, z0, z1])
      (try go_wp2)
      go_meet
      refine ⟨_, rfl, rfl, hide ?_, hide ?_⟩
      · first
          | (with_reducible exact World.alloc_heap_new _ _)
          | (with_reducible refine blk_set4 ?_ _ _ _ _
             with_reducible refine (hb4.block _ ?_).trans ?_
             · first | (simp; done) | (simp; omega) | omega
             first
               | (with_reducible exact World.alloc_heap_new _ _)
               | (with_reducible refine (hb3.block _ ?_).trans ?_
                  · first | (simp; done) | (simp; omega) | omega
                  exact World.alloc_heap_new w2.drew _))
      · (repeat' first | exact zbR _ _ | assumption | refine zbD ?_ | refine zbA ?_ ?_ _ | refine zbS ?_ ?_ _ | refine zbT ?_ (by assumption) ?_ | (simp; done) | (simp; omega) | omega)
  case rest =>
    obtain ⟨g, rfl, rfl, HQ, HW⟩ := hcut
    have lg := blk_lt HQ.out
    have qW := HW.out.size
    have bp := (HW.out.block p lp).trans GP.out
    have bq := (HW.out.block q lq).trans GQ.out
    have lpc : p < wc.heap.size := by omega
    have lqc : q < wc.heap.size := by omega
    have HRC := hide ((HR0.out.below HW.out).mono HW.out.size)
    have HGB := hide (GB.out.trans (HW.out.mono GB.out.size))
    have hz := HZ.out
    subst hz
    have hg0 := HQ.out
    clear cp0 cp1 cp2 cp3 cp4 cp5 cp6 cq0 cq1 cq2 cq3 lp lq qW
    have cp0 := (blk_cell bp 0).trans rfl; have cp1 := (blk_cell bp 1).trans rfl; have cp2 := (blk_cell bp 2).trans rfl; have cp3 := (blk_cell bp 3).trans rfl; have cp4 := (blk_cell bp 4).trans rfl; have cp5 := (blk_cell bp 5).trans rfl; have cp6 := (blk_cell bp 6).trans rfl
    have cq0 := (blk_cell bq 0).trans rfl; have cq1 := (blk_cell bq 1).trans rfl; have cq2 := (blk_cell bq 2).trans rfl; have cq3 := (blk_cell bq 3).trans rfl
    have cg0 := (blk_cell hg0 0).trans rfl; have cg1 := (blk_cell hg0 1).trans rfl; have cg2 := (blk_cell hg0 2).trans rfl; have cg3 := (blk_cell hg0 3).trans rfl
    clear bp bq hg0
    go_wp2_with (first | (go_at_call 44; refine (refCheckShow_any v A n c b _ _ HN.out ((HRC.out.below (by (repeat' first | exact zbR _ _ | assumption | refine zbD ?_ | refine zbA ?_ ?_ _ | refine zbS ?_ ?_ _ | refine zbT ?_ (by assumption) ?_ | (simp; done) | (simp; omega) | omega))).mono (by first | (simp; done) | (simp; omega) | omega))).mono ?_; rintro e w5 ⟨rfl, hb5⟩; rw [HYE.out]; obtain ⟨hc5, hf5⟩ := bcell hb5; have q5 := hb5.size; (try simp only [World.size_alloc] at q5); have z5_p : p < w5.heap.size := (by omega); have z5_q : q < w5.heap.size := (by omega); have z5_g : g < w5.heap.size := (by omega)) | (go_at_call 16; refine (works_any _).mono ?_; rintro e w19 ⟨rfl, hb19⟩))
    go_ret
    exact ⟨rfl, HGB.out.trans ((show Below wc.heap.size wc _ by (repeat' first | exact zbR _ _ | assumption | refine zbD ?_ | refine zbA ?_ ?_ _ | refine zbS ?_ ?_ _ | refine zbT ?_ (by assumption) ?_ | (simp; done) | (simp; omega) | omega)).mono HGB.out.size)⟩

set_option maxRecDepth 100000 in
set_option maxHeartbeats 6400000 in
theorem showsLaw_yes (v : L.Vw) (A : Option Addr) (n c : Nat) (b : L.Bx) (call : Int) (w : World) (hn : v.ss.length = n) (hr : RdS w w.heap.size A v.ss) (hA : A = none → c = 0) (h : L.farB v = false) (he : L.showE v b call = 0) :
    Calls Try.prog 13 #[.agg #[.int .i64 v.size, .slice A n c, .int .i64 v.wrong, .int .i64 v.hxl, .int .i64 v.hxh, .int .i64 v.hyl, .int .i64 v.hyh], .agg #[.int .i64 b.l, .int .i64 b.r, .int .i64 b.b, .int .i64 b.t], .int .i64 call] w fun e w' => e = .returned (.bool true) ∧ Below w.heap.size w w' := by
  have HN := hide hn
  have HR := hide hr
  have HA := hide hA
  clear hn hr hA
  have HF := hide h
  have hn40 : n ≤ 1000 := by have := (L.farB_no h).1; have := HN.out; omega
  obtain ⟨y, hy⟩ : ∃ y, L.showM v b call = y := ⟨_, rfl⟩
  obtain ⟨ye, hye⟩ : ∃ y, L.showE v b call = y := ⟨_, rfl⟩
  have HY := hide hy
  have HYE := hide hye
  obtain ⟨hv, hb, hs, a1, a2, a3⟩ := L.showM_yes he
  have HV := hide hv
  have HB := hide hb
  rw [hy] at a1 a2 a3
  rw [hye] at he
  subst he
  have HT := hide a1
  have HO := hide a2
  have HM := hide a3
  have hs' := L.is_sure hs
  clear h hye hy hv hb hs a1 a2 a3
  rcases hs' with rfl | rfl
  all_goals
    go_enter Try.func13, Try.ntmps13
    go_upto_region 1 with fail
    obtain ⟨W0, hW0⟩ : ∃ W0, (w.alloc (.cells #[.int .i64 v.size, .slice A n c, .int .i64 v.wrong, .int .i64 v.hxl, .int .i64 v.hxh, .int .i64 v.hyl, .int .i64 v.hyh] 26)).alloc (.cells #[.int .i64 b.l, .int .i64 b.r, .int .i64 b.b, .int .i64 b.t] 28) = W0 := ⟨_, rfl⟩
    have gp : W0.heap[w.heap.size]? = some (.cells #[.int .i64 v.size, .slice A n c, .int .i64 v.wrong, .int .i64 v.hxl, .int .i64 v.hxh, .int .i64 v.hyl, .int .i64 v.hyh] 26 (0, 0)) := by
      rw [← hW0]; exact ((Below.heap_alloc _ _ _ (by first | (simp; done) | (simp; omega) | omega)).trans (World.alloc_heap_new _ _))
    have gq : W0.heap[w.heap.size + 1]? = some (.cells #[.int .i64 b.l, .int .i64 b.r, .int .i64 b.b, .int .i64 b.t] 28 (0, 0)) := by
      rw [← hW0]; exact ((congrArg _ (by simp)).trans (World.alloc_heap_new _ _))
    have gs : W0.heap.size = w.heap.size + 1 + 1 := by rw [← hW0]; simp
    have gB : Below w.heap.size w W0 := by rw [← hW0]; (repeat' first | exact zbR _ _ | assumption | refine zbD ?_ | refine zbA ?_ ?_ _ | refine zbS ?_ ?_ _ | refine zbT ?_ (by assumption) ?_ | (simp; done) | (simp; omega) | omega)
    rw [hW0]
    clear hW0
    obtain ⟨p, hp⟩ : ∃ p, w.heap.size = p := ⟨_, rfl⟩
    obtain ⟨q, hq⟩ : ∃ q, w.heap.size + 1 = q := ⟨_, rfl⟩
    rw [hq, hp]
    rw [hp] at gp
    rw [hq] at gq
    have lp : p < W0.heap.size := by omega
    have lq : q < W0.heap.size := by omega
    have HR0 := hide ((HR.out.below gB).mono gB.size)
    have GB := hide gB
    have GP := hide gp
    have cp0 := (blk_cell gp 0).trans rfl; have cp1 := (blk_cell gp 1).trans rfl; have cp2 := (blk_cell gp 2).trans rfl; have cp3 := (blk_cell gp 3).trans rfl; have cp4 := (blk_cell gp 4).trans rfl; have cp5 := (blk_cell gp 5).trans rfl; have cp6 := (blk_cell gp 6).trans rfl
    have GQ := hide gq
    have cq0 := (blk_cell gq 0).trans rfl; have cq1 := (blk_cell gq 1).trans rfl; have cq2 := (blk_cell gq 2).trans rfl; have cq3 := (blk_cell gq 3).trans rfl
    clear gp gq gB gs hp hq
    go_upto_region 3 with (first | (go_at_call 28; refine (Far_any v A n c _ HN.out ((HR0.out.below (by (repeat' first | exact zbR _ _ | assumption | refine zbD ?_ | refine zbA ?_ ?_ _ | refine zbS ?_ ?_ _ | refine zbT ?_ (by assumption) ?_ | (simp; done) | (simp; omega) | omega))).mono (by first | (simp; done) | (simp; omega) | omega))).mono ?_; rintro e w2 ⟨rfl, hb2⟩; rw [HF.out]; obtain ⟨hc2, hf2⟩ := bcell hb2; have q2 := hb2.size; (try simp only [World.size_alloc] at q2); have z2_p : p < w2.heap.size := (by omega); have z2_q : q < w2.heap.size := (by omega)))
    go_cut [7, 8] from 13 to 19 (fun v7 v8 wx => ∃ g : Nat, v7 = .pointer (some ⟨g, 0, none⟩) ∧ v8 = .int .i64 0 ∧ Hid (wx.heap[g]? = some (.cells #[.int .i64 y.x, .int .i64 y.y, .int .i64 y.hx, .int .i64 y.hy] 30 (0, 0))) ∧ Hid (Below W0.heap.size W0 wx))
    case first =>
      go_region_with (first | (go_at_call 26; refine (Copy_any v A n c _ HN.out ((HR0.out.below (by (repeat' first | exact zbR _ _ | assumption | refine zbD ?_ | refine zbA ?_ ?_ _ | refine zbS ?_ ?_ _ | refine zbT ?_ (by assumption) ?_ | (simp; done) | (simp; omega) | omega))).mono (by first | (simp; done) | (simp; omega) | omega)) HA.out hn40).mono ?_; rintro e w3 ⟨A', c', rfl, hown, hb3⟩; have HRO := hide (owns_RdS hown HN.out); clear hown; have y31 : p < w2.heap.size + 1 := (by omega); have y32 : q < w2.heap.size + 1 := (by omega); obtain ⟨hc3, hf3⟩ := bcell hb3; have q3 := hb3.size; (try simp only [World.size_alloc, drew_size, drew_cell, drew_frozen] at hc3 hf3 q3); have z3_p : p < w3.heap.size := (by omega); have z3_q : q < w3.heap.size := (by omega); (try have zn32 : w2.heap.size < w3.heap.size := (by omega))) | (go_at_call 20; refine (Show_any v A' n c' b _ _ HN.out ((HRO.out.below (by (repeat' first | exact zbR _ _ | assumption | refine zbD ?_ | refine zbA ?_ ?_ _ | refine zbS ?_ ?_ _ | refine zbT ?_ (by assumption) ?_ | (simp; done) | (simp; omega) | omega))).mono (by first | (simp; done) | (simp; omega) | omega))).mono ?_; rintro e w4 ⟨rfl, hb4⟩; rw [HY.out, HYE.out]; have y41 : p < w3.heap.size + 1 := (by omega); have y42 : q < w3.heap.size + 1 := (by omega); obtain ⟨hc4, hf4⟩ := bcell hb4; have q4 := hb4.size; (try simp only [World.size_alloc, drew_size, drew_cell, drew_frozen] at hc4 hf4 q4); have z4_p : p < w4.heap.size := (by omega); have z4_q : q < w4.heap.size := (by omega); (try have zn42 : w2.heap.size < w4.heap.size := (by omega)); (try have zn43 : w3.heap.size < w4.heap.size := (by omega))))
      all_goals
        (try dsimp only [Act.put, List.getElem_toArray, List.getElem_cons_succ, List.getElem_cons_zero])
        (try simp only [zl, z0, z1])
        (try go_wp2)
        go_meet
        refine ⟨_, rfl, rfl, hide ?_, hide ?_⟩
        · first
            | (with_reducible exact World.alloc_heap_new _ _)
            | (with_reducible refine blk_set4 ?_ _ _ _ _
               with_reducible refine (hb4.block _ ?_).trans ?_
               · first | (simp; done) | (simp; omega) | omega
               first
                 | (with_reducible exact World.alloc_heap_new _ _)
                 | (with_reducible refine (hb3.block _ ?_).trans ?_
                    · first | (simp; done) | (simp; omega) | omega
                    exact World.alloc_heap_new w2.drew _))
        · (repeat' first | exact zbR _ _ | assumption | refine zbD ?_ | refine zbA ?_ ?_ _ | refine zbS ?_ ?_ _ | refine zbT ?_ (by assumption) ?_ | (simp; done) | (simp; omega) | omega)
    case rest =>
      obtain ⟨g, rfl, rfl, HQ, HW⟩ := hcut
      have lg := blk_lt HQ.out
      have qW := HW.out.size
      have bp := (HW.out.block p lp).trans GP.out
      have bq := (HW.out.block q lq).trans GQ.out
      have lpc : p < wc.heap.size := by omega
      have lqc : q < wc.heap.size := by omega
      have HRC := hide ((HR0.out.below HW.out).mono HW.out.size)
      have HGB := hide (GB.out.trans (HW.out.mono GB.out.size))
      have hg0 := HQ.out
      clear cp0 cp1 cp2 cp3 cp4 cp5 cp6 cq0 cq1 cq2 cq3 lp lq qW
      have cp0 := (blk_cell bp 0).trans rfl; have cp1 := (blk_cell bp 1).trans rfl; have cp2 := (blk_cell bp 2).trans rfl; have cp3 := (blk_cell bp 3).trans rfl; have cp4 := (blk_cell bp 4).trans rfl; have cp5 := (blk_cell bp 5).trans rfl; have cp6 := (blk_cell bp 6).trans rfl
      have cq0 := (blk_cell bq 0).trans rfl; have cq1 := (blk_cell bq 1).trans rfl; have cq2 := (blk_cell bq 2).trans rfl; have cq3 := (blk_cell bq 3).trans rfl
      have cg0 := (blk_cell hg0 0).trans rfl; have cg1 := (blk_cell hg0 1).trans rfl; have cg2 := (blk_cell hg0 2).trans rfl; have cg3 := (blk_cell hg0 3).trans rfl
      clear bp bq hg0
      go_wp2_with (first | (go_at_call 44; refine (refCheckShow_any v A n c b _ _ HN.out ((HRC.out.below (by (repeat' first | exact zbR _ _ | assumption | refine zbD ?_ | refine zbA ?_ ?_ _ | refine zbS ?_ ?_ _ | refine zbT ?_ (by assumption) ?_ | (simp; done) | (simp; omega) | omega))).mono (by first | (simp; done) | (simp; omega) | omega))).mono ?_; rintro e w5 ⟨rfl, hb5⟩; rw [HYE.out]; obtain ⟨hc5, hf5⟩ := bcell hb5; have q5 := hb5.size; (try simp only [World.size_alloc] at q5); have z5_p : p < w5.heap.size := (by omega); have z5_q : q < w5.heap.size := (by omega); have z5_g : g < w5.heap.size := (by omega)) | (go_at_call 18; refine (isTruth_any v A n c y _ HV.out HN.out ((HRC.out.below (by (repeat' first | exact zbR _ _ | assumption | refine zbD ?_ | refine zbA ?_ ?_ _ | refine zbS ?_ ?_ _ | refine zbT ?_ (by assumption) ?_ | (simp; done) | (simp; omega) | omega))).mono (by first | (simp; done) | (simp; omega) | omega))).mono ?_; rintro e w6 ⟨rfl, hb6⟩; rw [HT.out]; obtain ⟨hc6, hf6⟩ := bcell hb6; have q6 := hb6.size; (try simp only [World.size_alloc] at q6); have z6_p : p < w6.heap.size := (by omega); have z6_q : q < w6.heap.size := (by omega); have z6_g : g < w6.heap.size := (by omega)) | (go_at_call 21; refine (refTouch_any y b _ HB.out HM.out).mono ?_; rintro e w7 ⟨rfl, hb7⟩; rw [HO.out]; obtain ⟨hc7, hf7⟩ := bcell hb7; have q7 := hb7.size; (try simp only [World.size_alloc] at q7); have z7_p : p < w7.heap.size := (by omega); have z7_q : q < w7.heap.size := (by omega); have z7_g : g < w7.heap.size := (by omega)) | (go_at_call 16; refine (works_any _).mono ?_; rintro e w19 ⟨rfl, hb19⟩))
      go_ret
      exact ⟨rfl, HGB.out.trans ((show Below wc.heap.size wc _ by (repeat' first | exact zbR _ _ | assumption | refine zbD ?_ | refine zbA ?_ ?_ _ | refine zbS ?_ ?_ _ | refine zbT ?_ (by assumption) ?_ | (simp; done) | (simp; omega) | omega)).mono HGB.out.size)⟩

theorem showsLaw_any (v : L.Vw) (A : Option Addr) (n c : Nat) (b : L.Bx) (call : Int) (w : World) (hn : v.ss.length = n) (hr : RdS w w.heap.size A v.ss) (hA : A = none → c = 0) :
    Calls Try.prog 13 #[.agg #[.int .i64 v.size, .slice A n c, .int .i64 v.wrong, .int .i64 v.hxl, .int .i64 v.hxh, .int .i64 v.hyl, .int .i64 v.hyh], .agg #[.int .i64 b.l, .int .i64 b.r, .int .i64 b.b, .int .i64 b.t], .int .i64 call] w fun e w' => e = .returned (.bool true) ∧ Below w.heap.size w w' := by
  cases h : L.farB v
  · by_cases he : L.showE v b call = 0
    · exact showsLaw_yes v A n c b call w hn hr hA h he
    · exact showsLaw_no v A n c b call w hn hr hA h he
  · exact showsLaw_far v A n c b call w hn hr hA h

end Go.Proofs.Ytgnobonhohfofaa

namespace Go.Proofs.Ytgnobonhohfofaa
open Go.ChangeShapes Go.WideShapes Go.ChangeAt Go.RowKit Go.Deep Go.Joins

theorem Try.ownLinesShows : ownKnob Try.prog.godebug = none := by kernel_rfl

set_option maxRecDepth 100000 in
theorem linesShows_call (H : Type) (enc : TypeId × Value → H) (W : World) (base : Nat) (args : Array Value) (ds : List (DataW H)) (p : List MemPlace) (hval : ∀ (j : Nat) t v, Try.f13.params[j]? = some t → args[j]? = some v → Value.okWide Try.prog W .any base t v)
    (hA : DataW.TrodAll enc Try.prog W 0 (fun _ => true) true Try.f13.params.toList args.toList ds p) : Calls Try.prog 13 args W fun e W' => e = .returned (.bool true) ∧ Below W.heap.size W W' := by
  rw [Try.params13] at hA hval
  obtain ⟨v0, v1, v2, d0, d1, d2, p0, p1, p2, rfl, rfl, rfl, h0, h1, h2⟩ := trodAll_three hA
  obtain ⟨x0, A0, n0, c0, rfl, hle0, hmx0, hn0, hr0, hno0, hwf0⟩ := open_view (hval 0 26 v0 rfl rfl) h0
  obtain ⟨x1, rfl, hwf1⟩ := open_box (hval 1 28 v1 rfl rfl) h1
  obtain ⟨x2, rfl, hd2, hp2, hwf2⟩ := Go.ChangeShapes.open_int Try.underlying3 (hval 2 3 v2 rfl rfl) h2
  exact showsLaw_any x0 A0 n0 c0 x1 x2 W hn0 hr0 hno0

set_option maxRecDepth 100000 in
theorem LinesShows_holds : Rows.LinesShowsSaid :=
  OpenClaim.holds_of_wide (p := Try.pinned) (s := Rows.linesShowsSpec) (c := Rows.linesShowsRow) 13 Try.f13 rfl rfl rfl rfl rfl rfl rfl ⟨rfl, rfl, rfl, rfl, rfl⟩ rfl rfl rfl rfl rfl (by kernel_rfl) Try.func13 (by kernel_rfl)
    (of_decide_eq_true (by kernel_rfl)) (by unfold Func.isWrapper; first | (rw [if_pos (by decide +kernel)]; kernel_rfl) | (rw [if_neg (by decide +kernel)]; exact ⟨rfl, rfl⟩))
    (fun os started H enc _ => law_lift (C := Try.checked) (F := 13) (fn := Try.f13) (s := Rows.linesShowsSpec) (bt := 4) started Try.ownLinesShows (by kernel_rfl) Try.func13 (by kernel_rfl) Try.underlying4 rfl laidOut (of_decide_eq_true (by kernel_rfl))
      (fun ds hds => match ds, hds with | [_, _, _], _ => rfl)
      (ChangeSpec.witness6 (enc := enc) (C := Try.checked) false ⟨#[], #[.agg #[.int .i64 0, .slice none 0 0, .int .i64 0, .int .i64 0, .int .i64 0, .int .i64 0, .int .i64 0], .agg #[.int .i64 0, .int .i64 0, .int .i64 0, .int .i64 0], .int .i64 0], []⟩ 8 (by kernel_rfl) (by kernel_rfl) (by kernel_rfl) (by kernel_rfl))
      (fun W base args ds p hval hA _ => linesShows_call H enc W base args ds p hval hA) _ _ _)

end Go.Proofs.Ytgnobonhohfofaa
