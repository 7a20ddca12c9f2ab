/-
  For every rule and all appeals the law LinesRuns returns true and leaves its arguments as they were. No condition.
-/
import Derived.ChangeKeysEq
import Derived.Test.YtgnobonhohfofaaZB01
import Derived.Test.YtgnobonhohfofaaZB02
import Derived.Test.YtgnobonhohfofaaZB03
namespace Go.Proofs.Ytgnobonhohfofaa
open Go.RowKit
attribute [local go_sem ↓] Go.wp_at_zero Go.wp_at_succ

namespace L
def nA (v : Vw) : Nat := (v.hxh - v.hxl + 1).toNat
def nB (v : Vw) : Nat := (v.hyh - v.hyl + 1).toNat
def trB (v : Vw) (c : Mk) (a : Int) (k : Nat) : List Mk := (List.range k).map fun (j : Nat) => ⟨c.x, c.y, a, v.hyl + (j : Int)⟩
def trA (v : Vw) (c : Mk) (k : Nat) : List Mk := (List.range k).flatMap fun (i : Nat) => trB v c (v.hxl + (i : Int)) (nB v)
def trC (v : Vw) (l : List Mk) : List Mk := l.flatMap fun c => trA v c (nA v)
def truths (v : Vw) : List Mk := trC v ((tcents v 0).map mk0)
theorem trB_next (v : Vw) (c : Mk) (a : Int) (k : Nat) : trB v c a (k + 1) = trB v c a k ++ [⟨c.x, c.y, a, v.hyl + (k : Int)⟩] := by unfold trB; rw [List.range_succ, List.map_append]; rfl
theorem trA_next (v : Vw) (c : Mk) (k : Nat) : trA v c (k + 1) = trA v c k ++ trB v c (v.hxl + (k : Int)) (nB v) := by unfold trA; rw [List.range_succ, List.flatMap_append]; simp
theorem trC_next (v : Vw) {l : List Mk} {i : Nat} {c : Mk} (h : l[i]? = some c) : trC v (l.take (i + 1)) = trC v (l.take i) ++ trA v c (nA v) := by
  unfold trC; rw [List.take_add_one, h, Option.toList_some, List.flatMap_append]; simp
theorem trB_len (v : Vw) (c : Mk) (a : Int) (k : Nat) : (trB v c a k).length = k := by unfold trB; simp
theorem trA_len (v : Vw) (c : Mk) : ∀ k, (trA v c k).length = k * nB v
  | 0 => by simp [trA]
  | k + 1 => by rw [trA_next, List.length_append, trA_len v c k, trB_len, Nat.add_mul, Nat.one_mul]
theorem trC_len (v : Vw) : ∀ l : List Mk, (trC v l).length = l.length * (nA v * nB v)
  | [] => by simp [trC]
  | c :: r => by
    have ih := trC_len v r
    unfold trC at ih ⊢
    rw [List.flatMap_cons, List.length_append, ih, trA_len, List.length_cons, Nat.add_mul, Nat.one_mul, Nat.add_comm]
end L
theorem step_app_marks {w : World} {ops : Array Oper} {o : Oper} {a : Act} {K : Act → World → Prop} {Q : Exit → Act → World → Prop} {E : Prop} (hgd : o.guard = none) (s x : Operand)
    (ho : o.op = .call { callee := .builtin .append, args := #[s, x], argTypes := #[93, 93] }) (base : Nat) (v : Value) (ps : List L.Mk) (m0 : Nat) (hs : a.eval s = v) (hown : w.ownsRow base 30 4 v m0 (flatM ps))
    (A : Option Addr) (n c : Nat) (ss : List L.Mk) (hx : a.eval x = .slice A n c) (hn : ss.length = n) (hr : RdM w w.heap.size A ss) (hA : A = none → c = 0) (h0 : m0 ≤ 1000000) (h1 : n ≤ 1000) (hbase : base ≤ w.heap.size) (N : Nat) (hN : m0 + n = N)
    (h : ∀ A' c' w', w'.ownsRow base 30 4 (.slice A' N c') N (flatM (ps ++ ss)) → w.grownBy w' v.ownBlock → K (a.put o.dst (.slice A' N c')) w') :
    if Region.wanted o (yielded ops a.tmps) = true then Oper.wp Try.prog o a w K Q else E := by
  subst hN
  have hw : Region.wanted o (yielded ops a.tmps) = true := by simp [Region.wanted, hgd]
  rw [if_pos hw]
  obtain ⟨A', c', w', hr', h2, h3⟩ := run_app_marks o.type base v ps m0 hown A n c ss hn hr hA h0 h1 hbase
  unfold Oper.wp execOp
  simp only [ho, resolve, invoke, builtin, Sem.run_bind, Sem.run_pure, Result.andThen_ok, List.map_toArray, List.map_cons, List.map_nil, hs, hx, hr']
  exact h A' c' w' h2 h3

set_option maxRecDepth 100000 in
set_option maxHeartbeats 6400000 in
theorem refTruths_any (v : L.Vw) (A : Option Addr) (n c : Nat) (w : World) (hv : L.VwW v) (hn : v.ss.length = n) (hr : RdS w w.heap.size A v.ss) :
    Calls Try.prog 73 #[.agg #[.int .i64 v.size, .slice A n c, .int .i64 v.wrong, .int .i64 v.hxl, .int .i64 v.hxh, .int .i64 v.hyl, .int .i64 v.hyh]] w fun e w' => ∃ sv c', e = .returned (.slice sv (L.truths v).length c') ∧ w'.ownsRow w.heap.size 30 4 (.slice sv (L.truths v).length c') (L.truths v).length (flatM (L.truths v)) ∧ Below w.heap.size w w' := by
  have HN := hide hn
  have HR := hide hr
  have HV := hide hv
  obtain ⟨N, hN⟩ : ∃ N : Nat, v.size = (N : Int) := ⟨v.size.toNat, (Int.toNat_of_nonneg hv.s0).symm⟩
  have HSz := hide hN
  obtain ⟨tc, htc⟩ : ∃ tc, (L.tcents v 0).map L.mk0 = tc := ⟨_, rfl⟩
  have HTC := hide htc
  have hlen : tc.length ≤ 1681 := by
    have h1 : (L.tcents v 0).length ≤ (L.cents v.size.toNat).length := List.length_filter_le _ _
    rw [L.cents_length] at h1
    have h2 : v.size.toNat + 1 ≤ 41 := by have := hv.s0; have := hv.s1; omega
    have h3 := Nat.mul_le_mul h2 h2
    rw [← htc, List.length_map]; omega
  have hnA : L.nA v ≤ 9 := by unfold L.nA; have := hv.x0; have := hv.x1; omega
  have hnB : L.nB v ≤ 9 := by unfold L.nB; have := hv.y0; have := hv.y1; omega
  have EA := hide (show v.hxl + (L.nA v : Int) = v.hxh + 1 by unfold L.nA; have := hv.xx; omega)
  have EB := hide (show v.hyl + (L.nB v : Int) = v.hyh + 1 by unfold L.nB; have := hv.yy; omega)
  have hAB : L.nA v * L.nB v ≤ 81 := Nat.mul_le_mul hnA hnB
  have HTr := hide (show L.trC v tc = L.truths v by rw [← htc]; rfl)
  have x0 : 1 ≤ v.hxl := hv.x0
  have x1 : v.hxh ≤ 9 := hv.x1
  have y0 : 1 ≤ v.hyl := hv.y0
  have y1 : v.hyh ≤ 9 := hv.y1
  clear hn hr hv hN htc
  go_enter Try.func73, Try.ntmps73
  go_upto_region 1 with fail
  obtain ⟨W0, hW0⟩ : ∃ W0, w.alloc (.cells #[.int .i64 v.size, .slice A n c, .int .i64 v.wrong, .int .i64 v.hxl, .int .i64 v.hxh, .int .i64 v.hyl, .int .i64 v.hyh] 26) = W0 := ⟨_, rfl⟩
  have gp : W0.heap[w.heap.size]? = some (.cells #[.int .i64 v.size, .slice A n c, .int .i64 v.wrong, .int .i64 v.hxl, .int .i64 v.hxh, .int .i64 v.hyl, .int .i64 v.hyh] 26 (0, 0)) := by
    rw [← hW0]; exact World.alloc_heap_new _ _
  have gs : W0.heap.size = w.heap.size + 1 := by rw [← hW0]; simp
  have gB : Below w.heap.size w W0 := by rw [← hW0]; (repeat' first | exact zbR _ _ | assumption | refine zbD ?_ | refine zbA ?_ ?_ _ | refine zbS ?_ ?_ _ | refine zbT ?_ (by assumption) ?_ | (simp; done) | (simp; omega) | omega)
  rw [hW0]
  clear hW0
  obtain ⟨p, hp⟩ : ∃ p, w.heap.size = p := ⟨_, rfl⟩
  rw [hp]
  rw [hp] at gp
  have lp : p < W0.heap.size := by omega
  have HR0 := hide ((HR.out.below gB).mono gB.size)
  have HP := hide hp
  have GB := hide gB
  have GP := hide gp
  have cp0 := (blk_cell gp 0).trans rfl; have cp1 := (blk_cell gp 1).trans rfl; have cp2 := (blk_cell gp 2).trans rfl; have cp3 := (blk_cell gp 3).trans rfl; have cp4 := (blk_cell gp 4).trans rfl; have cp5 := (blk_cell gp 5).trans rfl; have cp6 := (blk_cell gp 6).trans rfl
  clear gp gB HR hp gs
  go_wp2_with (go_at_call 64; refine (refCents_any v A n c N _ HV.out HSz.out HN.out HR0.out).mono ?_; rintro e w2 ⟨svc, cc, rfl, hownc, hb2⟩; rw [HTC.out] at hownc ⊢)
  have GP2 := hide ((hb2.block p lp).trans GP.out)
  have GB2 := hide (GB.out.trans (hb2.mono GB.out.size))
  have q2 := hb2.size
  have lp2 : p < w2.heap.size := by omega
  have HC2 := hide hownc
  clear cp0 cp1 cp2 cp3 cp4 cp5 cp6 hownc hb2 lp q2 GP GB HR0
  go_loopw [3, 5] (fun m t wr => ∃ i : Nat, i ≤ tc.length ∧ t = .int .i64 i ∧ (∃ sv c', m = .slice sv (L.trC v (tc.take i)).length c' ∧ Hid (wr.ownsRow w2.heap.size 30 4 (.slice sv (L.trC v (tc.take i)).length c') (L.trC v (tc.take i)).length (flatM (L.trC v (tc.take i))))) ∧ Below w2.heap.size w2 wr) (fun _ t _ => tc.length - (intOf t).toNat)
  case atStart => exact ⟨0, by omega, rfl, ⟨none, 0, rfl, hide (World.ownsRow_nil _ _ _ _)⟩, Below.refl _ _⟩
  case round =>
    obtain ⟨i, hi, rfl, ⟨sv, c', rfl, hown⟩, hB⟩ := hrel
    have qB := hB.size
    have bp := (hB.block p lp2).trans GP2.out
    have cp0 := (blk_cell bp 0).trans rfl; have cp1 := (blk_cell bp 1).trans rfl; have cp2 := (blk_cell bp 2).trans rfl; have cp3 := (blk_cell bp 3).trans rfl; have cp4 := (blk_cell bp 4).trans rfl; have cp5 := (blk_cell bp 5).trans rfl; have cp6 := (blk_cell bp 6).trans rfl
    have lpr : p < wr.heap.size := by omega
    have hi0 : (0 : Int) ≤ (i : Int) := by omega
    have hi1 : (i : Int) ≤ 1681 := by omega
    clear bp
    by_cases hlt : i < tc.length
    · obtain ⟨cm, hcm⟩ : ∃ cm, tc[i]? = some cm := ⟨_, List.getElem?_eq_getElem hlt⟩
      have HCM := hide hcm
      clear hcm
      have hlt' : (i : Int) < (tc.length : Int) := by omega
      go_wp2_with fail
      clear cp0 cp1 cp2 cp3 cp4 cp5 cp6
      go_loopw [3, 6] (fun m t wr => ∃ k : Nat, k ≤ L.nA v ∧ t = .int .i64 (v.hxl + (k : Int)) ∧ (∃ sv c', m = .slice sv (L.trC v (tc.take i) ++ L.trA v cm k).length c' ∧ Hid (wr.ownsRow w2.heap.size 30 4 (.slice sv (L.trC v (tc.take i) ++ L.trA v cm k).length c') (L.trC v (tc.take i) ++ L.trA v cm k).length (flatM (L.trC v (tc.take i) ++ L.trA v cm k)))) ∧ Below w2.heap.size w2 wr) (fun _ t _ => (v.hxh + 1 - intOf t).toNat)
      case atStart => exact ⟨0, by omega, by simp, ⟨sv, c', by rw [show L.trA v cm 0 = [] from rfl, List.append_nil], by rw [show L.trA v cm 0 = [] from rfl, List.append_nil]; exact hown⟩, hB⟩
      case round =>
        clear hown hB qB lpr
        obtain ⟨k, hk, rfl, ⟨sv, c', rfl, hown⟩, hB⟩ := hrel
        have qB := hB.size
        have bp := (hB.block p lp2).trans GP2.out
        have cp0 := (blk_cell bp 0).trans rfl; have cp1 := (blk_cell bp 1).trans rfl; have cp2 := (blk_cell bp 2).trans rfl; have cp3 := (blk_cell bp 3).trans rfl; have cp4 := (blk_cell bp 4).trans rfl; have cp5 := (blk_cell bp 5).trans rfl; have cp6 := (blk_cell bp 6).trans rfl
        have lpr : p < wr.heap.size := by omega
        have hk0 : (0 : Int) ≤ (k : Int) := by omega
        have hk9 : (k : Int) ≤ 9 := by omega
        have ea := EA.out
        clear bp
        by_cases hlt2 : k < L.nA v
        · have hlt2' : v.hxl + (k : Int) ≤ v.hxh := by omega
          clear ea
          go_wp2_with fail
          clear cp0 cp1 cp2 cp3 cp4 cp5 cp6
          go_loopw [3, 7] (fun m t wr => ∃ l : Nat, l ≤ L.nB v ∧ t = .int .i64 (v.hyl + (l : Int)) ∧ (∃ sv c', m = .slice sv (L.trC v (tc.take i) ++ L.trA v cm k ++ L.trB v cm (v.hxl + (k : Int)) l).length c' ∧ Hid (wr.ownsRow w2.heap.size 30 4 (.slice sv (L.trC v (tc.take i) ++ L.trA v cm k ++ L.trB v cm (v.hxl + (k : Int)) l).length c') (L.trC v (tc.take i) ++ L.trA v cm k ++ L.trB v cm (v.hxl + (k : Int)) l).length (flatM (L.trC v (tc.take i) ++ L.trA v cm k ++ L.trB v cm (v.hxl + (k : Int)) l)))) ∧ Below w2.heap.size w2 wr) (fun _ t _ => (v.hyh + 1 - intOf t).toNat)
          case atStart => exact ⟨0, by omega, by simp, ⟨sv, c', by rw [show L.trB v cm (v.hxl + (k : Int)) 0 = [] from rfl, List.append_nil], by rw [show L.trB v cm (v.hxl + (k : Int)) 0 = [] from rfl, List.append_nil]; exact hown⟩, hB⟩
          case round =>
            clear hown hB qB lpr
            obtain ⟨l, hl, rfl, ⟨sv, c', rfl, hown⟩, hB⟩ := hrel
            have qB := hB.size
            have bp := (hB.block p lp2).trans GP2.out
            have cp0 := (blk_cell bp 0).trans rfl; have cp1 := (blk_cell bp 1).trans rfl; have cp2 := (blk_cell bp 2).trans rfl; have cp3 := (blk_cell bp 3).trans rfl; have cp4 := (blk_cell bp 4).trans rfl; have cp5 := (blk_cell bp 5).trans rfl; have cp6 := (blk_cell bp 6).trans rfl
            have lpr : p < wr.heap.size := by omega
            have hl0 : (0 : Int) ≤ (l : Int) := by omega
            have hl9 : (l : Int) ≤ 9 := by omega
            have eb := EB.out
            by_cases hlt3 : l < L.nB v
            · have hlt3' : v.hyl + (l : Int) ≤ v.hyh := by omega
              clear eb
              obtain ⟨outl, hout⟩ : ∃ outl, L.trC v (tc.take i) ++ L.trA v cm k ++ L.trB v cm (v.hxl + (k : Int)) l = outl := ⟨_, rfl⟩
              have hol : outl.length ≤ 200000 := by
                rw [← hout, List.length_append, List.length_append, L.trC_len, L.trA_len, L.trB_len, List.length_take]
                have h1 : min i tc.length * (L.nA v * L.nB v) ≤ 1681 * 81 := Nat.mul_le_mul (by omega) hAB
                have h2 : k * L.nB v ≤ 9 * 9 := Nat.mul_le_mul (by omega) hnB
                omega
              have HOut := hide hout
              obtain ⟨g, cap, e, hbg, hgl⟩ := HC2.out.form (by omega)
              have e' : svc = some ⟨g, 0, none⟩ ∧ cc = cap := by
                simp only [Value.slice.injEq] at e
                exact ⟨e.1, e.2.2⟩
              obtain ⟨rfl, rfl⟩ := e'
              obtain ⟨m0, m1, m2, m3⟩ := flatM_at HCM.out
              have s0 := (hB.cell (p := ⟨g, i * 4, none⟩) hgl).trans ((HC2.out.cellAt (i * 4) (by omega)).trans m0)
              have s1 := (hB.cell (p := ⟨g, i * 4 + 1, none⟩) hgl).trans ((HC2.out.cellAt (i * 4 + 1) (by omega)).trans m1)
              rw [hout] at hown ⊢
              have lgr : g < wr.heap.size := by omega
              clear e m0 m1 m2 m3 bp hout
              go_upto_region 12 with fail
              have hS : (fun w' => Below w2.heap.size w2 w' ∧ p < w'.heap.size ∧ g < w'.heap.size ∧ w'.cell? ⟨g, i * 4, none⟩ = some (.int .i64 cm.x) ∧ w'.cell? ⟨g, i * 4 + 1, none⟩ = some (.int .i64 cm.y)) wr := ⟨hB, lpr, lgr, s0, s1⟩
              have HO1 := hide hown.out
              have q1 := qB
              obtain ⟨W1, hW1⟩ : ∃ W1, wr = W1 := ⟨_, rfl⟩
              rw [hW1] at hS HO1 q1 ⊢
              clear hW1 hown hB qB lpr lgr s0 s1 cp0 cp1 cp2 cp3 cp4 cp5 cp6
              have hkeep : ∀ u u' : World, Below w2.heap.size u u' → (Below w2.heap.size w2 u ∧ p < u.heap.size ∧ g < u.heap.size ∧ u.cell? ⟨g, i * 4, none⟩ = some (.int .i64 cm.x) ∧ u.cell? ⟨g, i * 4 + 1, none⟩ = some (.int .i64 cm.y)) → (Below w2.heap.size w2 u' ∧ p < u'.heap.size ∧ g < u'.heap.size ∧ u'.cell? ⟨g, i * 4, none⟩ = some (.int .i64 cm.x) ∧ u'.cell? ⟨g, i * 4 + 1, none⟩ = some (.int .i64 cm.y)) := by
                rintro u u' hb ⟨hB, l_p, l_g, k0, k1⟩
                exact ⟨hB.trans hb, Nat.lt_of_lt_of_le l_p hb.size, Nat.lt_of_lt_of_le l_g hb.size, (hb.cell (p := ⟨g, i * 4, none⟩) hgl).trans k0, (hb.cell (p := ⟨g, i * 4 + 1, none⟩) hgl).trans k1⟩
              (try dsimp only at hS)
              refine wp_region_held_drew (S := (fun w' => Below w2.heap.size w2 w' ∧ p < w'.heap.size ∧ g < w'.heap.size ∧ w'.cell? ⟨g, i * 4, none⟩ = some (.int .i64 cm.x) ∧ w'.cell? ⟨g, i * 4 + 1, none⟩ = some (.int .i64 cm.y))) (by kernel_rfl) ?_ (fun hHeld0 => ?_)
              · (try dsimp only); first | exact hkeep _ _ hg7 (by assumption) | exact hkeep _ _ (zbA (zbR _ _) (show w2.heap.size ≤ _ by simp; omega) _) (by assumption) | exact hkeep _ _ (zbD (zbR _ _)) hS | (first | (go_keep; done) | (go_split_ands; (repeat' apply And.intro) <;> first | (go_keep; done) | (simp [*, zcA, zcP, zfA, zfP]; done) | (simp [zcA, zcP] <;> rfl) | (simp [*, zsS, zsO, zsA]; done) | ((first | refine (hc _ _ ?_).trans ?_ | refine (hf _ _ ?_).trans ?_) <;> first | assumption | (simp; done) | (simp; omega) | omega | (go_keep; done) | (simp [*, zcA, zcP, zfA, zfP]; done) | (simp [zcA, zcP]; rfl)) | (repeat' first | exact zbR _ _ | assumption | refine zbD ?_ | refine zbA ?_ ?_ _ | refine zbS ?_ ?_ _ | refine zbT ?_ (by assumption) ?_ | (simp; done) | (simp; omega) | omega)))
              refine tL (v := ?_) 0 rfl (by kernel_rfl) (fun _ _ _ h => h) (Or.inl ⟨by rfl, ?_⟩) (by assumption) ?_; rotate_left
              · (intro w hSw; (try dsimp only at hSw); go_simp; try with_reducible rfl)
              try simp only [Act.put, zl, z0, z1]
              refine tL (v := ?_) 1 rfl (by kernel_rfl) (fun _ _ _ h => h) (Or.inl ⟨by rfl, ?_⟩) (by assumption) ?_; rotate_left
              · (intro w hSw; (try dsimp only at hSw); go_simp; try with_reducible rfl)
              try simp only [Act.put, zl, z0, z1]
              refine tL (v := ?_) 2 rfl (by kernel_rfl) (fun _ _ _ h => h) (Or.inl ⟨by rfl, ?_⟩) (by assumption) ?_; rotate_left
              · (intro w hSw; (try dsimp only at hSw); go_simp; try with_reducible rfl)
              try simp only [Act.put, zl, z0, z1]
              refine tL (v := ?_) 3 rfl (by kernel_rfl) (fun _ _ _ h => h) (Or.inl ⟨by rfl, ?_⟩) (by assumption) ?_; rotate_left
              · (intro w hSw; (try dsimp only at hSw); go_simp; try with_reducible rfl)
              try simp only [Act.put, zl, z0, z1]
              refine tL (v := ?_) 4 rfl (by kernel_rfl) (fun _ _ _ h => h) (Or.inl ⟨by rfl, ?_⟩) (by assumption) ?_; rotate_left
              · (intro w hSw; (try dsimp only at hSw); go_simp; try with_reducible rfl)
              try simp only [Act.put, zl, z0, z1]
              refine tL (v := ?_) 5 rfl (by kernel_rfl) (fun _ _ _ h => h) (Or.inl ⟨by rfl, ?_⟩) (by assumption) ?_; rotate_left
              · (intro w hSw; (try dsimp only at hSw); go_simp; try with_reducible rfl)
              try simp only [Act.put, zl, z0, z1]
              refine tL (v := ?_) 6 rfl (by kernel_rfl) (fun _ _ _ h => h) (Or.inl ⟨by rfl, ?_⟩) (by assumption) ?_; rotate_left
              · (intro w hSw; (try dsimp only at hSw); go_simp; try with_reducible rfl)
              try simp only [Act.put, zl, z0, z1]
              refine tL (v := ?_) 7 rfl (by kernel_rfl) (fun _ _ _ h => h) (Or.inl ⟨by rfl, ?_⟩) (by assumption) ?_; rotate_left
              · (intro w hSw; (try dsimp only at hSw); go_simp; try with_reducible rfl)
              try simp only [Act.put, zl, z0, z1]
              refine tL (v := ?_) 8 rfl (by kernel_rfl) (fun _ _ _ h => h) (Or.inl ⟨by rfl, ?_⟩) (by assumption) ?_; rotate_left
              · (intro w hSw; (try dsimp only at hSw); go_simp; try with_reducible rfl)
              try simp only [Act.put, zl, z0, z1]
              refine tL (v := ?_) 9 rfl (by kernel_rfl) (fun _ _ _ h => h) (Or.inl ⟨by rfl, ?_⟩) (by assumption) ?_; rotate_left
              · (intro w hSw; (try dsimp only at hSw); go_simp; try with_reducible rfl)
              try simp only [Act.put, zl, z0, z1]
              refine tL (v := ?_) 10 rfl (by kernel_rfl) (fun _ _ _ h => h) (Or.inl ⟨by rfl, ?_⟩) (by assumption) ?_; rotate_left
              · (intro w hSw; (try dsimp only at hSw); go_simp; try with_reducible rfl)
              try simp only [Act.put, zl, z0, z1]
              refine tL (v := ?_) 11 rfl (by kernel_rfl) (fun _ _ _ h => h) (Or.inl ⟨by rfl, ?_⟩) (by assumption) ?_; rotate_left
              · (intro w hSw; (try dsimp only at hSw); go_simp; try with_reducible rfl)
              try simp only [Act.put, zl, z0, z1]
              refine tL (v := ?_) 12 rfl (by kernel_rfl) (fun _ _ _ h => h) (Or.inl ⟨by rfl, ?_⟩) (by assumption) ?_; rotate_left
              · (intro w hSw; (try dsimp only at hSw); go_simp; try with_reducible rfl)
              try simp only [Act.put, zl, z0, z1]
              refine tL (v := ?_) 13 rfl (by kernel_rfl) (fun _ _ _ h => h) (Or.inl ⟨by rfl, ?_⟩) (by assumption) ?_; rotate_left
              · (intro w hSw; (try dsimp only at hSw); go_simp; try with_reducible rfl)
              try simp only [Act.put, zl, z0, z1]
              refine wpAnyH_ready (rs := [14]) (by kernel_rfl) (by simp) ?_
              refine consL 14 rfl (fun K hK => ?_) AllReadyH.nil
              go_simp
              refine hK.out _ _ ?_ (fun hHeld1 => ?_)
              · (try dsimp only); first | exact hkeep _ _ hg7 (by assumption) | exact hkeep _ _ (zbA (zbR _ _) (show w2.heap.size ≤ _ by simp; omega) _) (by assumption) | exact hkeep _ _ (zbD (zbR _ _)) hS | (first | (go_keep; done) | (go_split_ands; (repeat' apply And.intro) <;> first | (go_keep; done) | (simp [*, zcA, zcP, zfA, zfP]; done) | (simp [zcA, zcP] <;> rfl) | (simp [*, zsS, zsO, zsA]; done) | ((first | refine (hc _ _ ?_).trans ?_ | refine (hf _ _ ?_).trans ?_) <;> first | assumption | (simp; done) | (simp; omega) | omega | (go_keep; done) | (simp [*, zcA, zcP, zfA, zfP]; done) | (simp [zcA, zcP]; rfl)) | (repeat' first | exact zbR _ _ | assumption | refine zbD ?_ | refine zbA ?_ ?_ _ | refine zbS ?_ ?_ _ | refine zbT ?_ (by assumption) ?_ | (simp; done) | (simp; omega) | omega)))
              clear hK K hHeld0
              try simp only [Act.put, zl, z0, z1]
              refine wpAnyH_ready (rs := [15]) (by kernel_rfl) (by simp) ?_
              refine consL 15 rfl (fun K hK => ?_) AllReadyH.nil
              (refine step_app_marks rfl (.tmp 36) (.tmp 50) rfl w2.heap.size _ outl _ rfl (HO1.out.drew.alloc _) (some ⟨_, 0, none⟩) 1 1 [⟨cm.x, cm.y, v.hxl + (k : Int), v.hyl + (l : Int)⟩] rfl rfl (rdM_one (World.alloc_heap_new _ _)) (fun e => by cases e) (by omega) (by omega) (by simp; omega) _ rfl ?_; intro A2 c2 w7 hown2 hgrow; have hg7 := grown_below (B := w2.heap.size) hgrow (by simp; omega) (fun g hg => (HO1.out.lt g hg).1); have HO2 := hide hown2; clear hown2 hgrow)
              refine hK.out _ _ ?_ (fun hHeld2 => ?_)
              · (try dsimp only); first | exact hkeep _ _ hg7 (by assumption) | exact hkeep _ _ (zbA (zbR _ _) (show w2.heap.size ≤ _ by simp; omega) _) (by assumption) | exact hkeep _ _ (zbD (zbR _ _)) hS | (first | (go_keep; done) | (go_split_ands; (repeat' apply And.intro) <;> first | (go_keep; done) | (simp [*, zcA, zcP, zfA, zfP]; done) | (simp [zcA, zcP] <;> rfl) | (simp [*, zsS, zsO, zsA]; done) | ((first | refine (hc _ _ ?_).trans ?_ | refine (hf _ _ ?_).trans ?_) <;> first | assumption | (simp; done) | (simp; omega) | omega | (go_keep; done) | (simp [*, zcA, zcP, zfA, zfP]; done) | (simp [zcA, zcP]; rfl)) | (repeat' first | exact zbR _ _ | assumption | refine zbD ?_ | refine zbA ?_ ?_ _ | refine zbS ?_ ?_ _ | refine zbT ?_ (by assumption) ?_ | (simp; done) | (simp; omega) | omega)))
              clear hK K hHeld1
              try simp only [Act.put, zl, z0, z1]
              refine tL (v := ?_) 16 rfl (by kernel_rfl) (fun _ _ _ h => h) (Or.inl ⟨by rfl, ?_⟩) (by assumption) ?_; rotate_left
              · (intro w hSw; (try dsimp only at hSw); go_simp; try with_reducible rfl)
              try simp only [Act.put, zl, z0, z1]
              refine wpAnyH_done (by kernel_rfl) ?_ _
              all_goals
                have HB7 := hide (show Below w2.heap.size w2 w7 by go_split_ands; assumption)
                have HE := hide (show L.trC v (tc.take i) ++ L.trA v cm k ++ L.trB v cm (v.hxl + (k : Int)) (l + 1) = outl ++ [⟨cm.x, cm.y, v.hxl + (k : Int), v.hyl + (l : Int)⟩] by rw [L.trB_next, ← List.append_assoc, HOut.out])
                have HL := hide (show (L.trC v (tc.take i) ++ L.trA v cm k ++ L.trB v cm (v.hxl + (k : Int)) (l + 1)).length = outl.length + 1 by rw [HE.out, List.length_append]; rfl)
                clear hkeep hS HOut
                go_wp2_with fail
                go_roundw
                case rel => exact ⟨l + 1, by omega, by go_num, ⟨A2, c2, by rw [HL.out], hide (by rw [HL.out, HE.out]; exact HO2.out)⟩, HB7.out⟩
                case measure => simp [intOf]; omega
            · have hln : l = L.nB v := by omega
              subst hln
              have hgt : v.hyh < v.hyl + (L.nB v : Int) := by omega
              clear eb bp
              have HE := hide (show L.trC v (tc.take i) ++ L.trA v cm (k + 1) = L.trC v (tc.take i) ++ L.trA v cm k ++ L.trB v cm (v.hxl + (k : Int)) (L.nB v) by rw [L.trA_next, List.append_assoc])
              go_wp2_with fail
              go_roundw
              case rel => exact ⟨k + 1, by omega, by go_num, ⟨sv, c', by rw [HE.out], hide (by rw [HE.out]; exact hown.out)⟩, hB⟩
              case measure => simp [intOf]; omega
        · have hkn : k = L.nA v := by omega
          subst hkn
          have hgt : v.hxh < v.hxl + (L.nA v : Int) := by omega
          clear ea
          have HE := hide (L.trC_next v HCM.out)
          go_wp2_with fail
          go_roundw
          case rel => exact ⟨i + 1, by omega, by go_num, ⟨sv, c', by rw [HE.out], hide (by rw [HE.out]; exact hown.out)⟩, hB⟩
          case measure => simp [intOf]; omega
    · have hin : i = tc.length := by omega
      subst hin
      have HE := hide (show L.trC v (tc.take tc.length) = L.truths v by rw [List.take_of_length_le (Nat.le_refl _)]; exact HTr.out)
      go_wp2_with fail
      go_ret
      refine ⟨sv, c', ?_, ?_, ?_⟩
      · rw [← HE.out]; rfl
      · rw [← HE.out]; exact owns_mono hown.out GB2.out.size
      · exact GB2.out.trans (hB.mono GB2.out.size)

end Go.Proofs.Ytgnobonhohfofaa

namespace Go.Proofs.Ytgnobonhohfofaa
open Go.RowKit
attribute [local go_sem ↓] Go.wp_at_zero Go.wp_at_succ

namespace L
theorem truths_mem {v : Vw} {m : Mk} (h : m ∈ truths v) : ∃ c ∈ tcents v 0, m.x = c.1 ∧ m.y = c.2 ∧ v.hxl ≤ m.hx ∧ m.hx ≤ v.hxh ∧ v.hyl ≤ m.hy ∧ m.hy ≤ v.hyh := by
  unfold truths trC at h
  obtain ⟨k, hk, h⟩ := List.mem_flatMap.1 h
  obtain ⟨c, hc, rfl⟩ := List.mem_map.1 hk
  unfold trA at h
  obtain ⟨i, hi, h⟩ := List.mem_flatMap.1 h
  unfold trB at h
  obtain ⟨j, hj, rfl⟩ := List.mem_map.1 h
  rw [List.mem_range] at hi hj
  unfold nA at hi
  unfold nB at hj
  exact ⟨c, hc, rfl, rfl, by dsimp only; omega, by dsimp only; omega, by dsimp only; omega, by dsimp only; omega⟩
theorem truths_of {v : Vw} {c : Int × Int} (hc : c ∈ tcents v 0) {p q : Int} (h1 : v.hxl ≤ p) (h2 : p ≤ v.hxh) (h3 : v.hyl ≤ q) (h4 : q ≤ v.hyh) : (⟨c.1, c.2, p, q⟩ : Mk) ∈ truths v := by
  unfold truths trC
  refine List.mem_flatMap.2 ⟨mk0 c, List.mem_map.2 ⟨c, hc, rfl⟩, ?_⟩
  unfold trA
  refine List.mem_flatMap.2 ⟨(p - v.hxl).toNat, List.mem_range.2 (by unfold nA; omega), ?_⟩
  unfold trB
  refine List.mem_map.2 ⟨(q - v.hyl).toNat, List.mem_range.2 (by unfold nB; omega), ?_⟩
  have e1 : v.hxl + ((p - v.hxl).toNat : Int) = p := by omega
  have e2 : v.hyl + ((q - v.hyl).toNat : Int) = q := by omega
  rw [e1, e2]
  rfl
def cntT (b : Bx) (l : List Mk) : Nat := (l.filter fun m => touch m b).length
theorem cntT_le (b : Bx) (l : List Mk) : cntT b l ≤ l.length := List.length_filter_le _ _
theorem cntT_next (b : Bx) {l : List Mk} {i : Nat} {m : Mk} (h : l[i]? = some m) : cntT b (l.take (i + 1)) = cntT b (l.take i) + (if touch m b then 1 else 0) := by
  unfold cntT
  rw [List.take_add_one, h, Option.toList_some, List.filter_append, List.length_append]
  congr 1
  cases ht : touch m b <;> simp [List.filter_cons, ht]
def callR (l : List Mk) (b : Bx) : Int := if l.length = 0 then 0 else if cntT b l = l.length then 1 else if cntT b l = 0 then 2 else 3
theorem callR_eq {v : Vw} (hv : VwW v) (b : Bx) : callR (truths v) b = callOf v b 0 := by
  have lowT : ∀ m ∈ truths v, ¬ outAt' v b 0 → touch m b = true := fun m hm ho => by
    obtain ⟨c, hc, e1, e2, h1, h2, h3, h4⟩ := truths_mem hm
    cases hl : touch ⟨c.1, c.2, v.hxl, v.hyl⟩ b
    · exact (ho ⟨c, hc, hl⟩).elim
    · obtain ⟨x, y, p, q⟩ := m
      dsimp only at e1 e2 h1 h3
      subst e1 e2
      exact touch_axes hv.x0 hv.y0 h1 h3 hl
  have highF : ∀ m ∈ truths v, ¬ inAt' v b 0 → touch m b = false := fun m hm ho => by
    obtain ⟨c, hc, e1, e2, h1, h2, h3, h4⟩ := truths_mem hm
    cases hl : touch m b
    · rfl
    · refine (ho ⟨c, hc, ?_⟩).elim
      obtain ⟨x, y, p, q⟩ := m
      dsimp only at e1 e2 h1 h2 h3 h4
      subst e1 e2
      exact touch_axes (by have := hv.x0; omega) (by have := hv.y0; omega) h2 h4 hl
  have inM : inAt' v b 0 → ∃ m ∈ truths v, touch m b = true := fun ⟨c, hc, h⟩ => ⟨_, truths_of hc hv.xx (Int.le_refl _) hv.yy (Int.le_refl _), h⟩
  have outM : outAt' v b 0 → ∃ m ∈ truths v, touch m b = false := fun ⟨c, hc, h⟩ => ⟨_, truths_of hc (Int.le_refl _) hv.xx (Int.le_refl _) hv.yy, h⟩
  have pos : ∀ m ∈ truths v, (truths v).length ≠ 0 := fun m hm e => by rw [List.eq_nil_of_length_eq_zero e] at hm; cases hm
  have all : (∀ m ∈ truths v, touch m b = true) → cntT b (truths v) = (truths v).length := fun h => List.length_filter_eq_length_iff.2 (by simpa using h)
  have none : (∀ m ∈ truths v, touch m b = false) → cntT b (truths v) = 0 := fun h => by
    unfold cntT
    rw [List.length_eq_zero_iff, List.filter_eq_nil_iff]
    intro m hm
    rw [h m hm]
    decide
  unfold callR
  rcases call_cases v b 0 with ⟨e, h1, h2⟩ | ⟨e, h1, h2⟩ | ⟨e, h1, h2⟩ | ⟨e, h1, h2⟩
  · rw [e, if_pos]
    rcases hl : truths v with _ | ⟨m, r⟩
    · rfl
    · have hm : m ∈ truths v := by rw [hl]; simp
      have a1 := lowT m hm h2
      have a2 := highF m hm h1
      rw [a1] at a2
      cases a2
  · obtain ⟨m, hm, _⟩ := inM h1
    rw [e, if_neg (pos m hm), if_pos (all (fun m hm => lowT m hm h2))]
  · obtain ⟨m, hm, _⟩ := outM h2
    have := none (fun m hm => highF m hm h1)
    have hp := pos m hm
    rw [e, if_neg hp, if_neg (by omega), if_pos this]
  · obtain ⟨m, hm, ht⟩ := inM h1
    obtain ⟨m', hm', ht'⟩ := outM h2
    have a1 : cntT b (truths v) ≠ (truths v).length := fun h => by
      have := List.length_filter_eq_length_iff.1 h m' hm'
      rw [ht'] at this
      cases this
    have a2 : cntT b (truths v) ≠ 0 := fun h => by
      unfold cntT at h
      rw [List.length_eq_zero_iff, List.filter_eq_nil_iff] at h
      exact h m hm ht
    rw [e, if_neg (pos m hm), if_neg a1, if_neg a2]
theorem truths_ok {v : Vw} (hv : VwW v) {m : Mk} (h : m ∈ truths v) : MkOk m := by
  obtain ⟨c, hc, e1, e2, h1, h2, h3, h4⟩ := truths_mem h
  unfold tcents at hc
  obtain ⟨a1, a2, a3, a4⟩ := mem_cents (List.mem_filter.1 hc).1
  have := hv.s0; have := hv.s1; have := hv.x0; have := hv.x1; have := hv.y0; have := hv.y1
  exact ⟨by omega, by omega, by omega, by omega, by omega, by omega, by omega, by omega⟩
theorem truths_len {v : Vw} (hv : VwW v) : (truths v).length ≤ 200000 := by
  unfold truths
  rw [trC_len, List.length_map]
  have h1 : (tcents v 0).length ≤ (cents v.size.toNat).length := List.length_filter_le _ _
  rw [cents_length] at h1
  have h2 : v.size.toNat + 1 ≤ 41 := by have := hv.s0; have := hv.s1; omega
  have h3 := Nat.mul_le_mul h2 h2
  have hnA : nA v ≤ 9 := by unfold nA; have := hv.x0; have := hv.x1; omega
  have hnB : nB v ≤ 9 := by unfold nB; have := hv.y0; have := hv.y1; omega
  have h4 := Nat.mul_le_mul hnA hnB
  have h5 := Nat.mul_le_mul (show (tcents v 0).length ≤ 1681 by omega) h4
  omega
end L

set_option maxRecDepth 100000 in
set_option maxHeartbeats 6400000 in
theorem refcall_any (v : L.Vw) (A : Option Addr) (n c : Nat) (b : L.Bx) (w : World) (hv : L.VwW v) (hb : L.BxOk b) (hn : v.ss.length = n) (hr : RdS w w.heap.size A v.ss) :
    Calls Try.prog 67 #[.agg #[.int .i64 v.size, .slice A n c, .int .i64 v.wrong, .int .i64 v.hxl, .int .i64 v.hxh, .int .i64 v.hyl, .int .i64 v.hyh], .agg #[.int .i64 b.l, .int .i64 b.r, .int .i64 b.b, .int .i64 b.t]] w fun e w' => e = .returned (.int .i64 (L.callOf v b 0)) ∧ Below w.heap.size w w' := by
  have HN := hide hn
  have HR := hide hr
  have HV := hide hv
  have HB := hide hb
  have HE := hide (L.callR_eq hv b)
  obtain ⟨tl, htl⟩ : ∃ tl, L.truths v = tl := ⟨_, rfl⟩
  have HTL := hide htl
  have hlen : tl.length ≤ 200000 := by rw [← htl]; exact L.truths_len hv
  have HOKS := hide (show ∀ m ∈ tl, L.MkOk m from fun m hm => L.truths_ok hv (by rw [htl]; exact hm))
  clear hn hr hv hb
  rw [htl] at HE
  clear htl
  go_enter Try.func67, Try.ntmps67
  go_upto_region 1 with fail
  obtain ⟨W0, hW0⟩ : ∃ W0, (w.alloc (.cells #[.int .i64 v.size, .slice A n c, .int .i64 v.wrong, .int .i64 v.hxl, .int .i64 v.hxh, .int .i64 v.hyl, .int .i64 v.hyh] 26)).alloc (.cells #[.int .i64 b.l, .int .i64 b.r, .int .i64 b.b, .int .i64 b.t] 28) = W0 := ⟨_, rfl⟩
  have gp : W0.heap[w.heap.size]? = some (.cells #[.int .i64 v.size, .slice A n c, .int .i64 v.wrong, .int .i64 v.hxl, .int .i64 v.hxh, .int .i64 v.hyl, .int .i64 v.hyh] 26 (0, 0)) := by
    rw [← hW0]; exact (Below.heap_alloc _ _ _ (by first | (simp; done) | (simp; omega) | omega)).trans (World.alloc_heap_new _ _)
  have gq : W0.heap[w.heap.size + 1]? = some (.cells #[.int .i64 b.l, .int .i64 b.r, .int .i64 b.b, .int .i64 b.t] 28 (0, 0)) := by
    rw [← hW0]; exact blk_new2
  have gs : W0.heap.size = w.heap.size + 1 + 1 := by rw [← hW0]; simp
  have gB : Below w.heap.size w W0 := by rw [← hW0]; (repeat' first | exact zbR _ _ | assumption | refine zbD ?_ | refine zbA ?_ ?_ _ | refine zbS ?_ ?_ _ | refine zbT ?_ (by assumption) ?_ | (simp; done) | (simp; omega) | omega)
  rw [hW0]
  clear hW0
  obtain ⟨p, hp⟩ : ∃ p, w.heap.size = p := ⟨_, rfl⟩
  obtain ⟨q, hq⟩ : ∃ q, w.heap.size + 1 = q := ⟨_, rfl⟩
  rw [hq, hp]
  rw [hp] at gp
  rw [hq] at gq
  have lp : p < W0.heap.size := by omega
  have lq : q < W0.heap.size := by omega
  have HR0 := hide ((HR.out.below gB).mono gB.size)
  have GB := hide gB
  have GQ := hide gq
  have cp0 := (blk_cell gp 0).trans rfl; have cp1 := (blk_cell gp 1).trans rfl; have cp2 := (blk_cell gp 2).trans rfl; have cp3 := (blk_cell gp 3).trans rfl; have cp4 := (blk_cell gp 4).trans rfl; have cp5 := (blk_cell gp 5).trans rfl; have cp6 := (blk_cell gp 6).trans rfl
  clear gp gq gB gs hp hq HR
  go_wp2_with (go_at_call 73; refine (refTruths_any v A n c _ HV.out HN.out HR0.out).mono ?_; rintro e w2 ⟨svt, ct, rfl, hownt, hb2⟩; rw [HTL.out] at hownt ⊢)
  have GQ2 := hide ((hb2.block q lq).trans GQ.out)
  have GB2 := hide (GB.out.trans (hb2.mono GB.out.size))
  have q2 := hb2.size
  have lq2 : q < w2.heap.size := by omega
  have HT2 := hide hownt
  clear cp0 cp1 cp2 cp3 cp4 cp5 cp6 hownt hb2 lp lq q2 GQ GB HR0
  go_loopw [6, 7] (fun m t wr => ∃ i : Nat, i ≤ tl.length ∧ t = .int .i64 i ∧ m = .int .i64 (L.cntT b (tl.take i) : Int) ∧ Below w2.heap.size w2 wr) (fun _ t _ => tl.length - (intOf t).toNat)
  case atStart => exact ⟨0, by omega, rfl, by simp [L.cntT], Below.refl _ _⟩
  case round =>
    obtain ⟨i, hi, rfl, rfl, hB⟩ := hrel
    have qB := hB.size
    have hi0 : (0 : Int) ≤ (i : Int) := by omega
    have hcl := L.cntT_le b (tl.take i)
    rw [List.length_take] at hcl
    by_cases hlt : i < tl.length
    · obtain ⟨tm, htm⟩ : ∃ tm, tl[i]? = some tm := ⟨_, List.getElem?_eq_getElem hlt⟩
      obtain ⟨g, cap, e, hbg, hgl⟩ := HT2.out.form (by omega)
      have e' : svt = some ⟨g, 0, none⟩ ∧ ct = cap := by
        simp only [Value.slice.injEq] at e
        exact ⟨e.1, e.2.2⟩
      obtain ⟨rfl, rfl⟩ := e'
      obtain ⟨m0, m1, m2, m3⟩ := flatM_at htm
      have s0 := (hB.cell (p := ⟨g, i * 4, none⟩) hgl).trans ((HT2.out.cellAt (i * 4) (by omega)).trans m0)
      have s1 := (hB.cell (p := ⟨g, i * 4 + 1, none⟩) hgl).trans ((HT2.out.cellAt (i * 4 + 1) (by omega)).trans m1)
      have s2 := (hB.cell (p := ⟨g, i * 4 + 1 + 1, none⟩) hgl).trans ((HT2.out.cellAt (i * 4 + 1 + 1) (by omega)).trans m2)
      have s3 := (hB.cell (p := ⟨g, i * 4 + 1 + 1 + 1, none⟩) hgl).trans ((HT2.out.cellAt (i * 4 + 1 + 1 + 1) (by omega)).trans m3)
      have bq := (hB.block q lq2).trans GQ2.out
      have hlt' : (i : Int) < (tl.length : Int) := by omega
      have HTM := hide (HOKS.out tm (List.mem_of_getElem? htm))
      have HNX := hide (L.cntT_next b htm)
      have lgr : g < wr.heap.size := by omega
      have lqr : q < wr.heap.size := by omega
      have hc0 : (0 : Int) ≤ (L.cntT b (tl.take i) : Int) := by omega
      have hc1 : (L.cntT b (tl.take i) : Int) ≤ 200000 := by omega
      have cq0 := (blk_cell bq 0).trans rfl; have cq1 := (blk_cell bq 1).trans rfl; have cq2 := (blk_cell bq 2).trans rfl; have cq3 := (blk_cell bq 3).trans rfl
      clear e m0 m1 m2 m3 bq htm hcl
      go_upto_region 6 with fail
      have hS : (fun w' => Below wr.heap.size wr w' ∧ q < w'.heap.size ∧ g < w'.heap.size ∧ w'.cell? ⟨q, 0, none⟩ = some (.int .i64 b.l) ∧ w'.cell? ⟨q, 1, none⟩ = some (.int .i64 b.r) ∧ w'.cell? ⟨q, 2, none⟩ = some (.int .i64 b.b) ∧ w'.cell? ⟨q, 3, none⟩ = some (.int .i64 b.t) ∧ w'.cell? ⟨g, i * 4, none⟩ = some (.int .i64 tm.x) ∧ w'.cell? ⟨g, i * 4 + 1, none⟩ = some (.int .i64 tm.y) ∧ w'.cell? ⟨g, i * 4 + 1 + 1, none⟩ = some (.int .i64 tm.hx) ∧ w'.cell? ⟨g, i * 4 + 1 + 1 + 1, none⟩ = some (.int .i64 tm.hy)) wr := ⟨Below.refl _ _, lqr, lgr, cq0, cq1, cq2, cq3, s0, s1, s2, s3⟩
      have HB1 := hide hB
      obtain ⟨W1, hW1⟩ : ∃ W1, wr = W1 := ⟨_, rfl⟩
      rw [hW1] at hS HB1 ⊢
      clear hW1 hB qB lqr lgr cq0 cq1 cq2 cq3 s0 s1 s2 s3
      have hkeep : ∀ u u' : World, Below u.heap.size u u' → (Below W1.heap.size W1 u ∧ q < u.heap.size ∧ g < u.heap.size ∧ u.cell? ⟨q, 0, none⟩ = some (.int .i64 b.l) ∧ u.cell? ⟨q, 1, none⟩ = some (.int .i64 b.r) ∧ u.cell? ⟨q, 2, none⟩ = some (.int .i64 b.b) ∧ u.cell? ⟨q, 3, none⟩ = some (.int .i64 b.t) ∧ u.cell? ⟨g, i * 4, none⟩ = some (.int .i64 tm.x) ∧ u.cell? ⟨g, i * 4 + 1, none⟩ = some (.int .i64 tm.y) ∧ u.cell? ⟨g, i * 4 + 1 + 1, none⟩ = some (.int .i64 tm.hx) ∧ u.cell? ⟨g, i * 4 + 1 + 1 + 1, none⟩ = some (.int .i64 tm.hy)) → (Below W1.heap.size W1 u' ∧ q < u'.heap.size ∧ g < u'.heap.size ∧ u'.cell? ⟨q, 0, none⟩ = some (.int .i64 b.l) ∧ u'.cell? ⟨q, 1, none⟩ = some (.int .i64 b.r) ∧ u'.cell? ⟨q, 2, none⟩ = some (.int .i64 b.b) ∧ u'.cell? ⟨q, 3, none⟩ = some (.int .i64 b.t) ∧ u'.cell? ⟨g, i * 4, none⟩ = some (.int .i64 tm.x) ∧ u'.cell? ⟨g, i * 4 + 1, none⟩ = some (.int .i64 tm.y) ∧ u'.cell? ⟨g, i * 4 + 1 + 1, none⟩ = some (.int .i64 tm.hx) ∧ u'.cell? ⟨g, i * 4 + 1 + 1 + 1, none⟩ = some (.int .i64 tm.hy)) := by
        rintro u u' hb ⟨hB, l_q, l_g, k0, k1, k2, k3, k4, k5, k6, k7⟩
        exact ⟨hB.trans (hb.mono hB.size), Nat.lt_of_lt_of_le l_q hb.size, Nat.lt_of_lt_of_le l_g hb.size, (hb.cell (p := ⟨q, 0, none⟩) l_q).trans k0, (hb.cell (p := ⟨q, 1, none⟩) l_q).trans k1, (hb.cell (p := ⟨q, 2, none⟩) l_q).trans k2, (hb.cell (p := ⟨q, 3, none⟩) l_q).trans k3, (hb.cell (p := ⟨g, i * 4, none⟩) l_g).trans k4, (hb.cell (p := ⟨g, i * 4 + 1, none⟩) l_g).trans k5, (hb.cell (p := ⟨g, i * 4 + 1 + 1, none⟩) l_g).trans k6, (hb.cell (p := ⟨g, i * 4 + 1 + 1 + 1, none⟩) l_g).trans k7⟩
      (try dsimp only at hS)
      refine wp_region_held_drew (S := (fun w' => Below W1.heap.size W1 w' ∧ q < w'.heap.size ∧ g < w'.heap.size ∧ w'.cell? ⟨q, 0, none⟩ = some (.int .i64 b.l) ∧ w'.cell? ⟨q, 1, none⟩ = some (.int .i64 b.r) ∧ w'.cell? ⟨q, 2, none⟩ = some (.int .i64 b.b) ∧ w'.cell? ⟨q, 3, none⟩ = some (.int .i64 b.t) ∧ w'.cell? ⟨g, i * 4, none⟩ = some (.int .i64 tm.x) ∧ w'.cell? ⟨g, i * 4 + 1, none⟩ = some (.int .i64 tm.y) ∧ w'.cell? ⟨g, i * 4 + 1 + 1, none⟩ = some (.int .i64 tm.hx) ∧ w'.cell? ⟨g, i * 4 + 1 + 1 + 1, none⟩ = some (.int .i64 tm.hy))) (by kernel_rfl) ?_ (fun hHeld0 => ?_)
      · (try dsimp only); (first | (go_keep; done) | (go_split_ands; (repeat' apply And.intro) <;> first | (go_keep; done) | (simp [*, zcA, zcP, zfA, zfP]; done) | (simp [zcA, zcP] <;> rfl) | (simp [*, zsS, zsO, zsA]; done) | ((first | refine (hc _ _ ?_).trans ?_ | refine (hf _ _ ?_).trans ?_) <;> first | assumption | (simp; done) | (simp; omega) | omega | (go_keep; done) | (simp [*, zcA, zcP, zfA, zfP]; done) | (simp [zcA, zcP]; rfl)) | (repeat' first | exact zbR _ _ | assumption | refine zbD ?_ | refine zbA ?_ ?_ _ | refine zbS ?_ ?_ _ | refine zbT ?_ (by assumption) ?_ | (simp; done) | (simp; omega) | omega)))
      refine tL (v := ?_) 0 rfl (by kernel_rfl) (fun _ _ _ h => h) (Or.inl ⟨by rfl, ?_⟩) (by assumption) ?_; rotate_left
      · (intro w hSw; (try dsimp only at hSw); go_simp; try with_reducible rfl)
      try simp only [Act.put, zl, z0, z1]
      refine tL (v := ?_) 1 rfl (by kernel_rfl) (fun _ _ _ h => h) (Or.inl ⟨by rfl, ?_⟩) (by assumption) ?_; rotate_left
      · (intro w hSw; (try dsimp only at hSw); go_simp; try with_reducible rfl)
      try simp only [Act.put, zl, z0, z1]
      refine tL (v := ?_) 2 rfl (by kernel_rfl) (fun _ _ _ h => h) (Or.inl ⟨by rfl, ?_⟩) (by assumption) ?_; rotate_left
      · (intro w hSw; (try dsimp only at hSw); go_simp; try with_reducible rfl)
      try simp only [Act.put, zl, z0, z1]
      refine tL (v := ?_) 3 rfl (by kernel_rfl) (fun _ _ _ h => h) (Or.inl ⟨by rfl, ?_⟩) (by assumption) ?_; rotate_left
      · (intro w hSw; (try dsimp only at hSw); go_simp; try with_reducible rfl)
      try simp only [Act.put, zl, z0, z1]
      refine tL (v := ?_) 4 rfl (by kernel_rfl) (fun _ _ _ h => h) (Or.inl ⟨by rfl, ?_⟩) (by assumption) ?_; rotate_left
      · (intro w hSw; (try dsimp only at hSw); go_simp; try with_reducible rfl)
      try simp only [Act.put, zl, z0, z1]
      refine wpAnyH_ready (rs := [5]) (by kernel_rfl) (by simp) ?_
      refine consL 5 rfl (fun K hK => ?_) AllReadyH.nil
      go_simp
      (go_at_call 21; refine (refTouch_any tm b _ HB.out HTM.out).mono ?_; rintro e w6 ⟨rfl, hb⟩; have hSn := hkeep _ _ hb (by assumption); (try clear hS); have hS := hSn; clear hSn)
      refine hK.out _ _ ?_ (fun hHeld1 => ?_)
      · (try dsimp only); exact hS
      clear hK K hHeld0
      try simp only [Act.put, zl, z0, z1]
      refine wpAnyH_done (by kernel_rfl) ?_ _
      obtain ⟨hB6, _, _, _⟩ := hS
      have HB6 := hide (HB1.out.trans (hB6.mono HB1.out.size))
      clear hkeep hHeld1 hB6
      cases ht : L.touch tm b
      all_goals
        rw [ht] at HNX
        go_wp2_with fail
        go_roundw
        case rel => exact ⟨i + 1, by omega, by go_num, by (first | (rw [HNX.out]; simp; done) | (rw [HNX.out]; go_num)), HB6.out⟩
        case measure => simp [intOf]; omega
    · have hin : i = tl.length := by omega
      subst hin
      have hT := List.take_of_length_le (Nat.le_refl tl.length)
      rw [hT] at hcl ⊢
      obtain ⟨cn, hcn⟩ : ∃ cn, L.cntT b tl = cn := ⟨_, rfl⟩
      obtain ⟨ln, hln⟩ : ∃ ln, tl.length = ln := ⟨_, rfl⟩
      unfold L.callR at HE
      rw [hcn, hln] at HE
      rw [hcn, hln] at hcl
      rw [hcn]
      simp only [hln]
      have HLN := hide hln
      clear hT hcn hln hlen hlt hi
      by_cases e0 : ln = 0
      · rw [if_pos e0] at HE
        subst e0
        go_wp2_with fail
        go_ret
        exact ⟨by rw [← HE.out]; rfl, GB2.out.trans (hB.mono GB2.out.size)⟩
      · rw [if_neg e0] at HE
        have d0 : ((ln : Int) == 0) = false := by simp only [beq_eq_false_iff_ne, ne_eq]; omega
        by_cases e1 : cn = ln
        · rw [if_pos e1] at HE
          subst e1
          go_wp2_with fail
          go_ret
          exact ⟨by rw [← HE.out]; rfl, GB2.out.trans (hB.mono GB2.out.size)⟩
        · rw [if_neg e1] at HE
          have d1 : ((cn : Int) == (ln : Int)) = false := by simp only [beq_eq_false_iff_ne, ne_eq]; omega
          by_cases e2 : cn = 0
          · rw [if_pos e2] at HE
            subst e2
            go_wp2_with fail
            go_ret
            exact ⟨by rw [← HE.out]; rfl, GB2.out.trans (hB.mono GB2.out.size)⟩
          · rw [if_neg e2] at HE
            have d2 : ((cn : Int) == 0) = false := by simp only [beq_eq_false_iff_ne, ne_eq]; omega
            go_wp2_with fail
            go_ret
            exact ⟨by rw [← HE.out]; rfl, GB2.out.trans (hB.mono GB2.out.size)⟩

end Go.Proofs.Ytgnobonhohfofaa

namespace Go.Proofs.Ytgnobonhohfofaa
namespace L

structure Ap where
  kind : Int
  side : Int
  said : Int
  v : Vw
  A : Option Addr
  n : Nat
  c : Nat
  b : Bx

structure Rs where
  bad : Bool
  ds : List Int
  l0 : Int
  l1 : Int

def Rs.left (s : Rs) (side : Int) : Int := if side = 0 then s.l0 else s.l1
def askOk (a : Ap) (s : Rs) : Bool := decide (decE a.said a.v a.b = 0) && within a.side 0 1 && !(s.left a.side == 0)
def stepR (each more : Int) (s : Rs) (a : Ap) : Rs :=
  if a.kind = 1 then { s with l0 := each, l1 := each }
  else if a.kind = 2 then { s with l0 := s.l0 + more, l1 := s.l1 + more }
  else if a.kind = 3 then
    if askOk a s then
      { s with ds := s.ds ++ [decV a.said a.v a.b], l0 := if a.side = 0 ∧ decK a.said a.v a.b = false then s.l0 - 1 else s.l0, l1 := if a.side = 1 ∧ decK a.said a.v a.b = false then s.l1 - 1 else s.l1 }
    else { s with bad := true }
  else { s with bad := true }
def runFrom (each more : Int) : Rs → List Ap → Rs
  | s, [] => s
  | s, a :: r => if (stepR each more s a).bad then stepR each more s a else runFrom each more (stepR each more s a) r
def rs0 : Rs := ⟨false, [], 0, 0⟩
def runR (each more : Int) (l : List Ap) : Rs := runFrom each more rs0 l
theorem stepR_bad {each more : Int} {s : Rs} {a : Ap} (h : s.bad = false) : (stepR each more s a).bad = true ∨ (stepR each more s a).bad = false := by
  cases (stepR each more s a).bad <;> simp
theorem runFrom_take {each more : Int} : ∀ {l : List Ap} {i : Nat} {s : Rs} {a : Ap}, l[i]? = some a → (runFrom each more s (l.take i)).bad = false → runFrom each more s (l.take (i + 1)) = stepR each more (runFrom each more s (l.take i)) a
  | [], i, s, a, h, _ => by simp at h
  | b :: r, 0, s, a, h, hb => by
    have e : b = a := Option.some.inj h
    subst e
    show (if (stepR each more s b).bad then stepR each more s b else stepR each more s b) = stepR each more s b
    split <;> rfl
  | b :: r, i + 1, s, a, h, hb => by
    have h' : r[i]? = some a := h
    rw [List.take_succ_cons] at hb ⊢
    rw [List.take_succ_cons]
    simp only [runFrom] at hb ⊢
    cases hs : (stepR each more s b).bad
    · rw [hs] at hb
      simp only [Bool.false_eq_true, if_false] at hb ⊢
      exact runFrom_take h' hb
    · rw [hs] at hb
      simp only [if_true] at hb
      rw [hs] at hb
      cases hb
theorem runFrom_stay {each more : Int} : ∀ {l : List Ap} {i : Nat} {s : Rs}, (runFrom each more s (l.take i)).bad = true → (runFrom each more s l).bad = true
  | [], i, s, h => by simpa using h
  | b :: r, 0, s, h => by
    have h' : s.bad = true := h
    have : (stepR each more s b).bad = true := by
      unfold stepR
      split
      · exact h'
      · split
        · exact h'
        · split
          · split
            · exact h'
            · rfl
          · rfl
    simp only [runFrom, this, if_true]
  | b :: r, i + 1, s, h => by
    rw [List.take_succ_cons] at h
    simp only [runFrom] at h ⊢
    cases hs : (stepR each more s b).bad
    · rw [hs] at h
      simp only [Bool.false_eq_true, if_false] at h ⊢
      exact runFrom_stay h
    · simp [hs]
theorem runFrom_len {each more : Int} : ∀ {l : List Ap} {s : Rs}, (runFrom each more s l).ds.length ≤ s.ds.length + l.length
  | [], s => by simp [runFrom]
  | a :: r, s => by
    have h1 : (stepR each more s a).ds.length ≤ s.ds.length + 1 := by
      unfold stepR
      split
      · simp
      · split
        · simp
        · split
          · split <;> simp
          · simp
    simp only [runFrom]
    split
    · simp only [List.length_cons]; omega
    · have := runFrom_len (l := r) (s := stepR each more s a) (each := each) (more := more)
      simp only [List.length_cons]; omega
structure RsBd (s : Rs) (i : Nat) : Prop where
  a0 : 0 ≤ s.l0
  a1 : s.l0 ≤ 9 + 9 * i
  b0 : 0 ≤ s.l1
  b1 : s.l1 ≤ 9 + 9 * i
theorem stepR_bd {each more : Int} {s : Rs} {a : Ap} {i : Nat} (h : RsBd s i) (h1 : 0 ≤ each) (h2 : each ≤ 9) (h3 : 0 ≤ more) (h4 : more ≤ 9) : RsBd (stepR each more s a) (i + 1) := by
  obtain ⟨a0, a1, b0, b1⟩ := h
  unfold stepR
  split
  · exact ⟨by simp only; omega, by simp only; omega, by simp only; omega, by simp only; omega⟩
  · split
    · exact ⟨by simp only; omega, by simp only; omega, by simp only; omega, by simp only; omega⟩
    · split
      · split
        · rename_i hk
          unfold askOk at hk
          simp only [Bool.and_eq_true, Bool.not_eq_true', beq_eq_false_iff_ne, ne_eq] at hk
          have hl := hk.2
          unfold Rs.left at hl
          refine ⟨?_, ?_, ?_, ?_⟩ <;> simp only
          · split
            · rename_i hs
              rw [if_pos hs.1] at hl
              omega
            · exact a0
          · split <;> omega
          · split
            · rename_i hs
              rw [if_neg (by omega)] at hl
              omega
            · exact b0
          · split <;> omega
        · exact ⟨a0, by simp only; omega, b0, by simp only; omega⟩
      · exact ⟨a0, by simp only; omega, b0, by simp only; omega⟩
def ruleOk (each more : Int) (n : Nat) : Bool := within each 0 9 && within more 0 9 && decide (n ≤ 30)
def runBad (each more : Int) (l : List Ap) : Bool := !ruleOk each more l.length || (runR each more l).bad
def runE (each more : Int) (l : List Ap) : Int := if runBad each more l then 23 else 0
def runD (each more : Int) (l : List Ap) : List Int := if runBad each more l then [] else (runR each more l).ds
def runL (each more : Int) (l : List Ap) : Int × Int := if runBad each more l then (0, 0) else ((runR each more l).l0, (runR each more l).l1)
end L

structure ApAt (w : World) (B b o : Nat) (a : L.Ap) : Prop where
  c0 : w.cell? ⟨b, o, none⟩ = some (.int .i64 a.kind)
  c1 : w.cell? ⟨b, o + 1, none⟩ = some (.int .i64 a.side)
  c2 : w.cell? ⟨b, o + 1 + 1, none⟩ = some (.int .i64 a.said)
  c3 : w.cell? ⟨b, o + 1 + 1 + 1, none⟩ = some (.int .i64 a.v.size)
  c4 : w.cell? ⟨b, o + 1 + 1 + 1 + 1, none⟩ = some (.slice a.A a.n a.c)
  c5 : w.cell? ⟨b, o + 1 + 1 + 1 + 1 + 1, none⟩ = some (.int .i64 a.v.wrong)
  c6 : w.cell? ⟨b, o + 1 + 1 + 1 + 1 + 1 + 1, none⟩ = some (.int .i64 a.v.hxl)
  c7 : w.cell? ⟨b, o + 1 + 1 + 1 + 1 + 1 + 1 + 1, none⟩ = some (.int .i64 a.v.hxh)
  c8 : w.cell? ⟨b, o + 1 + 1 + 1 + 1 + 1 + 1 + 1 + 1, none⟩ = some (.int .i64 a.v.hyl)
  c9 : w.cell? ⟨b, o + 1 + 1 + 1 + 1 + 1 + 1 + 1 + 1 + 1, none⟩ = some (.int .i64 a.v.hyh)
  c10 : w.cell? ⟨b, o + 1 + 1 + 1 + 1 + 1 + 1 + 1 + 1 + 1 + 1, none⟩ = some (.int .i64 a.b.l)
  c11 : w.cell? ⟨b, o + 1 + 1 + 1 + 1 + 1 + 1 + 1 + 1 + 1 + 1 + 1, none⟩ = some (.int .i64 a.b.r)
  c12 : w.cell? ⟨b, o + 1 + 1 + 1 + 1 + 1 + 1 + 1 + 1 + 1 + 1 + 1 + 1, none⟩ = some (.int .i64 a.b.b)
  c13 : w.cell? ⟨b, o + 1 + 1 + 1 + 1 + 1 + 1 + 1 + 1 + 1 + 1 + 1 + 1 + 1, none⟩ = some (.int .i64 a.b.t)
  len : a.v.ss.length = a.n
  rd : RdS w B a.A a.v.ss
  nil : a.A = none → a.c = 0
open Go.RowKit in
theorem ApAt.below {w w' : World} {B b o : Nat} {a : L.Ap} (h : ApAt w B b o a) (hb : b < B) (hw : Below B w w') : ApAt w' B b o a := by
  have k : ∀ {j : Nat} {v : Value}, w.cell? ⟨b, j, none⟩ = some v → w'.cell? ⟨b, j, none⟩ = some v := fun {j v} h => (hw.cell (p := ⟨b, j, none⟩) hb).trans h
  exact ⟨k h.c0, k h.c1, k h.c2, k h.c3, k h.c4, k h.c5, k h.c6, k h.c7, k h.c8, k h.c9, k h.c10, k h.c11, k h.c12, k h.c13, h.len, h.rd.below hw, h.nil⟩
theorem ApAt.mono {w : World} {B B' b o : Nat} {a : L.Ap} (h : ApAt w B b o a) (hB : B ≤ B') : ApAt w B' b o a :=
  ⟨h.c0, h.c1, h.c2, h.c3, h.c4, h.c5, h.c6, h.c7, h.c8, h.c9, h.c10, h.c11, h.c12, h.c13, h.len, h.rd.mono hB, h.nil⟩
def RdA (w : World) (B : Nat) (A : Option Addr) (l : List L.Ap) : Prop :=
  ∀ (k : Nat) (a : L.Ap), l[k]? = some a → ∃ b o : Nat, A = some ⟨b, o, none⟩ ∧ b < B ∧ ApAt w B b (o + k * 14) a
theorem RdA.nil (w : World) (B : Nat) (A : Option Addr) : RdA w B A [] := fun k s h => by simp at h
open Go.RowKit in
theorem RdA.below {w w' : World} {B : Nat} {A : Option Addr} {l : List L.Ap} (h : RdA w B A l) (hb : Below B w w') : RdA w' B A l := fun k a hk => by
  obtain ⟨b, o, hA, hlt, h0⟩ := h k a hk
  exact ⟨b, o, hA, hlt, h0.below hlt hb⟩
theorem RdA.mono {w : World} {B B' : Nat} {A : Option Addr} {l : List L.Ap} (h : RdA w B A l) (hb : B ≤ B') : RdA w B' A l := fun k a hk => by
  obtain ⟨b, o, hA, hlt, h0⟩ := h k a hk
  exact ⟨b, o, hA, Nat.lt_of_lt_of_le hlt hb, h0.mono hb⟩

end Go.Proofs.Ytgnobonhohfofaa

namespace Go.Proofs.Ytgnobonhohfofaa
open Go.RowKit
attribute [local go_sem ↓] Go.wp_at_zero Go.wp_at_succ

theorem Keeps.then_below {S : Nat → Prop} {A B C : World} (h : Keeps S A B) (hb : Below A.heap.size B C) : Keeps S A C := ⟨h.rest.trans (hb.mono (Nat.zero_le _)), fun k hS hk => (hb.block k hk).trans (h.same k hS hk)⟩
def RunPost (each more : Int) (l : List L.Ap) (w : World) (e : Ending) (w' : World) : Prop :=
  ∃ sv c', e = .returned (.tuple #[.slice sv (L.runD each more l).length c', .agg #[.int .i64 (L.runL each more l).1, .int .i64 (L.runL each more l).2], .int .i64 (L.runE each more l)]) ∧ w'.ownsRow w.heap.size 3 1 (.slice sv (L.runD each more l).length c') (L.runD each more l).length (flatI (L.runD each more l)) ∧ Below w.heap.size w w'
theorem run_bad {each more : Int} {l : List L.Ap} {w w' : World} (h : L.runBad each more l = true) (hb : Below w.heap.size w w') : RunPost each more l w (.returned (.tuple #[.slice none 0 0, .agg #[.int .i64 0, .int .i64 0], .int .i64 23])) w' := by
  have e1 : L.runD each more l = [] := by unfold L.runD; rw [h]; rfl
  have e2 : L.runL each more l = (0, 0) := by unfold L.runL; rw [h]; rfl
  have e3 : L.runE each more l = 23 := by unfold L.runE; rw [h]; rfl
  unfold RunPost
  rw [e1, e2, e3]
  exact ⟨none, 0, rfl, World.ownsRow_nil _ _ _ _, hb⟩
theorem run_good {each more : Int} {l : List L.Ap} {w w' : World} {s : L.Rs} {sv : Option Addr} {c : Nat} (h : L.runBad each more l = false) (hs : L.runR each more l = s) (ho : w'.ownsRow w.heap.size 3 1 (.slice sv s.ds.length c) s.ds.length (flatI s.ds)) (hb : Below w.heap.size w w') : RunPost each more l w (.returned (.tuple #[.slice sv s.ds.length c, .agg #[.int .i64 s.l0, .int .i64 s.l1], .int .i64 0])) w' := by
  have e1 : L.runD each more l = s.ds := by unfold L.runD; rw [h, hs]; rfl
  have e2 : L.runL each more l = (s.l0, s.l1) := by unfold L.runL; rw [h, hs]; rfl
  have e3 : L.runE each more l = 0 := by unfold L.runE; rw [h]; rfl
  unfold RunPost
  rw [e1, e2, e3]
  exact ⟨sv, c, rfl, ho, hb⟩

theorem Run_results {Z : World} {g : Nat} {a b e : Int} {sv : Option Addr} {n c : Nat} {cs tmps : Array Value} (h : Z.heap[g]? = some (.cells cs 64 (0, 0)))
    (e3 : cs = #[.int .i64 a, .int .i64 b]) (t4 : tmps[4]? = some (.slice sv n c)) (t5 : tmps[5]? = some (.pointer (some ⟨g, 0, none⟩))) (t6 : tmps[6]? = some (.int .i64 e)) :
    (results Try.f33 tmps).run Try.prog Z = .ok (.tuple #[.slice sv n c, .agg #[.int .i64 a, .int .i64 b], .int .i64 e]) Z := by
  subst e3
  have k1 : Z.cell? ⟨g, 0, none⟩ = some (.int .i64 a) := blk_cell h 0
  have k2 : Z.cell? ⟨g, 1, none⟩ = some (.int .i64 b) := blk_cell h 1
  simp [results, Try.results33, go_sem, t4, t5, t6, k1, k2]

set_option maxRecDepth 100000 in
set_option maxHeartbeats 6400000 in
theorem Run_rule1 (each more : Int) (l : List L.Ap) (A : Option Addr) (n c : Nat) (w : World) (hn : l.length = n) (hr : RdA w w.heap.size A l) (X1 : L.within each 0 9 = false) :
    Calls Try.prog 33 #[.agg #[.int .i64 each, .int .i64 more], .slice A n c] w fun e w' => RunPost each more l w e w' := by
  have HN := hide hn
  have HR := hide hr
  have HBAD := hide (show L.runBad each more l = true by unfold L.runBad L.ruleOk; rw [X1]; rfl)
  clear hn hr
  go_enter Try.func33, Try.ntmps33
  go_upto_region 1 with fail
  obtain ⟨W0, hW0⟩ : ∃ W0, (w.alloc (.cells #[.int .i64 each, .int .i64 more] 62)).alloc (.cells #[.int .i64 0, .int .i64 0] 64) = W0 := ⟨_, rfl⟩
  have gp : W0.heap[w.heap.size]? = some (.cells #[.int .i64 each, .int .i64 more] 62 (0, 0)) := by
    rw [← hW0]; exact (Below.heap_alloc _ _ _ (by first | (simp; done) | (simp; omega) | omega)).trans (World.alloc_heap_new _ _)
  have gq : W0.heap[w.heap.size + 1]? = some (.cells #[.int .i64 0, .int .i64 0] 64 (0, 0)) := by
    rw [← hW0]; exact (congrArg _ (by simp)).trans (World.alloc_heap_new _ _)
  have gs : W0.heap.size = w.heap.size + 1 + 1 := by rw [← hW0]; simp
  have gB : Below w.heap.size w W0 := by rw [← hW0]; (repeat' first | exact zbR _ _ | assumption | refine zbD ?_ | refine zbA ?_ ?_ _ | refine zbS ?_ ?_ _ | refine zbT ?_ (by assumption) ?_ | (simp; done) | (simp; omega) | omega)
  rw [hW0]
  clear hW0
  obtain ⟨p, hp⟩ : ∃ p, w.heap.size = p := ⟨_, rfl⟩
  obtain ⟨q, hq⟩ : ∃ q, w.heap.size + 1 = q := ⟨_, rfl⟩
  rw [hq, hp]
  rw [hp] at gp
  rw [hq] at gq
  have lp : p < W0.heap.size := by omega
  have lq : q < W0.heap.size := by omega
  have hpq : p ≠ q := by omega
  have hwp : w.heap.size = p := hp
  have hwq : w.heap.size ≤ q := by omega
  have HR0 := hide (HR.out.below gB)
  have GB := hide gB
  have GP := hide gp
  have GQ := hide gq
  have cp0 := (blk_cell gp 0).trans rfl; have cp1 := (blk_cell gp 1).trans rfl
  have cq0 := (blk_cell gq 0).trans rfl; have cq1 := (blk_cell gq 1).trans rfl
  have fq0 := blk_frozen gq 0; have fq1 := blk_frozen gq 1
  clear gp gq gB HR hp hq gs
  go_wp2_with (go_at_call 61; refine (within_any _ _ _ _).mono ?_; rintro e w4 ⟨rfl, rfl⟩; rw [X1])
  refine bodyPost_ret (v := .tuple #[.slice none 0 0, .agg #[.int .i64 0, .int .i64 0], .int .i64 23]) (Run_results (blk_set (blk_set GQ.out 0 (.int .i64 0)) 1 (.int .i64 0)) rfl rfl rfl rfl) rfl ?_
  exact run_bad HBAD.out (zbS (zbS GB.out hwq _) hwq _)

set_option maxRecDepth 100000 in
set_option maxHeartbeats 6400000 in
theorem Run_rule2 (each more : Int) (l : List L.Ap) (A : Option Addr) (n c : Nat) (w : World) (hn : l.length = n) (hr : RdA w w.heap.size A l) (X1 : L.within each 0 9 = true) (X2 : L.within more 0 9 = false) :
    Calls Try.prog 33 #[.agg #[.int .i64 each, .int .i64 more], .slice A n c] w fun e w' => RunPost each more l w e w' := by
  have HN := hide hn
  have HR := hide hr
  have HBAD := hide (show L.runBad each more l = true by unfold L.runBad L.ruleOk; rw [X1, X2]; rfl)
  clear hn hr
  go_enter Try.func33, Try.ntmps33
  go_upto_region 1 with fail
  obtain ⟨W0, hW0⟩ : ∃ W0, (w.alloc (.cells #[.int .i64 each, .int .i64 more] 62)).alloc (.cells #[.int .i64 0, .int .i64 0] 64) = W0 := ⟨_, rfl⟩
  have gp : W0.heap[w.heap.size]? = some (.cells #[.int .i64 each, .int .i64 more] 62 (0, 0)) := by
    rw [← hW0]; exact (Below.heap_alloc _ _ _ (by first | (simp; done) | (simp; omega) | omega)).trans (World.alloc_heap_new _ _)
  have gq : W0.heap[w.heap.size + 1]? = some (.cells #[.int .i64 0, .int .i64 0] 64 (0, 0)) := by
    rw [← hW0]; exact (congrArg _ (by simp)).trans (World.alloc_heap_new _ _)
  have gs : W0.heap.size = w.heap.size + 1 + 1 := by rw [← hW0]; simp
  have gB : Below w.heap.size w W0 := by rw [← hW0]; (repeat' first | exact zbR _ _ | assumption | refine zbD ?_ | refine zbA ?_ ?_ _ | refine zbS ?_ ?_ _ | refine zbT ?_ (by assumption) ?_ | (simp; done) | (simp; omega) | omega)
  rw [hW0]
  clear hW0
  obtain ⟨p, hp⟩ : ∃ p, w.heap.size = p := ⟨_, rfl⟩
  obtain ⟨q, hq⟩ : ∃ q, w.heap.size + 1 = q := ⟨_, rfl⟩
  rw [hq, hp]
  rw [hp] at gp
  rw [hq] at gq
  have lp : p < W0.heap.size := by omega
  have lq : q < W0.heap.size := by omega
  have hpq : p ≠ q := by omega
  have hwp : w.heap.size = p := hp
  have hwq : w.heap.size ≤ q := by omega
  have HR0 := hide (HR.out.below gB)
  have GB := hide gB
  have GP := hide gp
  have GQ := hide gq
  have cp0 := (blk_cell gp 0).trans rfl; have cp1 := (blk_cell gp 1).trans rfl
  have cq0 := (blk_cell gq 0).trans rfl; have cq1 := (blk_cell gq 1).trans rfl
  have fq0 := blk_frozen gq 0; have fq1 := blk_frozen gq 1
  clear gp gq gB HR hp hq gs
  go_wp2_with (go_at_call 61; refine (within_any _ _ _ _).mono ?_; rintro e w4 ⟨rfl, rfl⟩; first | rw [X1] | rw [X2])
  refine bodyPost_ret (v := .tuple #[.slice none 0 0, .agg #[.int .i64 0, .int .i64 0], .int .i64 23]) (Run_results (blk_set (blk_set GQ.out 0 (.int .i64 0)) 1 (.int .i64 0)) rfl rfl rfl rfl) rfl ?_
  exact run_bad HBAD.out (zbS (zbS GB.out hwq _) hwq _)

set_option maxRecDepth 100000 in
set_option maxHeartbeats 6400000 in
theorem Run_rule3 (each more : Int) (l : List L.Ap) (A : Option Addr) (n c : Nat) (w : World) (hn : l.length = n) (hr : RdA w w.heap.size A l) (X1 : L.within each 0 9 = true) (X2 : L.within more 0 9 = true) (X3 : 30 < n) :
    Calls Try.prog 33 #[.agg #[.int .i64 each, .int .i64 more], .slice A n c] w fun e w' => RunPost each more l w e w' := by
  have HN := hide hn
  have HR := hide hr
  have HBAD := hide (show L.runBad each more l = true by unfold L.runBad L.ruleOk; rw [X1, X2, hn, decide_eq_false (by omega)]; rfl)
  have X3' : (30 : Int) < (n : Int) := by omega
  clear hn hr X3
  go_enter Try.func33, Try.ntmps33
  go_upto_region 1 with fail
  obtain ⟨W0, hW0⟩ : ∃ W0, (w.alloc (.cells #[.int .i64 each, .int .i64 more] 62)).alloc (.cells #[.int .i64 0, .int .i64 0] 64) = W0 := ⟨_, rfl⟩
  have gp : W0.heap[w.heap.size]? = some (.cells #[.int .i64 each, .int .i64 more] 62 (0, 0)) := by
    rw [← hW0]; exact (Below.heap_alloc _ _ _ (by first | (simp; done) | (simp; omega) | omega)).trans (World.alloc_heap_new _ _)
  have gq : W0.heap[w.heap.size + 1]? = some (.cells #[.int .i64 0, .int .i64 0] 64 (0, 0)) := by
    rw [← hW0]; exact (congrArg _ (by simp)).trans (World.alloc_heap_new _ _)
  have gs : W0.heap.size = w.heap.size + 1 + 1 := by rw [← hW0]; simp
  have gB : Below w.heap.size w W0 := by rw [← hW0]; (repeat' first | exact zbR _ _ | assumption | refine zbD ?_ | refine zbA ?_ ?_ _ | refine zbS ?_ ?_ _ | refine zbT ?_ (by assumption) ?_ | (simp; done) | (simp; omega) | omega)
  rw [hW0]
  clear hW0
  obtain ⟨p, hp⟩ : ∃ p, w.heap.size = p := ⟨_, rfl⟩
  obtain ⟨q, hq⟩ : ∃ q, w.heap.size + 1 = q := ⟨_, rfl⟩
  rw [hq, hp]
  rw [hp] at gp
  rw [hq] at gq
  have lp : p < W0.heap.size := by omega
  have lq : q < W0.heap.size := by omega
  have hpq : p ≠ q := by omega
  have hwp : w.heap.size = p := hp
  have hwq : w.heap.size ≤ q := by omega
  have HR0 := hide (HR.out.below gB)
  have GB := hide gB
  have GP := hide gp
  have GQ := hide gq
  have cp0 := (blk_cell gp 0).trans rfl; have cp1 := (blk_cell gp 1).trans rfl
  have cq0 := (blk_cell gq 0).trans rfl; have cq1 := (blk_cell gq 1).trans rfl
  have fq0 := blk_frozen gq 0; have fq1 := blk_frozen gq 1
  clear gp gq gB HR hp hq gs
  go_wp2_with (go_at_call 61; refine (within_any _ _ _ _).mono ?_; rintro e w4 ⟨rfl, rfl⟩; first | rw [X1] | rw [X2])
  refine bodyPost_ret (v := .tuple #[.slice none 0 0, .agg #[.int .i64 0, .int .i64 0], .int .i64 23]) (Run_results (blk_set (blk_set GQ.out 0 (.int .i64 0)) 1 (.int .i64 0)) rfl rfl rfl rfl) rfl ?_
  exact run_bad HBAD.out (zbS (zbS GB.out hwq _) hwq _)

set_option maxRecDepth 100000 in
set_option maxHeartbeats 6400000 in
theorem Run_yes (each more : Int) (l : List L.Ap) (A : Option Addr) (n c : Nat) (w : World) (hn : l.length = n) (hr : RdA w w.heap.size A l) (X1 : L.within each 0 9 = true) (X2 : L.within more 0 9 = true) (X3 : n ≤ 30) :
    Calls Try.prog 33 #[.agg #[.int .i64 each, .int .i64 more], .slice A n c] w fun e w' => RunPost each more l w e w' := by
  have HN := hide hn
  have HR := hide hr
  have HRO := hide (show L.ruleOk each more l.length = true by unfold L.ruleOk; rw [X1, X2, hn, decide_eq_true X3]; rfl)
  have X3' : (n : Int) ≤ 30 := by omega
  have hx1 := X1
  have hx2 := X2
  simp only [L.within, Bool.and_eq_true, decide_eq_true_eq] at hx1 hx2
  obtain ⟨e0, e9⟩ := hx1
  obtain ⟨o0, o9⟩ := hx2
  clear hn hr
  go_enter Try.func33, Try.ntmps33
  go_upto_region 1 with fail
  obtain ⟨W0, hW0⟩ : ∃ W0, (w.alloc (.cells #[.int .i64 each, .int .i64 more] 62)).alloc (.cells #[.int .i64 0, .int .i64 0] 64) = W0 := ⟨_, rfl⟩
  have gp : W0.heap[w.heap.size]? = some (.cells #[.int .i64 each, .int .i64 more] 62 (0, 0)) := by
    rw [← hW0]; exact (Below.heap_alloc _ _ _ (by first | (simp; done) | (simp; omega) | omega)).trans (World.alloc_heap_new _ _)
  have gq : W0.heap[w.heap.size + 1]? = some (.cells #[.int .i64 0, .int .i64 0] 64 (0, 0)) := by
    rw [← hW0]; exact (congrArg _ (by simp)).trans (World.alloc_heap_new _ _)
  have gs : W0.heap.size = w.heap.size + 1 + 1 := by rw [← hW0]; simp
  have gB : Below w.heap.size w W0 := by rw [← hW0]; (repeat' first | exact zbR _ _ | assumption | refine zbD ?_ | refine zbA ?_ ?_ _ | refine zbS ?_ ?_ _ | refine zbT ?_ (by assumption) ?_ | (simp; done) | (simp; omega) | omega)
  rw [hW0]
  clear hW0
  obtain ⟨p, hp⟩ : ∃ p, w.heap.size = p := ⟨_, rfl⟩
  obtain ⟨q, hq⟩ : ∃ q, w.heap.size + 1 = q := ⟨_, rfl⟩
  rw [hq, hp]
  rw [hp] at gp
  rw [hq] at gq
  have lp : p < W0.heap.size := by omega
  have lq : q < W0.heap.size := by omega
  have hpq : p ≠ q := by omega
  have hwp : w.heap.size = p := hp
  have hwq : w.heap.size ≤ q := by omega
  have HR0 := hide (HR.out.below gB)
  have GB := hide gB
  have GP := hide gp
  have GQ := hide gq
  have cp0 := (blk_cell gp 0).trans rfl; have cp1 := (blk_cell gp 1).trans rfl
  have cq0 := (blk_cell gq 0).trans rfl; have cq1 := (blk_cell gq 1).trans rfl
  have fq0 := blk_frozen gq 0; have fq1 := blk_frozen gq 1
  clear gp gq gB HR hp hq gs
  go_upto_region 4 with (go_at_call 61; refine (within_any _ _ _ _).mono ?_; rintro e w4 ⟨rfl, rfl⟩; first | rw [X1] | rw [X2])
  clear X1 X2 cp0 cp1 cq0 cq1 fq0 fq1
  go_loopw [4, 30] (fun m t wr => ∃ i : Nat, i ≤ n ∧ t = .int .i64 i ∧ (∃ s : L.Rs, Hid (L.runFrom each more L.rs0 (l.take i) = s) ∧ Hid (s.bad = false) ∧ Hid (L.RsBd s i) ∧ s.ds.length ≤ i ∧ (∃ sv c', m = .slice sv s.ds.length c' ∧ Hid (wr.ownsRow W0.heap.size 3 1 (.slice sv s.ds.length c') s.ds.length (flatI s.ds))) ∧ Hid (wr.heap[q]? = some (.cells #[.int .i64 s.l0, .int .i64 s.l1] 64 (0, 0)))) ∧ Keeps (fun y => y ≠ q) W0 wr) (fun _ t _ => n - (intOf t).toNat)
  case atStart => exact ⟨0, by omega, rfl, ⟨L.rs0, hide rfl, hide rfl, hide ⟨by decide, by decide, by decide, by decide⟩, by decide, ⟨none, 0, rfl, hide (World.ownsRow_nil _ _ _ _)⟩, GQ⟩, Keeps.refl _ _⟩
  case round =>
    obtain ⟨i, hi, rfl, ⟨s, HS, HSB, HBD, hsl, ⟨sv, c', rfl, hown⟩, HQ⟩, hK⟩ := hrel
    have qK := hK.rest.size
    have lpr : p < wr.heap.size := by omega
    have lqr : q < wr.heap.size := by omega
    have hi0 : (0 : Int) ≤ (i : Int) := by omega
    have HW := hide (hK.below (n := w.heap.size) (fun y hy => by show y ≠ q; omega) (by omega))
    have GBr := hide (GB.out.trans HW.out)
    obtain ⟨a0, a1, b0, b1⟩ := HBD.out
    by_cases hlt : i < n
    · obtain ⟨a, ha⟩ : ∃ a, l[i]? = some a := ⟨_, List.getElem?_eq_getElem (by have := HN.out; omega)⟩
      obtain ⟨b, o, hA, hbB, hat⟩ := (HR0.out.below HW.out) i a ha
      subst hA
      have HNX := hide (show L.runFrom each more L.rs0 (l.take (i + 1)) = L.stepR each more s a by rw [L.runFrom_take ha (by rw [HS.out]; exact HSB.out), HS.out])
      have HNB := hide (L.stepR_bd (a := a) HBD.out e0 e9 o0 o9)
      have HBADX := hide (show (L.stepR each more s a).bad = true → L.runBad each more l = true from fun h => by
        unfold L.runBad L.runR
        rw [L.runFrom_stay (i := i + 1) (by rw [HNX.out]; exact h), Bool.or_true])
      have hlt' : (i : Int) < (n : Int) := by omega
      obtain ⟨c0, c1, c2, c3, c4, c5, c6, c7, c8, c9, c10, c11, c12, c13, hlen, hrd, hnil⟩ := hat
      have HLEN := hide hlen
      have HRD := hide (hrd.mono (B' := wr.heap.size) (by omega))
      clear ha hlen hrd hnil
      go_upto_region 6 with fail
      obtain ⟨W1, hW1⟩ : ∃ W1, wr.alloc (.cells #[.int .i64 a.kind, .int .i64 a.side, .int .i64 a.said, .int .i64 a.v.size, .slice a.A a.n a.c, .int .i64 a.v.wrong, .int .i64 a.v.hxl, .int .i64 a.v.hxh, .int .i64 a.v.hyl, .int .i64 a.v.hyh, .int .i64 a.b.l, .int .i64 a.b.r, .int .i64 a.b.b, .int .i64 a.b.t] 66) = W1 := ⟨_, rfl⟩
      have gk : W1.heap[wr.heap.size]? = some (.cells #[.int .i64 a.kind, .int .i64 a.side, .int .i64 a.said, .int .i64 a.v.size, .slice a.A a.n a.c, .int .i64 a.v.wrong, .int .i64 a.v.hxl, .int .i64 a.v.hxh, .int .i64 a.v.hyl, .int .i64 a.v.hyh, .int .i64 a.b.l, .int .i64 a.b.r, .int .i64 a.b.b, .int .i64 a.b.t] 66 (0, 0)) := by rw [← hW1]; exact World.alloc_heap_new _ _
      have gq : W1.heap[q]? = some (.cells #[.int .i64 s.l0, .int .i64 s.l1] 64 (0, 0)) := by rw [← hW1]; exact (Below.heap_alloc _ _ _ lqr).trans HQ.out
      have gp : W1.heap[p]? = some (.cells #[.int .i64 each, .int .i64 more] 62 (0, 0)) := by rw [← hW1]; exact (Below.heap_alloc _ _ _ lpr).trans ((hK.same p hpq lp).trans GP.out)
      have gs : W1.heap.size = wr.heap.size + 1 := by rw [← hW1]; simp
      have gK : Keeps (fun y => y ≠ q) W0 W1 := by rw [← hW1]; exact hK.alloc _
      have gO : W1.ownsRow W0.heap.size 3 1 (.slice sv s.ds.length c') s.ds.length (flatI s.ds) := by rw [← hW1]; exact hown.out.alloc _
      have gB : Below wr.heap.size wr W1 := by rw [← hW1]; (repeat' first | exact zbR _ _ | assumption | refine zbD ?_ | refine zbA ?_ ?_ _ | refine zbS ?_ ?_ _ | refine zbT ?_ (by assumption) ?_ | (simp; done) | (simp; omega) | omega)
      rw [hW1]
      clear hW1 c0 c1 c2 c3 c4 c5 c6 c7 c8 c9 c10 c11 c12 c13
      obtain ⟨k, hk⟩ : ∃ k, wr.heap.size = k := ⟨_, rfl⟩
      have hOlt : ∀ g, (Value.slice sv s.ds.length c').ownBlock = some g → W0.heap.size ≤ g ∧ g < k := fun g hg => by rw [← hk]; exact hown.out.lt g hg
      rw [hk] at gk gs ⊢
      have lk : k < W1.heap.size := by omega
      have lq1 : q < W1.heap.size := by omega
      have lp1 : p < W1.heap.size := by omega
      have hkq : k ≠ q := by omega
      have HRD1 := hide ((HRD.out.below gB).mono gB.size)
      have GB1 := hide (GBr.out.trans (gB.mono GBr.out.size))
      have HOW := hide gO
      have GK := hide gK
      have w01 : W0.heap.size ≤ W1.heap.size := gK.rest.size
      have GQ1 := hide gq
      have GKB := hide gk
      have HOL := hide hOlt
      have ck0 := (blk_cell gk 0).trans rfl; have ck1 := (blk_cell gk 1).trans rfl; have ck2 := (blk_cell gk 2).trans rfl; have ck3 := (blk_cell gk 3).trans rfl; have ck4 := (blk_cell gk 4).trans rfl; have ck5 := (blk_cell gk 5).trans rfl; have ck6 := (blk_cell gk 6).trans rfl; have ck7 := (blk_cell gk 7).trans rfl; have ck8 := (blk_cell gk 8).trans rfl; have ck9 := (blk_cell gk 9).trans rfl; have ck10 := (blk_cell gk 10).trans rfl; have ck11 := (blk_cell gk 11).trans rfl; have ck12 := (blk_cell gk 12).trans rfl; have ck13 := (blk_cell gk 13).trans rfl
      have cq0 := (blk_cell gq 0).trans rfl; have cq1 := (blk_cell gq 1).trans rfl
      have cp0 := (blk_cell gp 0).trans rfl; have cp1 := (blk_cell gp 1).trans rfl
      have fq0 := blk_frozen gq 0; have fq1 := blk_frozen gq 1
      have l0q : (0 : Nat) < 2 := by omega
      clear gk gq gp gK gO gB hown HQ hK hk HRD HW GBr qK hOlt lpr lqr hbB gs
      by_cases hk1 : a.kind = 1
      · have d1 : (a.kind == 1) = true := by rw [hk1]; rfl
        have d2 : (a.kind == 2) = false := by rw [hk1]; rfl
        have d3 : (a.kind == 3) = false := by rw [hk1]; rfl
        have HE := hide (show L.stepR each more s a = { s with l0 := each, l1 := each } by unfold L.stepR; rw [if_pos hk1])
        clear hk1 HBADX
        go_wp2_with fail
        go_roundw
        case rel => exact ⟨i + 1, by omega, by go_num, ⟨_, HNX, hide (by rw [HE.out]; exact HSB.out), HNB, by rw [HE.out]; show s.ds.length ≤ i + 1; omega, ⟨sv, c', by rw [HE.out], hide (by rw [HE.out]; exact ownsRow_setCell_below (ownsRow_setCell_below HOW.out lq _) lq _)⟩, hide (by rw [HE.out]; exact blk_set (blk_set GQ1.out 0 _) 1 _)⟩, (GK.out.st (fun h => h rfl)).st (fun h => h rfl)⟩
        case measure => simp [intOf]; omega
      · by_cases hk2 : a.kind = 2
        · have d1 : (a.kind == 1) = false := by rw [hk2]; rfl
          have d2 : (a.kind == 2) = true := by rw [hk2]; rfl
          have d3 : (a.kind == 3) = false := by rw [hk2]; rfl
          have HE := hide (show L.stepR each more s a = { s with l0 := s.l0 + more, l1 := s.l1 + more } by unfold L.stepR; rw [if_neg hk1, if_pos hk2])
          clear hk1 hk2 HBADX
          go_wp2_with fail
          go_roundw
          case rel => exact ⟨i + 1, by omega, by go_num, ⟨_, HNX, hide (by rw [HE.out]; exact HSB.out), HNB, by rw [HE.out]; show s.ds.length ≤ i + 1; omega, ⟨sv, c', by rw [HE.out], hide (by rw [HE.out]; exact ownsRow_setCell_below (ownsRow_setCell_below HOW.out lq _) lq _)⟩, hide (by rw [HE.out]; exact blk_set (blk_set GQ1.out 0 _) 1 _)⟩, (GK.out.st (fun h => h rfl)).st (fun h => h rfl)⟩
          case measure => simp [intOf]; omega
        · by_cases hk3 : a.kind = 3
          · have d1 : (a.kind == 1) = false := by rw [hk3]; rfl
            have d2 : (a.kind == 2) = false := by rw [hk3]; rfl
            have d3 : (a.kind == 3) = true := by rw [hk3]; rfl
            obtain ⟨dv, hdv⟩ : ∃ dv, L.decV a.said a.v a.b = dv := ⟨_, rfl⟩
            obtain ⟨dk, hdk⟩ : ∃ dk, L.decK a.said a.v a.b = dk := ⟨_, rfl⟩
            obtain ⟨de, hde⟩ : ∃ de, L.decE a.said a.v a.b = de := ⟨_, rfl⟩
            have HDV := hide hdv
            have HDK := hide hdk
            have HDE := hide hde
            have HE3 := hide (show L.stepR each more s a = if L.askOk a s then { s with ds := s.ds ++ [dv], l0 := if a.side = 0 ∧ dk = false then s.l0 - 1 else s.l0, l1 := if a.side = 1 ∧ dk = false then s.l1 - 1 else s.l1 } else { s with bad := true } by unfold L.stepR; rw [if_neg hk1, if_neg hk2, if_pos hk3, hdv, hdk])
            have HAO := hide (show L.askOk a s = (decide (de = 0) && L.within a.side 0 1 && !(s.left a.side == 0)) by unfold L.askOk; rw [hde])
            clear hk1 hk2 hk3 hdv hdk hde
            by_cases hs0 : a.side = 0
            · have SW : L.within a.side 0 1 = true := by rw [hs0]; rfl
              have SL : s.left a.side = s.l0 := by unfold L.Rs.left; rw [hs0]; rfl
              rw [hs0] at ck1
              by_cases hd : de = 0
              · by_cases hl : s.l0 = 0
                · have HE := hide (show (L.stepR each more s a).bad = true by rw [HE3.out, HAO.out, SW, SL, hl]; simp)
                  have dl : (s.l0 == 0) = true := by rw [hl]; rfl
                  subst hd
                  clear SL hl
                  go_wp2_with (first | (go_at_call 32; refine (Decide_any a.said a.v a.A a.n a.c a.b _ HLEN.out ((HRD1.out.below (by (repeat' first | exact zbR _ _ | assumption | refine zbD ?_ | refine zbA ?_ ?_ _ | refine zbS ?_ ?_ _ | refine zbT ?_ (by assumption) ?_ | (simp; done) | (simp; omega) | omega))).mono (by first | (simp; done) | (simp; omega) | omega))).mono ?_; rintro e w3 ⟨rfl, hb3⟩; rw [HDE.out, HDV.out, HDK.out]; obtain ⟨hc3, hf3⟩ := bcell hb3; have q3 := hb3.size; have z3k : k < w3.heap.size := (by omega); have z3q : q < w3.heap.size := (by omega); have z3p : p < w3.heap.size := (by omega); have c3q0 : w3.cell? ⟨q, 0, none⟩ = some (.int .i64 s.l0) := (hb3.cell (p := ⟨q, 0, none⟩) lq1).trans cq0; have c3q1 : w3.cell? ⟨q, 1, none⟩ = some (.int .i64 s.l1) := (hb3.cell (p := ⟨q, 1, none⟩) lq1).trans cq1; have c3k1 := (hb3.cell (p := ⟨k, 1, none⟩) lk).trans ck1) | (go_at_call 61; refine (within_any _ _ _ _).mono ?_; rintro e w4 ⟨rfl, rfl⟩; rw [hs0] at SW; rw [SW]))
                  refine bodyPost_ret (v := .tuple #[.slice none 0 0, .agg #[.int .i64 0, .int .i64 0], .int .i64 23]) (Run_results (blk_set (blk_set ((hb3.block q lq1).trans GQ1.out) 0 (.int .i64 0)) 1 (.int .i64 0)) rfl rfl rfl rfl) rfl ?_
                  exact run_bad (HBADX.out HE.out) (zbS (zbS (GB1.out.trans (hb3.mono (by have := GB1.out.size; omega))) hwq _) hwq _)
                · have HOKA : L.askOk a s = true := by rw [HAO.out, SW, SL, hd]; simp [hl]
                  have dl : (s.l0 == 0) = false := by simpa using hl
                  subst hd
                  cases hdk : dk
                  · have HE := hide (show L.stepR each more s a = { s with ds := s.ds ++ [dv], l0 := s.l0 - 1 } by rw [HE3.out, HOKA, hdk, hs0]; rfl)
                    have HL := hide (show (s.ds ++ [dv]).length = s.ds.length + 1 by simp)
                    subst hdk
                    clear SL hl HOKA HE3 HAO HBADX
                    go_wp2_with (first | (go_at_call 32; refine (Decide_any a.said a.v a.A a.n a.c a.b _ HLEN.out ((HRD1.out.below (by (repeat' first | exact zbR _ _ | assumption | refine zbD ?_ | refine zbA ?_ ?_ _ | refine zbS ?_ ?_ _ | refine zbT ?_ (by assumption) ?_ | (simp; done) | (simp; omega) | omega))).mono (by first | (simp; done) | (simp; omega) | omega))).mono ?_; rintro e w3 ⟨rfl, hb3⟩; rw [HDE.out, HDV.out, HDK.out]; obtain ⟨hc3, hf3⟩ := bcell hb3; have q3 := hb3.size; have z3k : k < w3.heap.size := (by omega); have z3q : q < w3.heap.size := (by omega); have z3p : p < w3.heap.size := (by omega); have c3q0 : w3.cell? ⟨q, 0, none⟩ = some (.int .i64 s.l0) := (hb3.cell (p := ⟨q, 0, none⟩) lq1).trans cq0; have c3q1 : w3.cell? ⟨q, 1, none⟩ = some (.int .i64 s.l1) := (hb3.cell (p := ⟨q, 1, none⟩) lq1).trans cq1; have c3k1 := (hb3.cell (p := ⟨k, 1, none⟩) lk).trans ck1) | (go_at_call 61; refine (within_any _ _ _ _).mono ?_; rintro e w4 ⟨rfl, rfl⟩; rw [hs0] at SW; rw [SW]) | (refine wpList_app_at rfl (.tmp 86) (.tmp 88) rfl W0.heap.size _ s.ds _ rfl ((owns_below HOW.out (hb3.mono (by omega))).alloc _) (some ⟨_, 0, none⟩) 1 1 [dv] rfl rfl (rdI_one (World.alloc_heap_new _ _)) (fun e => by cases e) (by omega) (by omega) (by simp; omega) ?_; intro A2 c2 w7 hown2 hgrow; have HO2 := hide hown2; have ck71 := (hgrow.cell_far ⟨k, 1, none⟩ (by simp; omega) (by intro e; have := HOL.out k e.symm; omega)).trans ((zcP _ _ _ z3k).trans ((hb3.cell (p := ⟨k, 1, none⟩) lk).trans ck1)); have gq7 := (hgrow.block q (by simp; omega) (by intro e; have := HOL.out q e.symm; omega)).trans ((Below.heap_alloc _ _ _ z3q).trans ((hb3.block q lq1).trans GQ1.out)); have GQ7 := hide gq7; have cq70 := (blk_cell gq7 0).trans rfl; have cq71 := (blk_cell gq7 1).trans rfl; have fq70 := blk_frozen gq7 0; have fq71 := blk_frozen gq7 1; have z7 := hgrow.size; (try simp at z7); have z7k : k < w7.heap.size := (by omega); have z7q : q < w7.heap.size := (by omega); have hg7 := grown_below (B := W0.heap.size) hgrow (by simp; omega) (fun g hg => (HOL.out g hg).1); have GK7 := hide (((GK.out.trans (Keeps.of_below hb3)).alloc _).then_below hg7); clear hown2 hgrow gq7))
                    go_roundw
                    case rel => exact ⟨i + 1, by omega, by go_num, ⟨_, HNX, hide (by rw [HE.out]; exact HSB.out), HNB, by rw [HE.out]; show (s.ds ++ [dv]).length ≤ i + 1; have := HL.out; omega, ⟨A2, c2, by rw [HE.out, ← HL.out], hide (by rw [HE.out]; show World.ownsRow _ _ _ _ (.slice A2 (s.ds ++ [dv]).length c2) (s.ds ++ [dv]).length _; rw [HL.out]; exact ownsRow_setCell_below HO2.out lq _)⟩, hide (by rw [HE.out]; exact blk_set GQ7.out 0 _)⟩, GK7.out.st (fun h => h rfl)⟩
                    case measure => simp [intOf]; omega
                  · have HE := hide (show L.stepR each more s a = { s with ds := s.ds ++ [dv] } by rw [HE3.out, HOKA, hdk]; simp)
                    have HL := hide (show (s.ds ++ [dv]).length = s.ds.length + 1 by simp)
                    subst hdk
                    clear SL hl HOKA HE3 HAO HBADX
                    go_wp2_with (first | (go_at_call 32; refine (Decide_any a.said a.v a.A a.n a.c a.b _ HLEN.out ((HRD1.out.below (by (repeat' first | exact zbR _ _ | assumption | refine zbD ?_ | refine zbA ?_ ?_ _ | refine zbS ?_ ?_ _ | refine zbT ?_ (by assumption) ?_ | (simp; done) | (simp; omega) | omega))).mono (by first | (simp; done) | (simp; omega) | omega))).mono ?_; rintro e w3 ⟨rfl, hb3⟩; rw [HDE.out, HDV.out, HDK.out]; obtain ⟨hc3, hf3⟩ := bcell hb3; have q3 := hb3.size; have z3k : k < w3.heap.size := (by omega); have z3q : q < w3.heap.size := (by omega); have z3p : p < w3.heap.size := (by omega); have c3q0 : w3.cell? ⟨q, 0, none⟩ = some (.int .i64 s.l0) := (hb3.cell (p := ⟨q, 0, none⟩) lq1).trans cq0; have c3q1 : w3.cell? ⟨q, 1, none⟩ = some (.int .i64 s.l1) := (hb3.cell (p := ⟨q, 1, none⟩) lq1).trans cq1; have c3k1 := (hb3.cell (p := ⟨k, 1, none⟩) lk).trans ck1) | (go_at_call 61; refine (within_any _ _ _ _).mono ?_; rintro e w4 ⟨rfl, rfl⟩; rw [hs0] at SW; rw [SW]) | (refine wpList_app_at rfl (.tmp 86) (.tmp 88) rfl W0.heap.size _ s.ds _ rfl ((owns_below HOW.out (hb3.mono (by omega))).alloc _) (some ⟨_, 0, none⟩) 1 1 [dv] rfl rfl (rdI_one (World.alloc_heap_new _ _)) (fun e => by cases e) (by omega) (by omega) (by simp; omega) ?_; intro A2 c2 w7 hown2 hgrow; have HO2 := hide hown2; have ck71 := (hgrow.cell_far ⟨k, 1, none⟩ (by simp; omega) (by intro e; have := HOL.out k e.symm; omega)).trans ((zcP _ _ _ z3k).trans ((hb3.cell (p := ⟨k, 1, none⟩) lk).trans ck1)); have gq7 := (hgrow.block q (by simp; omega) (by intro e; have := HOL.out q e.symm; omega)).trans ((Below.heap_alloc _ _ _ z3q).trans ((hb3.block q lq1).trans GQ1.out)); have GQ7 := hide gq7; have cq70 := (blk_cell gq7 0).trans rfl; have cq71 := (blk_cell gq7 1).trans rfl; have fq70 := blk_frozen gq7 0; have fq71 := blk_frozen gq7 1; have z7 := hgrow.size; (try simp at z7); have z7k : k < w7.heap.size := (by omega); have z7q : q < w7.heap.size := (by omega); have hg7 := grown_below (B := W0.heap.size) hgrow (by simp; omega) (fun g hg => (HOL.out g hg).1); have GK7 := hide (((GK.out.trans (Keeps.of_below hb3)).alloc _).then_below hg7); clear hown2 hgrow gq7))
                    go_roundw
                    case rel => exact ⟨i + 1, by omega, by go_num, ⟨_, HNX, hide (by rw [HE.out]; exact HSB.out), HNB, by rw [HE.out]; show (s.ds ++ [dv]).length ≤ i + 1; have := HL.out; omega, ⟨A2, c2, by rw [HE.out, ← HL.out], hide (by rw [HE.out]; show World.ownsRow _ _ _ _ (.slice A2 (s.ds ++ [dv]).length c2) (s.ds ++ [dv]).length _; rw [HL.out]; exact HO2.out)⟩, hide (by rw [HE.out]; exact GQ7.out)⟩, GK7.out⟩
                    case measure => simp [intOf]; omega
              · have HE := hide (show (L.stepR each more s a).bad = true by rw [HE3.out, HAO.out, decide_eq_false hd]; rfl)
                have dd : (de == 0) = false := by simpa using hd
                have dd' : (de != 0) = true := by simpa using hd
                clear SL hd
                go_wp2_with (first | (go_at_call 32; refine (Decide_any a.said a.v a.A a.n a.c a.b _ HLEN.out ((HRD1.out.below (by (repeat' first | exact zbR _ _ | assumption | refine zbD ?_ | refine zbA ?_ ?_ _ | refine zbS ?_ ?_ _ | refine zbT ?_ (by assumption) ?_ | (simp; done) | (simp; omega) | omega))).mono (by first | (simp; done) | (simp; omega) | omega))).mono ?_; rintro e w3 ⟨rfl, hb3⟩; rw [HDE.out, HDV.out, HDK.out]; obtain ⟨hc3, hf3⟩ := bcell hb3; have q3 := hb3.size; have z3k : k < w3.heap.size := (by omega); have z3q : q < w3.heap.size := (by omega); have z3p : p < w3.heap.size := (by omega); have c3q0 : w3.cell? ⟨q, 0, none⟩ = some (.int .i64 s.l0) := (hb3.cell (p := ⟨q, 0, none⟩) lq1).trans cq0; have c3q1 : w3.cell? ⟨q, 1, none⟩ = some (.int .i64 s.l1) := (hb3.cell (p := ⟨q, 1, none⟩) lq1).trans cq1; have c3k1 := (hb3.cell (p := ⟨k, 1, none⟩) lk).trans ck1) | (go_at_call 61; refine (within_any _ _ _ _).mono ?_; rintro e w4 ⟨rfl, rfl⟩; rw [hs0] at SW; rw [SW]))
                refine bodyPost_ret (v := .tuple #[.slice none 0 0, .agg #[.int .i64 0, .int .i64 0], .int .i64 23]) (Run_results (blk_set (blk_set ((hb3.block q lq1).trans GQ1.out) 0 (.int .i64 0)) 1 (.int .i64 0)) rfl rfl rfl rfl) rfl ?_
                exact run_bad (HBADX.out HE.out) (zbS (zbS (GB1.out.trans (hb3.mono (by have := GB1.out.size; omega))) hwq _) hwq _)
            · by_cases hs1 : a.side = 1
              · have SW : L.within a.side 0 1 = true := by rw [hs1]; rfl
                have SL : s.left a.side = s.l1 := by unfold L.Rs.left; rw [hs1]; rfl
                rw [hs1] at ck1
                by_cases hd : de = 0
                · by_cases hl : s.l1 = 0
                  · have HE := hide (show (L.stepR each more s a).bad = true by rw [HE3.out, HAO.out, SW, SL, hl]; simp)
                    have dl : (s.l1 == 0) = true := by rw [hl]; rfl
                    subst hd
                    clear SL hl
                    go_wp2_with (first | (go_at_call 32; refine (Decide_any a.said a.v a.A a.n a.c a.b _ HLEN.out ((HRD1.out.below (by (repeat' first | exact zbR _ _ | assumption | refine zbD ?_ | refine zbA ?_ ?_ _ | refine zbS ?_ ?_ _ | refine zbT ?_ (by assumption) ?_ | (simp; done) | (simp; omega) | omega))).mono (by first | (simp; done) | (simp; omega) | omega))).mono ?_; rintro e w3 ⟨rfl, hb3⟩; rw [HDE.out, HDV.out, HDK.out]; obtain ⟨hc3, hf3⟩ := bcell hb3; have q3 := hb3.size; have z3k : k < w3.heap.size := (by omega); have z3q : q < w3.heap.size := (by omega); have z3p : p < w3.heap.size := (by omega); have c3q0 : w3.cell? ⟨q, 0, none⟩ = some (.int .i64 s.l0) := (hb3.cell (p := ⟨q, 0, none⟩) lq1).trans cq0; have c3q1 : w3.cell? ⟨q, 1, none⟩ = some (.int .i64 s.l1) := (hb3.cell (p := ⟨q, 1, none⟩) lq1).trans cq1; have c3k1 := (hb3.cell (p := ⟨k, 1, none⟩) lk).trans ck1) | (go_at_call 61; refine (within_any _ _ _ _).mono ?_; rintro e w4 ⟨rfl, rfl⟩; rw [hs1] at SW; rw [SW]))
                    refine bodyPost_ret (v := .tuple #[.slice none 0 0, .agg #[.int .i64 0, .int .i64 0], .int .i64 23]) (Run_results (blk_set (blk_set ((hb3.block q lq1).trans GQ1.out) 0 (.int .i64 0)) 1 (.int .i64 0)) rfl rfl rfl rfl) rfl ?_
                    exact run_bad (HBADX.out HE.out) (zbS (zbS (GB1.out.trans (hb3.mono (by have := GB1.out.size; omega))) hwq _) hwq _)
                  · have HOKA : L.askOk a s = true := by rw [HAO.out, SW, SL, hd]; simp [hl]
                    have dl : (s.l1 == 0) = false := by simpa using hl
                    subst hd
                    cases hdk : dk
                    · have HE := hide (show L.stepR each more s a = { s with ds := s.ds ++ [dv], l1 := s.l1 - 1 } by rw [HE3.out, HOKA, hdk, hs1]; rfl)
                      have HL := hide (show (s.ds ++ [dv]).length = s.ds.length + 1 by simp)
                      subst hdk
                      clear SL hl HOKA HE3 HAO HBADX
                      go_wp2_with (first | (go_at_call 32; refine (Decide_any a.said a.v a.A a.n a.c a.b _ HLEN.out ((HRD1.out.below (by (repeat' first | exact zbR _ _ | assumption | refine zbD ?_ | refine zbA ?_ ?_ _ | refine zbS ?_ ?_ _ | refine zbT ?_ (by assumption) ?_ | (simp; done) | (simp; omega) | omega))).mono (by first | (simp; done) | (simp; omega) | omega))).mono ?_; rintro e w3 ⟨rfl, hb3⟩; rw [HDE.out, HDV.out, HDK.out]; obtain ⟨hc3, hf3⟩ := bcell hb3; have q3 := hb3.size; have z3k : k < w3.heap.size := (by omega); have z3q : q < w3.heap.size := (by omega); have z3p : p < w3.heap.size := (by omega); have c3q0 : w3.cell? ⟨q, 0, none⟩ = some (.int .i64 s.l0) := (hb3.cell (p := ⟨q, 0, none⟩) lq1).trans cq0; have c3q1 : w3.cell? ⟨q, 1, none⟩ = some (.int .i64 s.l1) := (hb3.cell (p := ⟨q, 1, none⟩) lq1).trans cq1; have c3k1 := (hb3.cell (p := ⟨k, 1, none⟩) lk).trans ck1) | (go_at_call 61; refine (within_any _ _ _ _).mono ?_; rintro e w4 ⟨rfl, rfl⟩; rw [hs1] at SW; rw [SW]) | (refine wpList_app_at rfl (.tmp 86) (.tmp 88) rfl W0.heap.size _ s.ds _ rfl ((owns_below HOW.out (hb3.mono (by omega))).alloc _) (some ⟨_, 0, none⟩) 1 1 [dv] rfl rfl (rdI_one (World.alloc_heap_new _ _)) (fun e => by cases e) (by omega) (by omega) (by simp; omega) ?_; intro A2 c2 w7 hown2 hgrow; have HO2 := hide hown2; have ck71 := (hgrow.cell_far ⟨k, 1, none⟩ (by simp; omega) (by intro e; have := HOL.out k e.symm; omega)).trans ((zcP _ _ _ z3k).trans ((hb3.cell (p := ⟨k, 1, none⟩) lk).trans ck1)); have gq7 := (hgrow.block q (by simp; omega) (by intro e; have := HOL.out q e.symm; omega)).trans ((Below.heap_alloc _ _ _ z3q).trans ((hb3.block q lq1).trans GQ1.out)); have GQ7 := hide gq7; have cq70 := (blk_cell gq7 0).trans rfl; have cq71 := (blk_cell gq7 1).trans rfl; have fq70 := blk_frozen gq7 0; have fq71 := blk_frozen gq7 1; have z7 := hgrow.size; (try simp at z7); have z7k : k < w7.heap.size := (by omega); have z7q : q < w7.heap.size := (by omega); have hg7 := grown_below (B := W0.heap.size) hgrow (by simp; omega) (fun g hg => (HOL.out g hg).1); have GK7 := hide (((GK.out.trans (Keeps.of_below hb3)).alloc _).then_below hg7); clear hown2 hgrow gq7))
                      go_roundw
                      case rel => exact ⟨i + 1, by omega, by go_num, ⟨_, HNX, hide (by rw [HE.out]; exact HSB.out), HNB, by rw [HE.out]; show (s.ds ++ [dv]).length ≤ i + 1; have := HL.out; omega, ⟨A2, c2, by rw [HE.out, ← HL.out], hide (by rw [HE.out]; show World.ownsRow _ _ _ _ (.slice A2 (s.ds ++ [dv]).length c2) (s.ds ++ [dv]).length _; rw [HL.out]; exact ownsRow_setCell_below HO2.out lq _)⟩, hide (by rw [HE.out]; exact blk_set GQ7.out 1 _)⟩, GK7.out.st (fun h => h rfl)⟩
                      case measure => simp [intOf]; omega
                    · have HE := hide (show L.stepR each more s a = { s with ds := s.ds ++ [dv] } by rw [HE3.out, HOKA, hdk]; simp)
                      have HL := hide (show (s.ds ++ [dv]).length = s.ds.length + 1 by simp)
                      subst hdk
                      clear SL hl HOKA HE3 HAO HBADX
                      go_wp2_with (first | (go_at_call 32; refine (Decide_any a.said a.v a.A a.n a.c a.b _ HLEN.out ((HRD1.out.below (by (repeat' first | exact zbR _ _ | assumption | refine zbD ?_ | refine zbA ?_ ?_ _ | refine zbS ?_ ?_ _ | refine zbT ?_ (by assumption) ?_ | (simp; done) | (simp; omega) | omega))).mono (by first | (simp; done) | (simp; omega) | omega))).mono ?_; rintro e w3 ⟨rfl, hb3⟩; rw [HDE.out, HDV.out, HDK.out]; obtain ⟨hc3, hf3⟩ := bcell hb3; have q3 := hb3.size; have z3k : k < w3.heap.size := (by omega); have z3q : q < w3.heap.size := (by omega); have z3p : p < w3.heap.size := (by omega); have c3q0 : w3.cell? ⟨q, 0, none⟩ = some (.int .i64 s.l0) := (hb3.cell (p := ⟨q, 0, none⟩) lq1).trans cq0; have c3q1 : w3.cell? ⟨q, 1, none⟩ = some (.int .i64 s.l1) := (hb3.cell (p := ⟨q, 1, none⟩) lq1).trans cq1; have c3k1 := (hb3.cell (p := ⟨k, 1, none⟩) lk).trans ck1) | (go_at_call 61; refine (within_any _ _ _ _).mono ?_; rintro e w4 ⟨rfl, rfl⟩; rw [hs1] at SW; rw [SW]) | (refine wpList_app_at rfl (.tmp 86) (.tmp 88) rfl W0.heap.size _ s.ds _ rfl ((owns_below HOW.out (hb3.mono (by omega))).alloc _) (some ⟨_, 0, none⟩) 1 1 [dv] rfl rfl (rdI_one (World.alloc_heap_new _ _)) (fun e => by cases e) (by omega) (by omega) (by simp; omega) ?_; intro A2 c2 w7 hown2 hgrow; have HO2 := hide hown2; have ck71 := (hgrow.cell_far ⟨k, 1, none⟩ (by simp; omega) (by intro e; have := HOL.out k e.symm; omega)).trans ((zcP _ _ _ z3k).trans ((hb3.cell (p := ⟨k, 1, none⟩) lk).trans ck1)); have gq7 := (hgrow.block q (by simp; omega) (by intro e; have := HOL.out q e.symm; omega)).trans ((Below.heap_alloc _ _ _ z3q).trans ((hb3.block q lq1).trans GQ1.out)); have GQ7 := hide gq7; have cq70 := (blk_cell gq7 0).trans rfl; have cq71 := (blk_cell gq7 1).trans rfl; have fq70 := blk_frozen gq7 0; have fq71 := blk_frozen gq7 1; have z7 := hgrow.size; (try simp at z7); have z7k : k < w7.heap.size := (by omega); have z7q : q < w7.heap.size := (by omega); have hg7 := grown_below (B := W0.heap.size) hgrow (by simp; omega) (fun g hg => (HOL.out g hg).1); have GK7 := hide (((GK.out.trans (Keeps.of_below hb3)).alloc _).then_below hg7); clear hown2 hgrow gq7))
                      go_roundw
                      case rel => exact ⟨i + 1, by omega, by go_num, ⟨_, HNX, hide (by rw [HE.out]; exact HSB.out), HNB, by rw [HE.out]; show (s.ds ++ [dv]).length ≤ i + 1; have := HL.out; omega, ⟨A2, c2, by rw [HE.out, ← HL.out], hide (by rw [HE.out]; show World.ownsRow _ _ _ _ (.slice A2 (s.ds ++ [dv]).length c2) (s.ds ++ [dv]).length _; rw [HL.out]; exact HO2.out)⟩, hide (by rw [HE.out]; exact GQ7.out)⟩, GK7.out⟩
                      case measure => simp [intOf]; omega
                · have HE := hide (show (L.stepR each more s a).bad = true by rw [HE3.out, HAO.out, decide_eq_false hd]; rfl)
                  have dd : (de == 0) = false := by simpa using hd
                  have dd' : (de != 0) = true := by simpa using hd
                  clear SL hd
                  go_wp2_with (first | (go_at_call 32; refine (Decide_any a.said a.v a.A a.n a.c a.b _ HLEN.out ((HRD1.out.below (by (repeat' first | exact zbR _ _ | assumption | refine zbD ?_ | refine zbA ?_ ?_ _ | refine zbS ?_ ?_ _ | refine zbT ?_ (by assumption) ?_ | (simp; done) | (simp; omega) | omega))).mono (by first | (simp; done) | (simp; omega) | omega))).mono ?_; rintro e w3 ⟨rfl, hb3⟩; rw [HDE.out, HDV.out, HDK.out]; obtain ⟨hc3, hf3⟩ := bcell hb3; have q3 := hb3.size; have z3k : k < w3.heap.size := (by omega); have z3q : q < w3.heap.size := (by omega); have z3p : p < w3.heap.size := (by omega); have c3q0 : w3.cell? ⟨q, 0, none⟩ = some (.int .i64 s.l0) := (hb3.cell (p := ⟨q, 0, none⟩) lq1).trans cq0; have c3q1 : w3.cell? ⟨q, 1, none⟩ = some (.int .i64 s.l1) := (hb3.cell (p := ⟨q, 1, none⟩) lq1).trans cq1; have c3k1 := (hb3.cell (p := ⟨k, 1, none⟩) lk).trans ck1) | (go_at_call 61; refine (within_any _ _ _ _).mono ?_; rintro e w4 ⟨rfl, rfl⟩; rw [hs1] at SW; rw [SW]))
                  refine bodyPost_ret (v := .tuple #[.slice none 0 0, .agg #[.int .i64 0, .int .i64 0], .int .i64 23]) (Run_results (blk_set (blk_set ((hb3.block q lq1).trans GQ1.out) 0 (.int .i64 0)) 1 (.int .i64 0)) rfl rfl rfl rfl) rfl ?_
                  exact run_bad (HBADX.out HE.out) (zbS (zbS (GB1.out.trans (hb3.mono (by have := GB1.out.size; omega))) hwq _) hwq _)
              · have SW : L.within a.side 0 1 = false := by simp [L.within]; omega
                have s0 : (a.side == 0) = false := by simpa using hs0
                have s1 : (a.side == 1) = false := by simpa using hs1
                have s0' : (a.side != 0) = true := by simpa using hs0
                have s1' : (a.side != 1) = true := by simpa using hs1
                have HE := hide (show (L.stepR each more s a).bad = true by rw [HE3.out, HAO.out, SW]; simp)
                clear hs0 hs1
                by_cases hd : de = 0
                · subst hd
                  go_wp2_with (first | (go_at_call 32; refine (Decide_any a.said a.v a.A a.n a.c a.b _ HLEN.out ((HRD1.out.below (by (repeat' first | exact zbR _ _ | assumption | refine zbD ?_ | refine zbA ?_ ?_ _ | refine zbS ?_ ?_ _ | refine zbT ?_ (by assumption) ?_ | (simp; done) | (simp; omega) | omega))).mono (by first | (simp; done) | (simp; omega) | omega))).mono ?_; rintro e w3 ⟨rfl, hb3⟩; rw [HDE.out, HDV.out, HDK.out]; obtain ⟨hc3, hf3⟩ := bcell hb3; have q3 := hb3.size; have z3k : k < w3.heap.size := (by omega); have z3q : q < w3.heap.size := (by omega); have z3p : p < w3.heap.size := (by omega); have c3q0 : w3.cell? ⟨q, 0, none⟩ = some (.int .i64 s.l0) := (hb3.cell (p := ⟨q, 0, none⟩) lq1).trans cq0; have c3q1 : w3.cell? ⟨q, 1, none⟩ = some (.int .i64 s.l1) := (hb3.cell (p := ⟨q, 1, none⟩) lq1).trans cq1; have c3k1 := (hb3.cell (p := ⟨k, 1, none⟩) lk).trans ck1) | (go_at_call 61; refine (within_any _ _ _ _).mono ?_; rintro e w4 ⟨rfl, rfl⟩; rw [SW]))
                  refine bodyPost_ret (v := .tuple #[.slice none 0 0, .agg #[.int .i64 0, .int .i64 0], .int .i64 23]) (Run_results (blk_set (blk_set ((hb3.block q lq1).trans GQ1.out) 0 (.int .i64 0)) 1 (.int .i64 0)) rfl rfl rfl rfl) rfl ?_
                  exact run_bad (HBADX.out HE.out) (zbS (zbS (GB1.out.trans (hb3.mono (by have := GB1.out.size; omega))) hwq _) hwq _)
                · have dd : (de == 0) = false := by simpa using hd
                  have dd' : (de != 0) = true := by simpa using hd
                  clear hd
                  go_wp2_with (first | (go_at_call 32; refine (Decide_any a.said a.v a.A a.n a.c a.b _ HLEN.out ((HRD1.out.below (by (repeat' first | exact zbR _ _ | assumption | refine zbD ?_ | refine zbA ?_ ?_ _ | refine zbS ?_ ?_ _ | refine zbT ?_ (by assumption) ?_ | (simp; done) | (simp; omega) | omega))).mono (by first | (simp; done) | (simp; omega) | omega))).mono ?_; rintro e w3 ⟨rfl, hb3⟩; rw [HDE.out, HDV.out, HDK.out]; obtain ⟨hc3, hf3⟩ := bcell hb3; have q3 := hb3.size; have z3k : k < w3.heap.size := (by omega); have z3q : q < w3.heap.size := (by omega); have z3p : p < w3.heap.size := (by omega); have c3q0 : w3.cell? ⟨q, 0, none⟩ = some (.int .i64 s.l0) := (hb3.cell (p := ⟨q, 0, none⟩) lq1).trans cq0; have c3q1 : w3.cell? ⟨q, 1, none⟩ = some (.int .i64 s.l1) := (hb3.cell (p := ⟨q, 1, none⟩) lq1).trans cq1; have c3k1 := (hb3.cell (p := ⟨k, 1, none⟩) lk).trans ck1) | (go_at_call 61; refine (within_any _ _ _ _).mono ?_; rintro e w4 ⟨rfl, rfl⟩; rw [SW]))
                  refine bodyPost_ret (v := .tuple #[.slice none 0 0, .agg #[.int .i64 0, .int .i64 0], .int .i64 23]) (Run_results (blk_set (blk_set ((hb3.block q lq1).trans GQ1.out) 0 (.int .i64 0)) 1 (.int .i64 0)) rfl rfl rfl rfl) rfl ?_
                  exact run_bad (HBADX.out HE.out) (zbS (zbS (GB1.out.trans (hb3.mono (by have := GB1.out.size; omega))) hwq _) hwq _)
          · have d1 : (a.kind == 1) = false := by simpa using hk1
            have d2 : (a.kind == 2) = false := by simpa using hk2
            have d3 : (a.kind == 3) = false := by simpa using hk3
            have HE := hide (show (L.stepR each more s a).bad = true by unfold L.stepR; rw [if_neg hk1, if_neg hk2, if_neg hk3])
            clear hk1 hk2 hk3
            go_wp2_with fail
            refine bodyPost_ret (v := .tuple #[.slice none 0 0, .agg #[.int .i64 0, .int .i64 0], .int .i64 23]) (Run_results (blk_set (blk_set GQ1.out 0 (.int .i64 0)) 1 (.int .i64 0)) rfl rfl rfl rfl) rfl ?_
            exact run_bad (HBADX.out HE.out) (zbS (zbS GB1.out hwq _) hwq _)
    · have hin : i = n := by omega
      subst hin
      have HALL := hide (show L.runR each more l = s by unfold L.runR; rw [← HS.out, List.take_of_length_le (by have := HN.out; omega)])
      have HGOOD := hide (show L.runBad each more l = false by unfold L.runBad; rw [HRO.out, HALL.out, HSB.out]; rfl)
      have hq2 := HQ.out
      have cq0 := (blk_cell hq2 0).trans rfl; have cq1 := (blk_cell hq2 1).trans rfl
      have fq0 := blk_frozen hq2 0; have fq1 := blk_frozen hq2 1
      have hS : (fun w' => q < w'.heap.size ∧ w'.frozen? ⟨q, 0, none⟩ = false ∧ w'.frozen? ⟨q, 1, none⟩ = false ∧ w'.cell? ⟨q, 0, none⟩ = some (.int .i64 s.l0) ∧ w'.cell? ⟨q, 1, none⟩ = some (.int .i64 s.l1)) wr := ⟨lqr, fq0, fq1, cq0, cq1⟩
      clear hq2
      go_upto_region 20 with fail
      (try dsimp only at hS)
      refine wp_region_held_drew (S := (fun w' => q < w'.heap.size ∧ w'.frozen? ⟨q, 0, none⟩ = false ∧ w'.frozen? ⟨q, 1, none⟩ = false ∧ w'.cell? ⟨q, 0, none⟩ = some (.int .i64 s.l0) ∧ w'.cell? ⟨q, 1, none⟩ = some (.int .i64 s.l1))) (by kernel_rfl) ?_ (fun hHeld0 => ?_)
      · (try dsimp only); (first | (go_keep; done) | (go_split_ands; (repeat' apply And.intro) <;> first | (go_keep; done) | (simp [*, zcA, zcP, zfA, zfP]; done) | (simp [zcA, zcP] <;> rfl) | (simp [*, zsS, zsO, zsA]; done) | ((first | refine (hc _ _ ?_).trans ?_ | refine (hf _ _ ?_).trans ?_) <;> first | assumption | (simp; done) | (simp; omega) | omega | (go_keep; done) | (simp [*, zcA, zcP, zfA, zfP]; done) | (simp [zcA, zcP]; rfl)) | (repeat' first | exact zbR _ _ | assumption | refine zbD ?_ | refine zbA ?_ ?_ _ | refine zbS ?_ ?_ _ | refine zbT ?_ (by assumption) ?_ | (simp; done) | (simp; omega) | omega)))
      refine tL (v := ?_) 0 rfl (by kernel_rfl) (fun _ _ _ h => h) (Or.inl ⟨by rfl, ?_⟩) (by assumption) ?_; rotate_left
      · (intro w hSw; (try dsimp only at hSw); go_simp; try with_reducible rfl)
      try simp only [Act.put, zl, z0, z1]
      refine tL (v := ?_) 1 rfl (by kernel_rfl) (fun _ _ _ h => h) (Or.inl ⟨by rfl, ?_⟩) (by assumption) ?_; rotate_left
      · (intro w hSw; (try dsimp only at hSw); go_simp; try with_reducible rfl)
      try simp only [Act.put, zl, z0, z1]
      refine tL (v := ?_) 2 rfl (by kernel_rfl) (fun _ _ _ h => h) (Or.inl ⟨by rfl, ?_⟩) (by assumption) ?_; rotate_left
      · (intro w hSw; (try dsimp only at hSw); go_simp; try with_reducible rfl)
      try simp only [Act.put, zl, z0, z1]
      refine wpAnyH_ready (rs := [3]) (by kernel_rfl) (by simp) ?_
      refine consL 3 rfl (fun K hK => ?_) AllReadyH.nil
      go_simp
      refine hK.out _ _ ?_ (fun hHeld1 => ?_)
      · (try dsimp only); (first | (go_keep; done) | (go_split_ands; (repeat' apply And.intro) <;> first | (go_keep; done) | (simp [*, zcA, zcP, zfA, zfP]; done) | (simp [zcA, zcP] <;> rfl) | (simp [*, zsS, zsO, zsA]; done) | ((first | refine (hc _ _ ?_).trans ?_ | refine (hf _ _ ?_).trans ?_) <;> first | assumption | (simp; done) | (simp; omega) | omega | (go_keep; done) | (simp [*, zcA, zcP, zfA, zfP]; done) | (simp [zcA, zcP]; rfl)) | (repeat' first | exact zbR _ _ | assumption | refine zbD ?_ | refine zbA ?_ ?_ _ | refine zbS ?_ ?_ _ | refine zbT ?_ (by assumption) ?_ | (simp; done) | (simp; omega) | omega)))
      clear hK K hHeld0
      try simp only [Act.put, zl, z0, z1]
      refine tL (v := ?_) 4 rfl (by kernel_rfl) (fun _ _ _ h => h) (Or.inl ⟨by rfl, ?_⟩) (by assumption) ?_; rotate_left
      · (intro w hSw; (try dsimp only at hSw); go_simp; try with_reducible rfl)
      try simp only [Act.put, zl, z0, z1]
      refine wpAnyH_done (by kernel_rfl) ?_ _
      go_wp2_with fail
      refine bodyPost_ret (v := .tuple #[.slice sv s.ds.length c', .agg #[.int .i64 s.l0, .int .i64 s.l1], .int .i64 0]) (Run_results (blk_set (blk_set (drew_blk HQ.out) 0 _) 1 _) rfl rfl rfl rfl) rfl ?_
      exact run_good HGOOD.out HALL.out (owns_mono (ownsRow_setCell_below (ownsRow_setCell_below (by exact hown.out) lq _) lq _) (by omega)) (zbS (zbS GBr.out.drew hwq _) hwq _)

theorem Run_any (each more : Int) (l : List L.Ap) (A : Option Addr) (n c : Nat) (w : World) (hn : l.length = n) (hr : RdA w w.heap.size A l) :
    Calls Try.prog 33 #[.agg #[.int .i64 each, .int .i64 more], .slice A n c] w fun e w' => RunPost each more l w e w' := by
  cases X1 : L.within each 0 9
  · exact Run_rule1 each more l A n c w hn hr X1
  · cases X2 : L.within more 0 9
    · exact Run_rule2 each more l A n c w hn hr X1 X2
    · rcases Nat.lt_or_ge 30 n with X3 | X3
      · exact Run_rule3 each more l A n c w hn hr X1 X2 X3
      · exact Run_yes each more l A n c w hn hr X1 X2 X3

end Go.Proofs.Ytgnobonhohfofaa

namespace Go.Proofs.Ytgnobonhohfofaa
open Go.RowKit
attribute [local go_sem ↓] Go.wp_at_zero Go.wp_at_succ


set_option maxRecDepth 100000 in
set_option maxHeartbeats 3200000 in
theorem refCall_any (v : L.Vw) (A : Option Addr) (n c : Nat) (b : L.Bx) (w : World) (hn : v.ss.length = n) (hr : RdS w w.heap.size A v.ss) :
    Calls Try.prog 41 #[.agg #[.int .i64 v.size, .slice A n c, .int .i64 v.wrong, .int .i64 v.hxl, .int .i64 v.hxh, .int .i64 v.hyl, .int .i64 v.hyh], .agg #[.int .i64 b.l, .int .i64 b.r, .int .i64 b.b, .int .i64 b.t]] w fun e w' => e = .returned (.tuple #[.int .i64 (L.callV v b), .int .i64 (L.callE v b)]) ∧ Below w.heap.size w w' := by
  have HN := hide hn
  have HR := hide hr
  clear hn hr
  rcases L.checkBE_cases v b with h | h | h
  · obtain ⟨hv, hb⟩ := L.checkBE_ok h
    have HV := hide hv
    have HB := hide hb
    have H := hide h
    clear hv hb h
    have E1 := hide (show L.callV v b = L.callOf v b 0 by unfold L.callV; rw [if_pos H.out])
    by_cases h0 : L.callOf v b 0 = 0
    · have E2 := hide (show L.callE v b = 3 by unfold L.callE; rw [if_pos H.out, if_pos h0])
      have H0 := hide h0
      clear h0
      go_enter Try.func41, Try.ntmps41
      go_wp2_with (first | (go_at_call 66; refine (checkBox_any v A n c b _ HN.out ((HR.out.below (by (repeat' first | exact zbR _ _ | assumption | refine zbD ?_ | refine zbA ?_ ?_ _ | refine zbS ?_ ?_ _ | refine zbT ?_ (by assumption) ?_ | (simp; done) | (simp; omega) | omega))).mono (by first | (simp; done) | (simp; omega) | omega))).mono ?_; rintro e w2 ⟨rfl, hb2⟩; rw [H.out]; obtain ⟨hc2, hf2⟩ := bcell hb2; have q2 := hb2.size; (try simp only [World.size_alloc] at q2); have z2_0 : w.heap.size < w2.heap.size := (by omega); have z2_1 : w.heap.size + 1 < w2.heap.size := (by omega)) | (go_at_call 67; refine (refcall_any v A n c b _ HV.out.w HB.out HN.out ((HR.out.below (by (repeat' first | exact zbR _ _ | assumption | refine zbD ?_ | refine zbA ?_ ?_ _ | refine zbS ?_ ?_ _ | refine zbT ?_ (by assumption) ?_ | (simp; done) | (simp; omega) | omega))).mono (by first | (simp; done) | (simp; omega) | omega))).mono ?_; rintro e w3 ⟨rfl, hb3⟩; rw [H0.out]))
      go_ret2
      exact ⟨by rw [E1.out, E2.out, H0.out]; rfl, by (repeat' first | exact zbR _ _ | assumption | refine zbD ?_ | refine zbA ?_ ?_ _ | refine zbS ?_ ?_ _ | refine zbT ?_ (by assumption) ?_ | (simp; done) | (simp; omega) | omega)⟩
    · have E2 := hide (show L.callE v b = 0 by unfold L.callE; rw [if_pos H.out, if_neg h0])
      have d0 : (L.callOf v b 0 == 0) = false := by simpa using h0
      clear h0
      go_enter Try.func41, Try.ntmps41
      go_wp2_with (first | (go_at_call 66; refine (checkBox_any v A n c b _ HN.out ((HR.out.below (by (repeat' first | exact zbR _ _ | assumption | refine zbD ?_ | refine zbA ?_ ?_ _ | refine zbS ?_ ?_ _ | refine zbT ?_ (by assumption) ?_ | (simp; done) | (simp; omega) | omega))).mono (by first | (simp; done) | (simp; omega) | omega))).mono ?_; rintro e w2 ⟨rfl, hb2⟩; rw [H.out]; obtain ⟨hc2, hf2⟩ := bcell hb2; have q2 := hb2.size; (try simp only [World.size_alloc] at q2); have z2_0 : w.heap.size < w2.heap.size := (by omega); have z2_1 : w.heap.size + 1 < w2.heap.size := (by omega)) | (go_at_call 67; refine (refcall_any v A n c b _ HV.out.w HB.out HN.out ((HR.out.below (by (repeat' first | exact zbR _ _ | assumption | refine zbD ?_ | refine zbA ?_ ?_ _ | refine zbS ?_ ?_ _ | refine zbT ?_ (by assumption) ?_ | (simp; done) | (simp; omega) | omega))).mono (by first | (simp; done) | (simp; omega) | omega))).mono ?_; rintro e w3 ⟨rfl, hb3⟩))
      go_ret2
      exact ⟨by rw [E1.out, E2.out]; rfl, by (repeat' first | exact zbR _ _ | assumption | refine zbD ?_ | refine zbA ?_ ?_ _ | refine zbS ?_ ?_ _ | refine zbT ?_ (by assumption) ?_ | (simp; done) | (simp; omega) | omega)⟩
  all_goals
    have E1 := hide (show L.callV v b = 0 by unfold L.callV; rw [if_neg (by omega)])
    have E2 := hide (show L.callE v b = L.checkBE v b by unfold L.callE; rw [if_neg (by omega)])
    have H := hide h
    clear h
    go_enter Try.func41, Try.ntmps41
    go_wp2_with (first | (go_at_call 66; refine (checkBox_any v A n c b _ HN.out ((HR.out.below (by (repeat' first | exact zbR _ _ | assumption | refine zbD ?_ | refine zbA ?_ ?_ _ | refine zbS ?_ ?_ _ | refine zbT ?_ (by assumption) ?_ | (simp; done) | (simp; omega) | omega))).mono (by first | (simp; done) | (simp; omega) | omega))).mono ?_; rintro e w2 ⟨rfl, hb2⟩; rw [H.out]; obtain ⟨hc2, hf2⟩ := bcell hb2; have q2 := hb2.size; (try simp only [World.size_alloc] at q2); have z2_0 : w.heap.size < w2.heap.size := (by omega); have z2_1 : w.heap.size + 1 < w2.heap.size := (by omega)))
    go_ret2
    exact ⟨by rw [E1.out, E2.out, H.out]; rfl, by (repeat' first | exact zbR _ _ | assumption | refine zbD ?_ | refine zbA ?_ ?_ _ | refine zbS ?_ ?_ _ | refine zbT ?_ (by assumption) ?_ | (simp; done) | (simp; omega) | omega)⟩

theorem L.not_sure {c : Int} (h : L.sure c = false) : (c == 1) = false ∧ (c == 2) = false := by
  unfold L.sure at h
  simpa using h
theorem L.is_sure {c : Int} (h : L.sure c = true) : c = 1 ∨ c = 2 := by
  unfold L.sure at h
  simpa using h

set_option maxRecDepth 100000 in
set_option maxHeartbeats 3200000 in
theorem refDecide_any (said : Int) (v : L.Vw) (A : Option Addr) (n c : Nat) (b : L.Bx) (w : World) (hn : v.ss.length = n) (hr : RdS w w.heap.size A v.ss) :
    Calls Try.prog 43 #[.int .i64 said, .agg #[.int .i64 v.size, .slice A n c, .int .i64 v.wrong, .int .i64 v.hxl, .int .i64 v.hxh, .int .i64 v.hyl, .int .i64 v.hyh], .agg #[.int .i64 b.l, .int .i64 b.r, .int .i64 b.b, .int .i64 b.t]] w fun e w' => e = .returned (.tuple #[.int .i64 (L.decV said v b), .bool (L.decK said v b), .int .i64 (L.decE said v b)]) ∧ Below w.heap.size w w' := by
  have HN := hide hn
  have HR := hide hr
  clear hn hr
  rcases L.checkBE_cases v b with h | h | h
  · obtain ⟨hv, hb⟩ := L.checkBE_ok h
    have HV := hide hv
    have HB := hide hb
    have H := hide h
    clear hv hb h
    cases hs : L.sure said
    · have E1 := hide (show L.decV said v b = 0 by unfold L.decV; rw [if_pos H.out, hs]; rfl)
      have E2 := hide (show L.decK said v b = false by unfold L.decK; rw [if_pos H.out, hs]; rfl)
      have E3 := hide (show L.decE said v b = 22 by unfold L.decE; rw [if_pos H.out, hs]; rfl)
      obtain ⟨d1, d2⟩ := L.not_sure hs
      have d3 : (said != 1) = true := by simp only [bne, d1]; rfl
      have d4 : (said != 2) = true := by simp only [bne, d2]; rfl
      clear hs
      go_enter Try.func43, Try.ntmps43
      go_wp2_with (first | (go_at_call 66; refine (checkBox_any v A n c b _ HN.out ((HR.out.below (by (repeat' first | exact zbR _ _ | assumption | refine zbD ?_ | refine zbA ?_ ?_ _ | refine zbS ?_ ?_ _ | refine zbT ?_ (by assumption) ?_ | (simp; done) | (simp; omega) | omega))).mono (by first | (simp; done) | (simp; omega) | omega))).mono ?_; rintro e w2 ⟨rfl, hb2⟩; rw [H.out]; obtain ⟨hc2, hf2⟩ := bcell hb2; have q2 := hb2.size; (try simp only [World.size_alloc] at q2); have z2_0 : w.heap.size < w2.heap.size := (by omega); have z2_1 : w.heap.size + 1 < w2.heap.size := (by omega)))
      go_ret3
      exact ⟨by rw [E1.out, E2.out, E3.out]; rfl, by (repeat' first | exact zbR _ _ | assumption | refine zbD ?_ | refine zbA ?_ ?_ _ | refine zbS ?_ ?_ _ | refine zbT ?_ (by assumption) ?_ | (simp; done) | (simp; omega) | omega)⟩
    · have hs' := L.is_sure hs
      obtain ⟨cv, hcv⟩ : ∃ cv, L.callOf v b 0 = cv := ⟨_, rfl⟩
      have HCV := hide hcv
      have hr1 := L.callOf_rng v b 0
      cases hs2 : L.sure (L.callOf v b 0)
      · have E1 := hide (show L.decV said v b = said by unfold L.decV; rw [if_pos H.out, hs, hs2]; rfl)
        have E2 := hide (show L.decK said v b = true by unfold L.decK; rw [if_pos H.out, hs, hs2]; rfl)
        have E3 := hide (show L.decE said v b = 0 by unfold L.decE; rw [if_pos H.out, hs]; rfl)
        rw [hcv] at hs2
        obtain ⟨d1, d2⟩ := L.not_sure hs2
        clear hs hs2 hcv hr1
        rcases hs' with rfl | rfl
        all_goals
          go_enter Try.func43, Try.ntmps43
          go_wp2_with (first | (go_at_call 66; refine (checkBox_any v A n c b _ HN.out ((HR.out.below (by (repeat' first | exact zbR _ _ | assumption | refine zbD ?_ | refine zbA ?_ ?_ _ | refine zbS ?_ ?_ _ | refine zbT ?_ (by assumption) ?_ | (simp; done) | (simp; omega) | omega))).mono (by first | (simp; done) | (simp; omega) | omega))).mono ?_; rintro e w2 ⟨rfl, hb2⟩; rw [H.out]; obtain ⟨hc2, hf2⟩ := bcell hb2; have q2 := hb2.size; (try simp only [World.size_alloc] at q2); have z2_0 : w.heap.size < w2.heap.size := (by omega); have z2_1 : w.heap.size + 1 < w2.heap.size := (by omega)) | (go_at_call 67; refine (refcall_any v A n c b _ HV.out.w HB.out HN.out ((HR.out.below (by (repeat' first | exact zbR _ _ | assumption | refine zbD ?_ | refine zbA ?_ ?_ _ | refine zbS ?_ ?_ _ | refine zbT ?_ (by assumption) ?_ | (simp; done) | (simp; omega) | omega))).mono (by first | (simp; done) | (simp; omega) | omega))).mono ?_; rintro e w3 ⟨rfl, hb3⟩; rw [HCV.out]))
          go_ret3
          exact ⟨by rw [E1.out, E2.out, E3.out]; rfl, by (repeat' first | exact zbR _ _ | assumption | refine zbD ?_ | refine zbA ?_ ?_ _ | refine zbS ?_ ?_ _ | refine zbT ?_ (by assumption) ?_ | (simp; done) | (simp; omega) | omega)⟩
      · have E1 := hide (show L.decV said v b = cv by unfold L.decV; rw [if_pos H.out, hs, hs2, hcv]; rfl)
        have E2 := hide (show L.decK said v b = (cv != said) by unfold L.decK; rw [if_pos H.out, hs, hs2, hcv]; rfl)
        have E3 := hide (show L.decE said v b = 0 by unfold L.decE; rw [if_pos H.out, hs]; rfl)
        rw [hcv] at hs2
        have hs2' := L.is_sure hs2
        clear hs hs2 hcv hr1
        rcases hs' with rfl | rfl <;> rcases hs2' with rfl | rfl
        all_goals
          go_enter Try.func43, Try.ntmps43
          go_wp2_with (first | (go_at_call 66; refine (checkBox_any v A n c b _ HN.out ((HR.out.below (by (repeat' first | exact zbR _ _ | assumption | refine zbD ?_ | refine zbA ?_ ?_ _ | refine zbS ?_ ?_ _ | refine zbT ?_ (by assumption) ?_ | (simp; done) | (simp; omega) | omega))).mono (by first | (simp; done) | (simp; omega) | omega))).mono ?_; rintro e w2 ⟨rfl, hb2⟩; rw [H.out]; obtain ⟨hc2, hf2⟩ := bcell hb2; have q2 := hb2.size; (try simp only [World.size_alloc] at q2); have z2_0 : w.heap.size < w2.heap.size := (by omega); have z2_1 : w.heap.size + 1 < w2.heap.size := (by omega)) | (go_at_call 67; refine (refcall_any v A n c b _ HV.out.w HB.out HN.out ((HR.out.below (by (repeat' first | exact zbR _ _ | assumption | refine zbD ?_ | refine zbA ?_ ?_ _ | refine zbS ?_ ?_ _ | refine zbT ?_ (by assumption) ?_ | (simp; done) | (simp; omega) | omega))).mono (by first | (simp; done) | (simp; omega) | omega))).mono ?_; rintro e w3 ⟨rfl, hb3⟩; rw [HCV.out]))
          go_ret3
          exact ⟨by rw [E1.out, E2.out, E3.out]; rfl, by (repeat' first | exact zbR _ _ | assumption | refine zbD ?_ | refine zbA ?_ ?_ _ | refine zbS ?_ ?_ _ | refine zbT ?_ (by assumption) ?_ | (simp; done) | (simp; omega) | omega)⟩
  all_goals
    have E1 := hide (show L.decV said v b = 0 by unfold L.decV; rw [if_neg (by omega)])
    have E2 := hide (show L.decK said v b = false by unfold L.decK; rw [if_neg (by omega)])
    have E3 := hide (show L.decE said v b = L.checkBE v b by unfold L.decE; rw [if_neg (by omega)])
    have H := hide h
    clear h
    go_enter Try.func43, Try.ntmps43
    go_wp2_with (first | (go_at_call 66; refine (checkBox_any v A n c b _ HN.out ((HR.out.below (by (repeat' first | exact zbR _ _ | assumption | refine zbD ?_ | refine zbA ?_ ?_ _ | refine zbS ?_ ?_ _ | refine zbT ?_ (by assumption) ?_ | (simp; done) | (simp; omega) | omega))).mono (by first | (simp; done) | (simp; omega) | omega))).mono ?_; rintro e w2 ⟨rfl, hb2⟩; rw [H.out]; obtain ⟨hc2, hf2⟩ := bcell hb2; have q2 := hb2.size; (try simp only [World.size_alloc] at q2); have z2_0 : w.heap.size < w2.heap.size := (by omega); have z2_1 : w.heap.size + 1 < w2.heap.size := (by omega)))
    go_ret3
    exact ⟨by rw [E1.out, E2.out, E3.out, H.out]; rfl, by (repeat' first | exact zbR _ _ | assumption | refine zbD ?_ | refine zbA ?_ ?_ _ | refine zbS ?_ ?_ _ | refine zbT ?_ (by assumption) ?_ | (simp; done) | (simp; omega) | omega)⟩

theorem L.find_call (v : L.Vw) (b : L.Bx) : ((L.findC v b 0 1).isSome = (L.callOf v b 0 == 1 || L.callOf v b 0 == 3)) ∧ ((L.findC v b 0 2).isSome = (L.callOf v b 0 == 2 || L.callOf v b 0 == 3)) := by
  unfold L.callOf
  cases h1 : (L.findC v b 0 1).isSome <;> cases h2 : (L.findC v b 0 2).isSome <;> simp

set_option maxRecDepth 100000 in
set_option maxHeartbeats 3200000 in
theorem refCheckShow_any (v : L.Vw) (A : Option Addr) (n c : Nat) (b : L.Bx) (call : Int) (w : World) (hn : v.ss.length = n) (hr : RdS w w.heap.size A v.ss) :
    Calls Try.prog 44 #[.agg #[.int .i64 v.size, .slice A n c, .int .i64 v.wrong, .int .i64 v.hxl, .int .i64 v.hxh, .int .i64 v.hyl, .int .i64 v.hyh], .agg #[.int .i64 b.l, .int .i64 b.r, .int .i64 b.b, .int .i64 b.t], .int .i64 call] w fun e w' => e = .returned (.int .i64 (L.showE v b call)) ∧ Below w.heap.size w w' := by
  have HN := hide hn
  have HR := hide hr
  clear hn hr
  rcases L.checkBE_cases v b with h | h | h
  · obtain ⟨hv, hb⟩ := L.checkBE_ok h
    have HV := hide hv
    have HB := hide hb
    have H := hide h
    clear hv hb h
    cases hs : L.sure call
    · have E1 := hide (show L.showE v b call = 22 by unfold L.showE; rw [if_pos H.out, hs]; rfl)
      obtain ⟨d1, d2⟩ := L.not_sure hs
      have d3 : (call != 1) = true := by simp only [bne, d1]; rfl
      have d4 : (call != 2) = true := by simp only [bne, d2]; rfl
      clear hs
      go_enter Try.func44, Try.ntmps44
      go_wp2_with (first | (go_at_call 66; refine (checkBox_any v A n c b _ HN.out ((HR.out.below (by (repeat' first | exact zbR _ _ | assumption | refine zbD ?_ | refine zbA ?_ ?_ _ | refine zbS ?_ ?_ _ | refine zbT ?_ (by assumption) ?_ | (simp; done) | (simp; omega) | omega))).mono (by first | (simp; done) | (simp; omega) | omega))).mono ?_; rintro e w2 ⟨rfl, hb2⟩; rw [H.out]; obtain ⟨hc2, hf2⟩ := bcell hb2; have q2 := hb2.size; (try simp only [World.size_alloc] at q2); have z2_0 : w.heap.size < w2.heap.size := (by omega); have z2_1 : w.heap.size + 1 < w2.heap.size := (by omega)))
      go_ret
      exact ⟨by rw [E1.out]; rfl, by (repeat' first | exact zbR _ _ | assumption | refine zbD ?_ | refine zbA ?_ ?_ _ | refine zbS ?_ ?_ _ | refine zbT ?_ (by assumption) ?_ | (simp; done) | (simp; omega) | omega)⟩
    · have hs' := L.is_sure hs
      have hr1 := L.callOf_rng v b 0
      have hf := L.find_call v b
      have E1 := show L.showE v b call = if (L.findC v b 0 call).isSome then 0 else 3 by unfold L.showE; rw [if_pos H.out, hs]; rfl
      obtain ⟨cv, hcv⟩ : ∃ cv, L.callOf v b 0 = cv := ⟨_, rfl⟩
      have HCV := hide hcv
      rw [hcv] at hr1 hf
      clear hs hcv
      have hcv4 : cv = 0 ∨ cv = 1 ∨ cv = 2 ∨ cv = 3 := by omega
      rcases hs' with rfl | rfl
      · rw [hf.1] at E1
        clear hf hr1
        rcases hcv4 with rfl | rfl | rfl | rfl
        all_goals
          have EE := hide E1
          clear E1
          go_enter Try.func44, Try.ntmps44
          go_wp2_with (first | (go_at_call 66; refine (checkBox_any v A n c b _ HN.out ((HR.out.below (by (repeat' first | exact zbR _ _ | assumption | refine zbD ?_ | refine zbA ?_ ?_ _ | refine zbS ?_ ?_ _ | refine zbT ?_ (by assumption) ?_ | (simp; done) | (simp; omega) | omega))).mono (by first | (simp; done) | (simp; omega) | omega))).mono ?_; rintro e w2 ⟨rfl, hb2⟩; rw [H.out]; obtain ⟨hc2, hf2⟩ := bcell hb2; have q2 := hb2.size; (try simp only [World.size_alloc] at q2); have z2_0 : w.heap.size < w2.heap.size := (by omega); have z2_1 : w.heap.size + 1 < w2.heap.size := (by omega)) | (go_at_call 67; refine (refcall_any v A n c b _ HV.out.w HB.out HN.out ((HR.out.below (by (repeat' first | exact zbR _ _ | assumption | refine zbD ?_ | refine zbA ?_ ?_ _ | refine zbS ?_ ?_ _ | refine zbT ?_ (by assumption) ?_ | (simp; done) | (simp; omega) | omega))).mono (by first | (simp; done) | (simp; omega) | omega))).mono ?_; rintro e w3 ⟨rfl, hb3⟩; rw [HCV.out]))
          go_ret
          exact ⟨by rw [EE.out]; rfl, by (repeat' first | exact zbR _ _ | assumption | refine zbD ?_ | refine zbA ?_ ?_ _ | refine zbS ?_ ?_ _ | refine zbT ?_ (by assumption) ?_ | (simp; done) | (simp; omega) | omega)⟩
      · rw [hf.2] at E1
        clear hf hr1
        rcases hcv4 with rfl | rfl | rfl | rfl
        all_goals
          have EE := hide E1
          clear E1
          go_enter Try.func44, Try.ntmps44
          go_wp2_with (first | (go_at_call 66; refine (checkBox_any v A n c b _ HN.out ((HR.out.below (by (repeat' first | exact zbR _ _ | assumption | refine zbD ?_ | refine zbA ?_ ?_ _ | refine zbS ?_ ?_ _ | refine zbT ?_ (by assumption) ?_ | (simp; done) | (simp; omega) | omega))).mono (by first | (simp; done) | (simp; omega) | omega))).mono ?_; rintro e w2 ⟨rfl, hb2⟩; rw [H.out]; obtain ⟨hc2, hf2⟩ := bcell hb2; have q2 := hb2.size; (try simp only [World.size_alloc] at q2); have z2_0 : w.heap.size < w2.heap.size := (by omega); have z2_1 : w.heap.size + 1 < w2.heap.size := (by omega)) | (go_at_call 67; refine (refcall_any v A n c b _ HV.out.w HB.out HN.out ((HR.out.below (by (repeat' first | exact zbR _ _ | assumption | refine zbD ?_ | refine zbA ?_ ?_ _ | refine zbS ?_ ?_ _ | refine zbT ?_ (by assumption) ?_ | (simp; done) | (simp; omega) | omega))).mono (by first | (simp; done) | (simp; omega) | omega))).mono ?_; rintro e w3 ⟨rfl, hb3⟩; rw [HCV.out]))
          go_ret
          exact ⟨by rw [EE.out]; rfl, by (repeat' first | exact zbR _ _ | assumption | refine zbD ?_ | refine zbA ?_ ?_ _ | refine zbS ?_ ?_ _ | refine zbT ?_ (by assumption) ?_ | (simp; done) | (simp; omega) | omega)⟩
  all_goals
    have E1 := hide (show L.showE v b call = L.checkBE v b by unfold L.showE; rw [if_neg (by omega)])
    have H := hide h
    clear h
    go_enter Try.func44, Try.ntmps44
    go_wp2_with (first | (go_at_call 66; refine (checkBox_any v A n c b _ HN.out ((HR.out.below (by (repeat' first | exact zbR _ _ | assumption | refine zbD ?_ | refine zbA ?_ ?_ _ | refine zbS ?_ ?_ _ | refine zbT ?_ (by assumption) ?_ | (simp; done) | (simp; omega) | omega))).mono (by first | (simp; done) | (simp; omega) | omega))).mono ?_; rintro e w2 ⟨rfl, hb2⟩; rw [H.out]; obtain ⟨hc2, hf2⟩ := bcell hb2; have q2 := hb2.size; (try simp only [World.size_alloc] at q2); have z2_0 : w.heap.size < w2.heap.size := (by omega); have z2_1 : w.heap.size + 1 < w2.heap.size := (by omega)))
    go_ret
    exact ⟨by rw [E1.out, H.out]; rfl, by (repeat' first | exact zbR _ _ | assumption | refine zbD ?_ | refine zbA ?_ ?_ _ | refine zbS ?_ ?_ _ | refine zbT ?_ (by assumption) ?_ | (simp; done) | (simp; omega) | omega)⟩

end Go.Proofs.Ytgnobonhohfofaa

namespace Go.Proofs.Ytgnobonhohfofaa
open Go.RowKit
attribute [local go_sem ↓] Go.wp_at_zero Go.wp_at_succ

theorem refRun_results {Z : World} {g : Nat} {a b e : Int} {sv : Option Addr} {n c : Nat} {cs tmps : Array Value} (h : Z.heap[g]? = some (.cells cs 64 (0, 0)))
    (e3 : cs = #[.int .i64 a, .int .i64 b]) (t4 : tmps[4]? = some (.slice sv n c)) (t5 : tmps[5]? = some (.pointer (some ⟨g, 0, none⟩))) (t6 : tmps[6]? = some (.int .i64 e)) :
    (results Try.f45 tmps).run Try.prog Z = .ok (.tuple #[.slice sv n c, .agg #[.int .i64 a, .int .i64 b], .int .i64 e]) Z := by
  subst e3
  have k1 : Z.cell? ⟨g, 0, none⟩ = some (.int .i64 a) := blk_cell h 0
  have k2 : Z.cell? ⟨g, 1, none⟩ = some (.int .i64 b) := blk_cell h 1
  simp [results, Try.results45, go_sem, t4, t5, t6, k1, k2]

set_option maxRecDepth 100000 in
set_option maxHeartbeats 6400000 in
theorem refRun_rule1 (each more : Int) (l : List L.Ap) (A : Option Addr) (n c : Nat) (w : World) (hn : l.length = n) (hr : RdA w w.heap.size A l) (X1 : L.within each 0 9 = false) :
    Calls Try.prog 45 #[.agg #[.int .i64 each, .int .i64 more], .slice A n c] w fun e w' => RunPost each more l w e w' := by
  have HN := hide hn
  have HR := hide hr
  have HBAD := hide (show L.runBad each more l = true by unfold L.runBad L.ruleOk; rw [X1]; rfl)
  clear hn hr
  go_enter Try.func45, Try.ntmps45
  go_upto_region 1 with fail
  obtain ⟨W0, hW0⟩ : ∃ W0, (w.alloc (.cells #[.int .i64 each, .int .i64 more] 62)).alloc (.cells #[.int .i64 0, .int .i64 0] 64) = W0 := ⟨_, rfl⟩
  have gp : W0.heap[w.heap.size]? = some (.cells #[.int .i64 each, .int .i64 more] 62 (0, 0)) := by
    rw [← hW0]; exact (Below.heap_alloc _ _ _ (by first | (simp; done) | (simp; omega) | omega)).trans (World.alloc_heap_new _ _)
  have gq : W0.heap[w.heap.size + 1]? = some (.cells #[.int .i64 0, .int .i64 0] 64 (0, 0)) := by
    rw [← hW0]; exact (congrArg _ (by simp)).trans (World.alloc_heap_new _ _)
  have gs : W0.heap.size = w.heap.size + 1 + 1 := by rw [← hW0]; simp
  have gB : Below w.heap.size w W0 := by rw [← hW0]; (repeat' first | exact zbR _ _ | assumption | refine zbD ?_ | refine zbA ?_ ?_ _ | refine zbS ?_ ?_ _ | refine zbT ?_ (by assumption) ?_ | (simp; done) | (simp; omega) | omega)
  rw [hW0]
  clear hW0
  obtain ⟨p, hp⟩ : ∃ p, w.heap.size = p := ⟨_, rfl⟩
  obtain ⟨q, hq⟩ : ∃ q, w.heap.size + 1 = q := ⟨_, rfl⟩
  rw [hq, hp]
  rw [hp] at gp
  rw [hq] at gq
  have lp : p < W0.heap.size := by omega
  have lq : q < W0.heap.size := by omega
  have hpq : p ≠ q := by omega
  have hwp : w.heap.size = p := hp
  have hwq : w.heap.size ≤ q := by omega
  have HR0 := hide (HR.out.below gB)
  have GB := hide gB
  have GP := hide gp
  have GQ := hide gq
  have cp0 := (blk_cell gp 0).trans rfl; have cp1 := (blk_cell gp 1).trans rfl
  have cq0 := (blk_cell gq 0).trans rfl; have cq1 := (blk_cell gq 1).trans rfl
  have fq0 := blk_frozen gq 0; have fq1 := blk_frozen gq 1
  clear gp gq gB HR hp hq gs
  go_wp2_with (go_at_call 57; refine (refWithin_any _ _ _ _).mono ?_; rintro e w4 ⟨rfl, rfl⟩; rw [X1])
  refine bodyPost_ret (v := .tuple #[.slice none 0 0, .agg #[.int .i64 0, .int .i64 0], .int .i64 23]) (refRun_results (blk_set (blk_set GQ.out 0 (.int .i64 0)) 1 (.int .i64 0)) rfl rfl rfl rfl) rfl ?_
  exact run_bad HBAD.out (zbS (zbS GB.out hwq _) hwq _)

set_option maxRecDepth 100000 in
set_option maxHeartbeats 6400000 in
theorem refRun_rule2 (each more : Int) (l : List L.Ap) (A : Option Addr) (n c : Nat) (w : World) (hn : l.length = n) (hr : RdA w w.heap.size A l) (X1 : L.within each 0 9 = true) (X2 : L.within more 0 9 = false) :
    Calls Try.prog 45 #[.agg #[.int .i64 each, .int .i64 more], .slice A n c] w fun e w' => RunPost each more l w e w' := by
  have HN := hide hn
  have HR := hide hr
  have HBAD := hide (show L.runBad each more l = true by unfold L.runBad L.ruleOk; rw [X1, X2]; rfl)
  clear hn hr
  go_enter Try.func45, Try.ntmps45
  go_upto_region 1 with fail
  obtain ⟨W0, hW0⟩ : ∃ W0, (w.alloc (.cells #[.int .i64 each, .int .i64 more] 62)).alloc (.cells #[.int .i64 0, .int .i64 0] 64) = W0 := ⟨_, rfl⟩
  have gp : W0.heap[w.heap.size]? = some (.cells #[.int .i64 each, .int .i64 more] 62 (0, 0)) := by
    rw [← hW0]; exact (Below.heap_alloc _ _ _ (by first | (simp; done) | (simp; omega) | omega)).trans (World.alloc_heap_new _ _)
  have gq : W0.heap[w.heap.size + 1]? = some (.cells #[.int .i64 0, .int .i64 0] 64 (0, 0)) := by
    rw [← hW0]; exact (congrArg _ (by simp)).trans (World.alloc_heap_new _ _)
  have gs : W0.heap.size = w.heap.size + 1 + 1 := by rw [← hW0]; simp
  have gB : Below w.heap.size w W0 := by rw [← hW0]; (repeat' first | exact zbR _ _ | assumption | refine zbD ?_ | refine zbA ?_ ?_ _ | refine zbS ?_ ?_ _ | refine zbT ?_ (by assumption) ?_ | (simp; done) | (simp; omega) | omega)
  rw [hW0]
  clear hW0
  obtain ⟨p, hp⟩ : ∃ p, w.heap.size = p := ⟨_, rfl⟩
  obtain ⟨q, hq⟩ : ∃ q, w.heap.size + 1 = q := ⟨_, rfl⟩
  rw [hq, hp]
  rw [hp] at gp
  rw [hq] at gq
  have lp : p < W0.heap.size := by omega
  have lq : q < W0.heap.size := by omega
  have hpq : p ≠ q := by omega
  have hwp : w.heap.size = p := hp
  have hwq : w.heap.size ≤ q := by omega
  have HR0 := hide (HR.out.below gB)
  have GB := hide gB
  have GP := hide gp
  have GQ := hide gq
  have cp0 := (blk_cell gp 0).trans rfl; have cp1 := (blk_cell gp 1).trans rfl
  have cq0 := (blk_cell gq 0).trans rfl; have cq1 := (blk_cell gq 1).trans rfl
  have fq0 := blk_frozen gq 0; have fq1 := blk_frozen gq 1
  clear gp gq gB HR hp hq gs
  go_wp2_with (go_at_call 57; refine (refWithin_any _ _ _ _).mono ?_; rintro e w4 ⟨rfl, rfl⟩; first | rw [X1] | rw [X2])
  refine bodyPost_ret (v := .tuple #[.slice none 0 0, .agg #[.int .i64 0, .int .i64 0], .int .i64 23]) (refRun_results (blk_set (blk_set GQ.out 0 (.int .i64 0)) 1 (.int .i64 0)) rfl rfl rfl rfl) rfl ?_
  exact run_bad HBAD.out (zbS (zbS GB.out hwq _) hwq _)

set_option maxRecDepth 100000 in
set_option maxHeartbeats 6400000 in
theorem refRun_rule3 (each more : Int) (l : List L.Ap) (A : Option Addr) (n c : Nat) (w : World) (hn : l.length = n) (hr : RdA w w.heap.size A l) (X1 : L.within each 0 9 = true) (X2 : L.within more 0 9 = true) (X3 : 30 < n) :
    Calls Try.prog 45 #[.agg #[.int .i64 each, .int .i64 more], .slice A n c] w fun e w' => RunPost each more l w e w' := by
  have HN := hide hn
  have HR := hide hr
  have HBAD := hide (show L.runBad each more l = true by unfold L.runBad L.ruleOk; rw [X1, X2, hn, decide_eq_false (by omega)]; rfl)
  have X3' : (30 : Int) < (n : Int) := by omega
  clear hn hr X3
  go_enter Try.func45, Try.ntmps45
  go_upto_region 1 with fail
  obtain ⟨W0, hW0⟩ : ∃ W0, (w.alloc (.cells #[.int .i64 each, .int .i64 more] 62)).alloc (.cells #[.int .i64 0, .int .i64 0] 64) = W0 := ⟨_, rfl⟩
  have gp : W0.heap[w.heap.size]? = some (.cells #[.int .i64 each, .int .i64 more] 62 (0, 0)) := by
    rw [← hW0]; exact (Below.heap_alloc _ _ _ (by first | (simp; done) | (simp; omega) | omega)).trans (World.alloc_heap_new _ _)
  have gq : W0.heap[w.heap.size + 1]? = some (.cells #[.int .i64 0, .int .i64 0] 64 (0, 0)) := by
    rw [← hW0]; exact (congrArg _ (by simp)).trans (World.alloc_heap_new _ _)
  have gs : W0.heap.size = w.heap.size + 1 + 1 := by rw [← hW0]; simp
  have gB : Below w.heap.size w W0 := by rw [← hW0]; (repeat' first | exact zbR _ _ | assumption | refine zbD ?_ | refine zbA ?_ ?_ _ | refine zbS ?_ ?_ _ | refine zbT ?_ (by assumption) ?_ | (simp; done) | (simp; omega) | omega)
  rw [hW0]
  clear hW0
  obtain ⟨p, hp⟩ : ∃ p, w.heap.size = p := ⟨_, rfl⟩
  obtain ⟨q, hq⟩ : ∃ q, w.heap.size + 1 = q := ⟨_, rfl⟩
  rw [hq, hp]
  rw [hp] at gp
  rw [hq] at gq
  have lp : p < W0.heap.size := by omega
  have lq : q < W0.heap.size := by omega
  have hpq : p ≠ q := by omega
  have hwp : w.heap.size = p := hp
  have hwq : w.heap.size ≤ q := by omega
  have HR0 := hide (HR.out.below gB)
  have GB := hide gB
  have GP := hide gp
  have GQ := hide gq
  have cp0 := (blk_cell gp 0).trans rfl; have cp1 := (blk_cell gp 1).trans rfl
  have cq0 := (blk_cell gq 0).trans rfl; have cq1 := (blk_cell gq 1).trans rfl
  have fq0 := blk_frozen gq 0; have fq1 := blk_frozen gq 1
  clear gp gq gB HR hp hq gs
  go_wp2_with (go_at_call 57; refine (refWithin_any _ _ _ _).mono ?_; rintro e w4 ⟨rfl, rfl⟩; first | rw [X1] | rw [X2])
  refine bodyPost_ret (v := .tuple #[.slice none 0 0, .agg #[.int .i64 0, .int .i64 0], .int .i64 23]) (refRun_results (blk_set (blk_set GQ.out 0 (.int .i64 0)) 1 (.int .i64 0)) rfl rfl rfl rfl) rfl ?_
  exact run_bad HBAD.out (zbS (zbS GB.out hwq _) hwq _)

set_option maxRecDepth 100000 in
set_option maxHeartbeats 6400000 in
theorem refRun_yes (each more : Int) (l : List L.Ap) (A : Option Addr) (n c : Nat) (w : World) (hn : l.length = n) (hr : RdA w w.heap.size A l) (X1 : L.within each 0 9 = true) (X2 : L.within more 0 9 = true) (X3 : n ≤ 30) :
    Calls Try.prog 45 #[.agg #[.int .i64 each, .int .i64 more], .slice A n c] w fun e w' => RunPost each more l w e w' := by
  have HN := hide hn
  have HR := hide hr
  have HRO := hide (show L.ruleOk each more l.length = true by unfold L.ruleOk; rw [X1, X2, hn, decide_eq_true X3]; rfl)
  have X3' : (n : Int) ≤ 30 := by omega
  have hx1 := X1
  have hx2 := X2
  simp only [L.within, Bool.and_eq_true, decide_eq_true_eq] at hx1 hx2
  obtain ⟨e0, e9⟩ := hx1
  obtain ⟨o0, o9⟩ := hx2
  clear hn hr
  go_enter Try.func45, Try.ntmps45
  go_upto_region 1 with fail
  obtain ⟨W0, hW0⟩ : ∃ W0, (w.alloc (.cells #[.int .i64 each, .int .i64 more] 62)).alloc (.cells #[.int .i64 0, .int .i64 0] 64) = W0 := ⟨_, rfl⟩
  have gp : W0.heap[w.heap.size]? = some (.cells #[.int .i64 each, .int .i64 more] 62 (0, 0)) := by
    rw [← hW0]; exact (Below.heap_alloc _ _ _ (by first | (simp; done) | (simp; omega) | omega)).trans (World.alloc_heap_new _ _)
  have gq : W0.heap[w.heap.size + 1]? = some (.cells #[.int .i64 0, .int .i64 0] 64 (0, 0)) := by
    rw [← hW0]; exact (congrArg _ (by simp)).trans (World.alloc_heap_new _ _)
  have gs : W0.heap.size = w.heap.size + 1 + 1 := by rw [← hW0]; simp
  have gB : Below w.heap.size w W0 := by rw [← hW0]; (repeat' first | exact zbR _ _ | assumption | refine zbD ?_ | refine zbA ?_ ?_ _ | refine zbS ?_ ?_ _ | refine zbT ?_ (by assumption) ?_ | (simp; done) | (simp; omega) | omega)
  rw [hW0]
  clear hW0
  obtain ⟨p, hp⟩ : ∃ p, w.heap.size = p := ⟨_, rfl⟩
  obtain ⟨q, hq⟩ : ∃ q, w.heap.size + 1 = q := ⟨_, rfl⟩
  rw [hq, hp]
  rw [hp] at gp
  rw [hq] at gq
  have lp : p < W0.heap.size := by omega
  have lq : q < W0.heap.size := by omega
  have hpq : p ≠ q := by omega
  have hwp : w.heap.size = p := hp
  have hwq : w.heap.size ≤ q := by omega
  have HR0 := hide (HR.out.below gB)
  have GB := hide gB
  have GP := hide gp
  have GQ := hide gq
  have cp0 := (blk_cell gp 0).trans rfl; have cp1 := (blk_cell gp 1).trans rfl
  have cq0 := (blk_cell gq 0).trans rfl; have cq1 := (blk_cell gq 1).trans rfl
  have fq0 := blk_frozen gq 0; have fq1 := blk_frozen gq 1
  clear gp gq gB HR hp hq gs
  go_upto_region 4 with (go_at_call 57; refine (refWithin_any _ _ _ _).mono ?_; rintro e w4 ⟨rfl, rfl⟩; first | rw [X1] | rw [X2])
  clear X1 X2 cp0 cp1 cq0 cq1 fq0 fq1
  go_loopw [4, 7] (fun m t wr => ∃ i : Nat, i ≤ n ∧ t = .int .i64 i ∧ (∃ s : L.Rs, Hid (L.runFrom each more L.rs0 (l.take i) = s) ∧ Hid (s.bad = false) ∧ Hid (L.RsBd s i) ∧ s.ds.length ≤ i ∧ (∃ sv c', m = .slice sv s.ds.length c' ∧ Hid (wr.ownsRow W0.heap.size 3 1 (.slice sv s.ds.length c') s.ds.length (flatI s.ds))) ∧ Hid (wr.heap[q]? = some (.cells #[.int .i64 s.l0, .int .i64 s.l1] 64 (0, 0)))) ∧ Keeps (fun y => y ≠ q) W0 wr) (fun _ t _ => n - (intOf t).toNat)
  case atStart => exact ⟨0, by omega, rfl, ⟨L.rs0, hide rfl, hide rfl, hide ⟨by decide, by decide, by decide, by decide⟩, by decide, ⟨none, 0, rfl, hide (World.ownsRow_nil _ _ _ _)⟩, GQ⟩, Keeps.refl _ _⟩
  case round =>
    obtain ⟨i, hi, rfl, ⟨s, HS, HSB, HBD, hsl, ⟨sv, c', rfl, hown⟩, HQ⟩, hK⟩ := hrel
    have qK := hK.rest.size
    have lpr : p < wr.heap.size := by omega
    have lqr : q < wr.heap.size := by omega
    have hi0 : (0 : Int) ≤ (i : Int) := by omega
    have HW := hide (hK.below (n := w.heap.size) (fun y hy => by show y ≠ q; omega) (by omega))
    have GBr := hide (GB.out.trans HW.out)
    obtain ⟨a0, a1, b0, b1⟩ := HBD.out
    by_cases hlt : i < n
    · obtain ⟨a, ha⟩ : ∃ a, l[i]? = some a := ⟨_, List.getElem?_eq_getElem (by have := HN.out; omega)⟩
      obtain ⟨b, o, hA, hbB, hat⟩ := (HR0.out.below HW.out) i a ha
      subst hA
      have HNX := hide (show L.runFrom each more L.rs0 (l.take (i + 1)) = L.stepR each more s a by rw [L.runFrom_take ha (by rw [HS.out]; exact HSB.out), HS.out])
      have HNB := hide (L.stepR_bd (a := a) HBD.out e0 e9 o0 o9)
      have HBADX := hide (show (L.stepR each more s a).bad = true → L.runBad each more l = true from fun h => by
        unfold L.runBad L.runR
        rw [L.runFrom_stay (i := i + 1) (by rw [HNX.out]; exact h), Bool.or_true])
      have hlt' : (i : Int) < (n : Int) := by omega
      obtain ⟨c0, c1, c2, c3, c4, c5, c6, c7, c8, c9, c10, c11, c12, c13, hlen, hrd, hnil⟩ := hat
      have HLEN := hide hlen
      have HRD := hide (hrd.mono (B' := wr.heap.size) (by omega))
      clear ha hlen hrd hnil
      go_upto_region 7 with fail
      obtain ⟨W1, hW1⟩ : ∃ W1, wr.alloc (.cells #[.int .i64 a.kind, .int .i64 a.side, .int .i64 a.said, .int .i64 a.v.size, .slice a.A a.n a.c, .int .i64 a.v.wrong, .int .i64 a.v.hxl, .int .i64 a.v.hxh, .int .i64 a.v.hyl, .int .i64 a.v.hyh, .int .i64 a.b.l, .int .i64 a.b.r, .int .i64 a.b.b, .int .i64 a.b.t] 66) = W1 := ⟨_, rfl⟩
      have gk : W1.heap[wr.heap.size]? = some (.cells #[.int .i64 a.kind, .int .i64 a.side, .int .i64 a.said, .int .i64 a.v.size, .slice a.A a.n a.c, .int .i64 a.v.wrong, .int .i64 a.v.hxl, .int .i64 a.v.hxh, .int .i64 a.v.hyl, .int .i64 a.v.hyh, .int .i64 a.b.l, .int .i64 a.b.r, .int .i64 a.b.b, .int .i64 a.b.t] 66 (0, 0)) := by rw [← hW1]; exact World.alloc_heap_new _ _
      have gq : W1.heap[q]? = some (.cells #[.int .i64 s.l0, .int .i64 s.l1] 64 (0, 0)) := by rw [← hW1]; exact (Below.heap_alloc _ _ _ lqr).trans HQ.out
      have gp : W1.heap[p]? = some (.cells #[.int .i64 each, .int .i64 more] 62 (0, 0)) := by rw [← hW1]; exact (Below.heap_alloc _ _ _ lpr).trans ((hK.same p hpq lp).trans GP.out)
      have gs : W1.heap.size = wr.heap.size + 1 := by rw [← hW1]; simp
      have gK : Keeps (fun y => y ≠ q) W0 W1 := by rw [← hW1]; exact hK.alloc _
      have gO : W1.ownsRow W0.heap.size 3 1 (.slice sv s.ds.length c') s.ds.length (flatI s.ds) := by rw [← hW1]; exact hown.out.alloc _
      have gB : Below wr.heap.size wr W1 := by rw [← hW1]; (repeat' first | exact zbR _ _ | assumption | refine zbD ?_ | refine zbA ?_ ?_ _ | refine zbS ?_ ?_ _ | refine zbT ?_ (by assumption) ?_ | (simp; done) | (simp; omega) | omega)
      rw [hW1]
      clear hW1 c0 c1 c2 c3 c4 c5 c6 c7 c8 c9 c10 c11 c12 c13
      obtain ⟨k, hk⟩ : ∃ k, wr.heap.size = k := ⟨_, rfl⟩
      have hOlt : ∀ g, (Value.slice sv s.ds.length c').ownBlock = some g → W0.heap.size ≤ g ∧ g < k := fun g hg => by rw [← hk]; exact hown.out.lt g hg
      rw [hk] at gk gs ⊢
      have lk : k < W1.heap.size := by omega
      have lq1 : q < W1.heap.size := by omega
      have lp1 : p < W1.heap.size := by omega
      have hkq : k ≠ q := by omega
      have HRD1 := hide ((HRD.out.below gB).mono gB.size)
      have GB1 := hide (GBr.out.trans (gB.mono GBr.out.size))
      have HOW := hide gO
      have GK := hide gK
      have w01 : W0.heap.size ≤ W1.heap.size := gK.rest.size
      have GQ1 := hide gq
      have GKB := hide gk
      have HOL := hide hOlt
      have ck0 := (blk_cell gk 0).trans rfl; have ck1 := (blk_cell gk 1).trans rfl; have ck2 := (blk_cell gk 2).trans rfl; have ck3 := (blk_cell gk 3).trans rfl; have ck4 := (blk_cell gk 4).trans rfl; have ck5 := (blk_cell gk 5).trans rfl; have ck6 := (blk_cell gk 6).trans rfl; have ck7 := (blk_cell gk 7).trans rfl; have ck8 := (blk_cell gk 8).trans rfl; have ck9 := (blk_cell gk 9).trans rfl; have ck10 := (blk_cell gk 10).trans rfl; have ck11 := (blk_cell gk 11).trans rfl; have ck12 := (blk_cell gk 12).trans rfl; have ck13 := (blk_cell gk 13).trans rfl
      have cq0 := (blk_cell gq 0).trans rfl; have cq1 := (blk_cell gq 1).trans rfl
      have cp0 := (blk_cell gp 0).trans rfl; have cp1 := (blk_cell gp 1).trans rfl
      have fq0 := blk_frozen gq 0; have fq1 := blk_frozen gq 1
      have l0q : (0 : Nat) < 2 := by omega
      clear gk gq gp gK gO gB hown HQ hK hk HRD HW GBr qK hOlt lpr lqr hbB gs
      by_cases hk1 : a.kind = 1
      · have d1 : (a.kind == 1) = true := by rw [hk1]; rfl
        have d2 : (a.kind == 2) = false := by rw [hk1]; rfl
        have d3 : (a.kind == 3) = false := by rw [hk1]; rfl
        have KW : L.within a.kind 1 3 = true := by rw [hk1]; rfl
        have HE := hide (show L.stepR each more s a = { s with l0 := each, l1 := each } by unfold L.stepR; rw [if_pos hk1])
        clear hk1 HBADX
        cases a0s : (a.side != 0) <;> cases a1s : (a.side != 1)
        all_goals
          go_wp2_with (go_at_call 57; refine (refWithin_any _ _ _ _).mono ?_; rintro e w4 ⟨rfl, rfl⟩; rw [KW])
          go_roundw
          case rel => exact ⟨i + 1, by omega, by go_num, ⟨_, HNX, hide (by rw [HE.out]; exact HSB.out), HNB, by rw [HE.out]; show s.ds.length ≤ i + 1; omega, ⟨sv, c', by rw [HE.out], hide (by rw [HE.out]; exact ownsRow_setCell_below (ownsRow_setCell_below HOW.out lq _) lq _)⟩, hide (by rw [HE.out]; exact blk_set (blk_set GQ1.out 0 _) 1 _)⟩, (GK.out.st (fun h => h rfl)).st (fun h => h rfl)⟩
          case measure => simp [intOf]; omega
      · by_cases hk2 : a.kind = 2
        · have d1 : (a.kind == 1) = false := by rw [hk2]; rfl
          have d2 : (a.kind == 2) = true := by rw [hk2]; rfl
          have d3 : (a.kind == 3) = false := by rw [hk2]; rfl
          have KW : L.within a.kind 1 3 = true := by rw [hk2]; rfl
          have HE := hide (show L.stepR each more s a = { s with l0 := s.l0 + more, l1 := s.l1 + more } by unfold L.stepR; rw [if_neg hk1, if_pos hk2])
          clear hk1 hk2 HBADX
          cases a0s : (a.side != 0) <;> cases a1s : (a.side != 1)
          all_goals
            go_wp2_with (go_at_call 57; refine (refWithin_any _ _ _ _).mono ?_; rintro e w4 ⟨rfl, rfl⟩; rw [KW])
            go_roundw
            case rel => exact ⟨i + 1, by omega, by go_num, ⟨_, HNX, hide (by rw [HE.out]; exact HSB.out), HNB, by rw [HE.out]; show s.ds.length ≤ i + 1; omega, ⟨sv, c', by rw [HE.out], hide (by rw [HE.out]; exact ownsRow_setCell_below (ownsRow_setCell_below HOW.out lq _) lq _)⟩, hide (by rw [HE.out]; exact blk_set (blk_set GQ1.out 0 _) 1 _)⟩, (GK.out.st (fun h => h rfl)).st (fun h => h rfl)⟩
            case measure => simp [intOf]; omega
        · by_cases hk3 : a.kind = 3
          · have d1 : (a.kind == 1) = false := by rw [hk3]; rfl
            have d2 : (a.kind == 2) = false := by rw [hk3]; rfl
            have d3 : (a.kind == 3) = true := by rw [hk3]; rfl
            have KW : L.within a.kind 1 3 = true := by rw [hk3]; rfl
            obtain ⟨dv, hdv⟩ : ∃ dv, L.decV a.said a.v a.b = dv := ⟨_, rfl⟩
            obtain ⟨dk, hdk⟩ : ∃ dk, L.decK a.said a.v a.b = dk := ⟨_, rfl⟩
            obtain ⟨de, hde⟩ : ∃ de, L.decE a.said a.v a.b = de := ⟨_, rfl⟩
            have HDV := hide hdv
            have HDK := hide hdk
            have HDE := hide hde
            have HE3 := hide (show L.stepR each more s a = if L.askOk a s then { s with ds := s.ds ++ [dv], l0 := if a.side = 0 ∧ dk = false then s.l0 - 1 else s.l0, l1 := if a.side = 1 ∧ dk = false then s.l1 - 1 else s.l1 } else { s with bad := true } by unfold L.stepR; rw [if_neg hk1, if_neg hk2, if_pos hk3, hdv, hdk])
            have HAO := hide (show L.askOk a s = (decide (de = 0) && L.within a.side 0 1 && !(s.left a.side == 0)) by unfold L.askOk; rw [hde])
            clear hk1 hk2 hk3 hdv hdk hde
            by_cases hs0 : a.side = 0
            · have SW : L.within a.side 0 1 = true := by rw [hs0]; rfl
              have SL : s.left a.side = s.l0 := by unfold L.Rs.left; rw [hs0]; rfl
              rw [hs0] at ck1
              have n0 : ((0 : Int) != 0) = false := by rfl
              have n1 : ((0 : Int) != 1) = true := by rfl
              by_cases hd : de = 0
              · by_cases hl : s.l0 = 0
                · have HE := hide (show (L.stepR each more s a).bad = true by rw [HE3.out, HAO.out, SW, SL, hl]; simp)
                  have dl : (s.l0 == 0) = true := by rw [hl]; rfl
                  subst hd
                  clear SL hl
                  go_wp2_with (first | (go_at_call 43; refine (refDecide_any a.said a.v a.A a.n a.c a.b _ HLEN.out ((HRD1.out.below (by (repeat' first | exact zbR _ _ | assumption | refine zbD ?_ | refine zbA ?_ ?_ _ | refine zbS ?_ ?_ _ | refine zbT ?_ (by assumption) ?_ | (simp; done) | (simp; omega) | omega))).mono (by first | (simp; done) | (simp; omega) | omega))).mono ?_; rintro e w3 ⟨rfl, hb3⟩; rw [HDE.out, HDV.out, HDK.out]; obtain ⟨hc3, hf3⟩ := bcell hb3; have q3 := hb3.size; have z3k : k < w3.heap.size := (by omega); have z3q : q < w3.heap.size := (by omega); have z3p : p < w3.heap.size := (by omega); have c3q0 : w3.cell? ⟨q, 0, none⟩ = some (.int .i64 s.l0) := (hb3.cell (p := ⟨q, 0, none⟩) lq1).trans cq0; have c3q1 : w3.cell? ⟨q, 1, none⟩ = some (.int .i64 s.l1) := (hb3.cell (p := ⟨q, 1, none⟩) lq1).trans cq1; have c3k1 := (hb3.cell (p := ⟨k, 1, none⟩) lk).trans ck1) | (go_at_call 57; refine (refWithin_any _ _ _ _).mono ?_; rintro e w4 ⟨rfl, rfl⟩; rw [KW]))
                  refine bodyPost_ret (v := .tuple #[.slice none 0 0, .agg #[.int .i64 0, .int .i64 0], .int .i64 23]) (refRun_results (blk_set (blk_set ((hb3.block q lq1).trans GQ1.out) 0 (.int .i64 0)) 1 (.int .i64 0)) rfl rfl rfl rfl) rfl ?_
                  exact run_bad (HBADX.out HE.out) (zbS (zbS (GB1.out.trans (hb3.mono (by have := GB1.out.size; omega))) hwq _) hwq _)
                · have HOKA : L.askOk a s = true := by rw [HAO.out, SW, SL, hd]; simp [hl]
                  have dl : (s.l0 == 0) = false := by simpa using hl
                  subst hd
                  cases hdk : dk
                  · have HE := hide (show L.stepR each more s a = { s with ds := s.ds ++ [dv], l0 := s.l0 - 1 } by rw [HE3.out, HOKA, hdk, hs0]; rfl)
                    have HL := hide (show (s.ds ++ [dv]).length = s.ds.length + 1 by simp)
                    subst hdk
                    clear SL hl HOKA HE3 HAO HBADX
                    go_wp2_with (first | (go_at_call 43; refine (refDecide_any a.said a.v a.A a.n a.c a.b _ HLEN.out ((HRD1.out.below (by (repeat' first | exact zbR _ _ | assumption | refine zbD ?_ | refine zbA ?_ ?_ _ | refine zbS ?_ ?_ _ | refine zbT ?_ (by assumption) ?_ | (simp; done) | (simp; omega) | omega))).mono (by first | (simp; done) | (simp; omega) | omega))).mono ?_; rintro e w3 ⟨rfl, hb3⟩; rw [HDE.out, HDV.out, HDK.out]; obtain ⟨hc3, hf3⟩ := bcell hb3; have q3 := hb3.size; have z3k : k < w3.heap.size := (by omega); have z3q : q < w3.heap.size := (by omega); have z3p : p < w3.heap.size := (by omega); have c3q0 : w3.cell? ⟨q, 0, none⟩ = some (.int .i64 s.l0) := (hb3.cell (p := ⟨q, 0, none⟩) lq1).trans cq0; have c3q1 : w3.cell? ⟨q, 1, none⟩ = some (.int .i64 s.l1) := (hb3.cell (p := ⟨q, 1, none⟩) lq1).trans cq1; have c3k1 := (hb3.cell (p := ⟨k, 1, none⟩) lk).trans ck1) | (go_at_call 57; refine (refWithin_any _ _ _ _).mono ?_; rintro e w4 ⟨rfl, rfl⟩; rw [KW]) | (refine wpList_app_at rfl (.tmp 103) (.tmp 105) rfl W0.heap.size _ s.ds _ rfl ((owns_below HOW.out (hb3.mono (by omega))).alloc _) (some ⟨_, 0, none⟩) 1 1 [dv] rfl rfl (rdI_one (World.alloc_heap_new _ _)) (fun e => by cases e) (by omega) (by omega) (by simp; omega) ?_; intro A2 c2 w7 hown2 hgrow; have HO2 := hide hown2; have ck71 := (hgrow.cell_far ⟨k, 1, none⟩ (by simp; omega) (by intro e; have := HOL.out k e.symm; omega)).trans ((zcP _ _ _ z3k).trans ((hb3.cell (p := ⟨k, 1, none⟩) lk).trans ck1)); have gq7 := (hgrow.block q (by simp; omega) (by intro e; have := HOL.out q e.symm; omega)).trans ((Below.heap_alloc _ _ _ z3q).trans ((hb3.block q lq1).trans GQ1.out)); have GQ7 := hide gq7; have cq70 := (blk_cell gq7 0).trans rfl; have cq71 := (blk_cell gq7 1).trans rfl; have fq70 := blk_frozen gq7 0; have fq71 := blk_frozen gq7 1; have z7 := hgrow.size; (try simp at z7); have z7k : k < w7.heap.size := (by omega); have z7q : q < w7.heap.size := (by omega); have hg7 := grown_below (B := W0.heap.size) hgrow (by simp; omega) (fun g hg => (HOL.out g hg).1); have GK7 := hide (((GK.out.trans (Keeps.of_below hb3)).alloc _).then_below hg7); clear hown2 hgrow gq7))
                    go_roundw
                    case rel => exact ⟨i + 1, by omega, by go_num, ⟨_, HNX, hide (by rw [HE.out]; exact HSB.out), HNB, by rw [HE.out]; show (s.ds ++ [dv]).length ≤ i + 1; have := HL.out; omega, ⟨A2, c2, by rw [HE.out, ← HL.out], hide (by rw [HE.out]; show World.ownsRow _ _ _ _ (.slice A2 (s.ds ++ [dv]).length c2) (s.ds ++ [dv]).length _; rw [HL.out]; exact ownsRow_setCell_below HO2.out lq _)⟩, hide (by rw [HE.out]; exact blk_set GQ7.out 0 _)⟩, GK7.out.st (fun h => h rfl)⟩
                    case measure => simp [intOf]; omega
                  · have HE := hide (show L.stepR each more s a = { s with ds := s.ds ++ [dv] } by rw [HE3.out, HOKA, hdk]; simp)
                    have HL := hide (show (s.ds ++ [dv]).length = s.ds.length + 1 by simp)
                    subst hdk
                    clear SL hl HOKA HE3 HAO HBADX
                    go_wp2_with (first | (go_at_call 43; refine (refDecide_any a.said a.v a.A a.n a.c a.b _ HLEN.out ((HRD1.out.below (by (repeat' first | exact zbR _ _ | assumption | refine zbD ?_ | refine zbA ?_ ?_ _ | refine zbS ?_ ?_ _ | refine zbT ?_ (by assumption) ?_ | (simp; done) | (simp; omega) | omega))).mono (by first | (simp; done) | (simp; omega) | omega))).mono ?_; rintro e w3 ⟨rfl, hb3⟩; rw [HDE.out, HDV.out, HDK.out]; obtain ⟨hc3, hf3⟩ := bcell hb3; have q3 := hb3.size; have z3k : k < w3.heap.size := (by omega); have z3q : q < w3.heap.size := (by omega); have z3p : p < w3.heap.size := (by omega); have c3q0 : w3.cell? ⟨q, 0, none⟩ = some (.int .i64 s.l0) := (hb3.cell (p := ⟨q, 0, none⟩) lq1).trans cq0; have c3q1 : w3.cell? ⟨q, 1, none⟩ = some (.int .i64 s.l1) := (hb3.cell (p := ⟨q, 1, none⟩) lq1).trans cq1; have c3k1 := (hb3.cell (p := ⟨k, 1, none⟩) lk).trans ck1) | (go_at_call 57; refine (refWithin_any _ _ _ _).mono ?_; rintro e w4 ⟨rfl, rfl⟩; rw [KW]) | (refine wpList_app_at rfl (.tmp 103) (.tmp 105) rfl W0.heap.size _ s.ds _ rfl ((owns_below HOW.out (hb3.mono (by omega))).alloc _) (some ⟨_, 0, none⟩) 1 1 [dv] rfl rfl (rdI_one (World.alloc_heap_new _ _)) (fun e => by cases e) (by omega) (by omega) (by simp; omega) ?_; intro A2 c2 w7 hown2 hgrow; have HO2 := hide hown2; have ck71 := (hgrow.cell_far ⟨k, 1, none⟩ (by simp; omega) (by intro e; have := HOL.out k e.symm; omega)).trans ((zcP _ _ _ z3k).trans ((hb3.cell (p := ⟨k, 1, none⟩) lk).trans ck1)); have gq7 := (hgrow.block q (by simp; omega) (by intro e; have := HOL.out q e.symm; omega)).trans ((Below.heap_alloc _ _ _ z3q).trans ((hb3.block q lq1).trans GQ1.out)); have GQ7 := hide gq7; have cq70 := (blk_cell gq7 0).trans rfl; have cq71 := (blk_cell gq7 1).trans rfl; have fq70 := blk_frozen gq7 0; have fq71 := blk_frozen gq7 1; have z7 := hgrow.size; (try simp at z7); have z7k : k < w7.heap.size := (by omega); have z7q : q < w7.heap.size := (by omega); have hg7 := grown_below (B := W0.heap.size) hgrow (by simp; omega) (fun g hg => (HOL.out g hg).1); have GK7 := hide (((GK.out.trans (Keeps.of_below hb3)).alloc _).then_below hg7); clear hown2 hgrow gq7))
                    go_roundw
                    case rel => exact ⟨i + 1, by omega, by go_num, ⟨_, HNX, hide (by rw [HE.out]; exact HSB.out), HNB, by rw [HE.out]; show (s.ds ++ [dv]).length ≤ i + 1; have := HL.out; omega, ⟨A2, c2, by rw [HE.out, ← HL.out], hide (by rw [HE.out]; show World.ownsRow _ _ _ _ (.slice A2 (s.ds ++ [dv]).length c2) (s.ds ++ [dv]).length _; rw [HL.out]; exact HO2.out)⟩, hide (by rw [HE.out]; exact GQ7.out)⟩, GK7.out⟩
                    case measure => simp [intOf]; omega
              · have HE := hide (show (L.stepR each more s a).bad = true by rw [HE3.out, HAO.out, decide_eq_false hd]; rfl)
                have dd : (de == 0) = false := by simpa using hd
                have dd' : (de != 0) = true := by simpa using hd
                clear SL hd
                go_wp2_with (first | (go_at_call 43; refine (refDecide_any a.said a.v a.A a.n a.c a.b _ HLEN.out ((HRD1.out.below (by (repeat' first | exact zbR _ _ | assumption | refine zbD ?_ | refine zbA ?_ ?_ _ | refine zbS ?_ ?_ _ | refine zbT ?_ (by assumption) ?_ | (simp; done) | (simp; omega) | omega))).mono (by first | (simp; done) | (simp; omega) | omega))).mono ?_; rintro e w3 ⟨rfl, hb3⟩; rw [HDE.out, HDV.out, HDK.out]; obtain ⟨hc3, hf3⟩ := bcell hb3; have q3 := hb3.size; have z3k : k < w3.heap.size := (by omega); have z3q : q < w3.heap.size := (by omega); have z3p : p < w3.heap.size := (by omega); have c3q0 : w3.cell? ⟨q, 0, none⟩ = some (.int .i64 s.l0) := (hb3.cell (p := ⟨q, 0, none⟩) lq1).trans cq0; have c3q1 : w3.cell? ⟨q, 1, none⟩ = some (.int .i64 s.l1) := (hb3.cell (p := ⟨q, 1, none⟩) lq1).trans cq1; have c3k1 := (hb3.cell (p := ⟨k, 1, none⟩) lk).trans ck1) | (go_at_call 57; refine (refWithin_any _ _ _ _).mono ?_; rintro e w4 ⟨rfl, rfl⟩; rw [KW]))
                refine bodyPost_ret (v := .tuple #[.slice none 0 0, .agg #[.int .i64 0, .int .i64 0], .int .i64 23]) (refRun_results (blk_set (blk_set ((hb3.block q lq1).trans GQ1.out) 0 (.int .i64 0)) 1 (.int .i64 0)) rfl rfl rfl rfl) rfl ?_
                exact run_bad (HBADX.out HE.out) (zbS (zbS (GB1.out.trans (hb3.mono (by have := GB1.out.size; omega))) hwq _) hwq _)
            · by_cases hs1 : a.side = 1
              · have SW : L.within a.side 0 1 = true := by rw [hs1]; rfl
                have SL : s.left a.side = s.l1 := by unfold L.Rs.left; rw [hs1]; rfl
                rw [hs1] at ck1
                have n0 : ((1 : Int) != 0) = true := by rfl
                have n1 : ((1 : Int) != 1) = false := by rfl
                by_cases hd : de = 0
                · by_cases hl : s.l1 = 0
                  · have HE := hide (show (L.stepR each more s a).bad = true by rw [HE3.out, HAO.out, SW, SL, hl]; simp)
                    have dl : (s.l1 == 0) = true := by rw [hl]; rfl
                    subst hd
                    clear SL hl
                    go_wp2_with (first | (go_at_call 43; refine (refDecide_any a.said a.v a.A a.n a.c a.b _ HLEN.out ((HRD1.out.below (by (repeat' first | exact zbR _ _ | assumption | refine zbD ?_ | refine zbA ?_ ?_ _ | refine zbS ?_ ?_ _ | refine zbT ?_ (by assumption) ?_ | (simp; done) | (simp; omega) | omega))).mono (by first | (simp; done) | (simp; omega) | omega))).mono ?_; rintro e w3 ⟨rfl, hb3⟩; rw [HDE.out, HDV.out, HDK.out]; obtain ⟨hc3, hf3⟩ := bcell hb3; have q3 := hb3.size; have z3k : k < w3.heap.size := (by omega); have z3q : q < w3.heap.size := (by omega); have z3p : p < w3.heap.size := (by omega); have c3q0 : w3.cell? ⟨q, 0, none⟩ = some (.int .i64 s.l0) := (hb3.cell (p := ⟨q, 0, none⟩) lq1).trans cq0; have c3q1 : w3.cell? ⟨q, 1, none⟩ = some (.int .i64 s.l1) := (hb3.cell (p := ⟨q, 1, none⟩) lq1).trans cq1; have c3k1 := (hb3.cell (p := ⟨k, 1, none⟩) lk).trans ck1) | (go_at_call 57; refine (refWithin_any _ _ _ _).mono ?_; rintro e w4 ⟨rfl, rfl⟩; rw [KW]))
                    refine bodyPost_ret (v := .tuple #[.slice none 0 0, .agg #[.int .i64 0, .int .i64 0], .int .i64 23]) (refRun_results (blk_set (blk_set ((hb3.block q lq1).trans GQ1.out) 0 (.int .i64 0)) 1 (.int .i64 0)) rfl rfl rfl rfl) rfl ?_
                    exact run_bad (HBADX.out HE.out) (zbS (zbS (GB1.out.trans (hb3.mono (by have := GB1.out.size; omega))) hwq _) hwq _)
                  · have HOKA : L.askOk a s = true := by rw [HAO.out, SW, SL, hd]; simp [hl]
                    have dl : (s.l1 == 0) = false := by simpa using hl
                    subst hd
                    cases hdk : dk
                    · have HE := hide (show L.stepR each more s a = { s with ds := s.ds ++ [dv], l1 := s.l1 - 1 } by rw [HE3.out, HOKA, hdk, hs1]; rfl)
                      have HL := hide (show (s.ds ++ [dv]).length = s.ds.length + 1 by simp)
                      subst hdk
                      clear SL hl HOKA HE3 HAO HBADX
                      go_wp2_with (first | (go_at_call 43; refine (refDecide_any a.said a.v a.A a.n a.c a.b _ HLEN.out ((HRD1.out.below (by (repeat' first | exact zbR _ _ | assumption | refine zbD ?_ | refine zbA ?_ ?_ _ | refine zbS ?_ ?_ _ | refine zbT ?_ (by assumption) ?_ | (simp; done) | (simp; omega) | omega))).mono (by first | (simp; done) | (simp; omega) | omega))).mono ?_; rintro e w3 ⟨rfl, hb3⟩; rw [HDE.out, HDV.out, HDK.out]; obtain ⟨hc3, hf3⟩ := bcell hb3; have q3 := hb3.size; have z3k : k < w3.heap.size := (by omega); have z3q : q < w3.heap.size := (by omega); have z3p : p < w3.heap.size := (by omega); have c3q0 : w3.cell? ⟨q, 0, none⟩ = some (.int .i64 s.l0) := (hb3.cell (p := ⟨q, 0, none⟩) lq1).trans cq0; have c3q1 : w3.cell? ⟨q, 1, none⟩ = some (.int .i64 s.l1) := (hb3.cell (p := ⟨q, 1, none⟩) lq1).trans cq1; have c3k1 := (hb3.cell (p := ⟨k, 1, none⟩) lk).trans ck1) | (go_at_call 57; refine (refWithin_any _ _ _ _).mono ?_; rintro e w4 ⟨rfl, rfl⟩; rw [KW]) | (refine wpList_app_at rfl (.tmp 103) (.tmp 105) rfl W0.heap.size _ s.ds _ rfl ((owns_below HOW.out (hb3.mono (by omega))).alloc _) (some ⟨_, 0, none⟩) 1 1 [dv] rfl rfl (rdI_one (World.alloc_heap_new _ _)) (fun e => by cases e) (by omega) (by omega) (by simp; omega) ?_; intro A2 c2 w7 hown2 hgrow; have HO2 := hide hown2; have ck71 := (hgrow.cell_far ⟨k, 1, none⟩ (by simp; omega) (by intro e; have := HOL.out k e.symm; omega)).trans ((zcP _ _ _ z3k).trans ((hb3.cell (p := ⟨k, 1, none⟩) lk).trans ck1)); have gq7 := (hgrow.block q (by simp; omega) (by intro e; have := HOL.out q e.symm; omega)).trans ((Below.heap_alloc _ _ _ z3q).trans ((hb3.block q lq1).trans GQ1.out)); have GQ7 := hide gq7; have cq70 := (blk_cell gq7 0).trans rfl; have cq71 := (blk_cell gq7 1).trans rfl; have fq70 := blk_frozen gq7 0; have fq71 := blk_frozen gq7 1; have z7 := hgrow.size; (try simp at z7); have z7k : k < w7.heap.size := (by omega); have z7q : q < w7.heap.size := (by omega); have hg7 := grown_below (B := W0.heap.size) hgrow (by simp; omega) (fun g hg => (HOL.out g hg).1); have GK7 := hide (((GK.out.trans (Keeps.of_below hb3)).alloc _).then_below hg7); clear hown2 hgrow gq7))
                      go_roundw
                      case rel => exact ⟨i + 1, by omega, by go_num, ⟨_, HNX, hide (by rw [HE.out]; exact HSB.out), HNB, by rw [HE.out]; show (s.ds ++ [dv]).length ≤ i + 1; have := HL.out; omega, ⟨A2, c2, by rw [HE.out, ← HL.out], hide (by rw [HE.out]; show World.ownsRow _ _ _ _ (.slice A2 (s.ds ++ [dv]).length c2) (s.ds ++ [dv]).length _; rw [HL.out]; exact ownsRow_setCell_below HO2.out lq _)⟩, hide (by rw [HE.out]; exact blk_set GQ7.out 1 _)⟩, GK7.out.st (fun h => h rfl)⟩
                      case measure => simp [intOf]; omega
                    · have HE := hide (show L.stepR each more s a = { s with ds := s.ds ++ [dv] } by rw [HE3.out, HOKA, hdk]; simp)
                      have HL := hide (show (s.ds ++ [dv]).length = s.ds.length + 1 by simp)
                      subst hdk
                      clear SL hl HOKA HE3 HAO HBADX
                      go_wp2_with (first | (go_at_call 43; refine (refDecide_any a.said a.v a.A a.n a.c a.b _ HLEN.out ((HRD1.out.below (by (repeat' first | exact zbR _ _ | assumption | refine zbD ?_ | refine zbA ?_ ?_ _ | refine zbS ?_ ?_ _ | refine zbT ?_ (by assumption) ?_ | (simp; done) | (simp; omega) | omega))).mono (by first | (simp; done) | (simp; omega) | omega))).mono ?_; rintro e w3 ⟨rfl, hb3⟩; rw [HDE.out, HDV.out, HDK.out]; obtain ⟨hc3, hf3⟩ := bcell hb3; have q3 := hb3.size; have z3k : k < w3.heap.size := (by omega); have z3q : q < w3.heap.size := (by omega); have z3p : p < w3.heap.size := (by omega); have c3q0 : w3.cell? ⟨q, 0, none⟩ = some (.int .i64 s.l0) := (hb3.cell (p := ⟨q, 0, none⟩) lq1).trans cq0; have c3q1 : w3.cell? ⟨q, 1, none⟩ = some (.int .i64 s.l1) := (hb3.cell (p := ⟨q, 1, none⟩) lq1).trans cq1; have c3k1 := (hb3.cell (p := ⟨k, 1, none⟩) lk).trans ck1) | (go_at_call 57; refine (refWithin_any _ _ _ _).mono ?_; rintro e w4 ⟨rfl, rfl⟩; rw [KW]) | (refine wpList_app_at rfl (.tmp 103) (.tmp 105) rfl W0.heap.size _ s.ds _ rfl ((owns_below HOW.out (hb3.mono (by omega))).alloc _) (some ⟨_, 0, none⟩) 1 1 [dv] rfl rfl (rdI_one (World.alloc_heap_new _ _)) (fun e => by cases e) (by omega) (by omega) (by simp; omega) ?_; intro A2 c2 w7 hown2 hgrow; have HO2 := hide hown2; have ck71 := (hgrow.cell_far ⟨k, 1, none⟩ (by simp; omega) (by intro e; have := HOL.out k e.symm; omega)).trans ((zcP _ _ _ z3k).trans ((hb3.cell (p := ⟨k, 1, none⟩) lk).trans ck1)); have gq7 := (hgrow.block q (by simp; omega) (by intro e; have := HOL.out q e.symm; omega)).trans ((Below.heap_alloc _ _ _ z3q).trans ((hb3.block q lq1).trans GQ1.out)); have GQ7 := hide gq7; have cq70 := (blk_cell gq7 0).trans rfl; have cq71 := (blk_cell gq7 1).trans rfl; have fq70 := blk_frozen gq7 0; have fq71 := blk_frozen gq7 1; have z7 := hgrow.size; (try simp at z7); have z7k : k < w7.heap.size := (by omega); have z7q : q < w7.heap.size := (by omega); have hg7 := grown_below (B := W0.heap.size) hgrow (by simp; omega) (fun g hg => (HOL.out g hg).1); have GK7 := hide (((GK.out.trans (Keeps.of_below hb3)).alloc _).then_below hg7); clear hown2 hgrow gq7))
                      go_roundw
                      case rel => exact ⟨i + 1, by omega, by go_num, ⟨_, HNX, hide (by rw [HE.out]; exact HSB.out), HNB, by rw [HE.out]; show (s.ds ++ [dv]).length ≤ i + 1; have := HL.out; omega, ⟨A2, c2, by rw [HE.out, ← HL.out], hide (by rw [HE.out]; show World.ownsRow _ _ _ _ (.slice A2 (s.ds ++ [dv]).length c2) (s.ds ++ [dv]).length _; rw [HL.out]; exact HO2.out)⟩, hide (by rw [HE.out]; exact GQ7.out)⟩, GK7.out⟩
                      case measure => simp [intOf]; omega
                · have HE := hide (show (L.stepR each more s a).bad = true by rw [HE3.out, HAO.out, decide_eq_false hd]; rfl)
                  have dd : (de == 0) = false := by simpa using hd
                  have dd' : (de != 0) = true := by simpa using hd
                  clear SL hd
                  go_wp2_with (first | (go_at_call 43; refine (refDecide_any a.said a.v a.A a.n a.c a.b _ HLEN.out ((HRD1.out.below (by (repeat' first | exact zbR _ _ | assumption | refine zbD ?_ | refine zbA ?_ ?_ _ | refine zbS ?_ ?_ _ | refine zbT ?_ (by assumption) ?_ | (simp; done) | (simp; omega) | omega))).mono (by first | (simp; done) | (simp; omega) | omega))).mono ?_; rintro e w3 ⟨rfl, hb3⟩; rw [HDE.out, HDV.out, HDK.out]; obtain ⟨hc3, hf3⟩ := bcell hb3; have q3 := hb3.size; have z3k : k < w3.heap.size := (by omega); have z3q : q < w3.heap.size := (by omega); have z3p : p < w3.heap.size := (by omega); have c3q0 : w3.cell? ⟨q, 0, none⟩ = some (.int .i64 s.l0) := (hb3.cell (p := ⟨q, 0, none⟩) lq1).trans cq0; have c3q1 : w3.cell? ⟨q, 1, none⟩ = some (.int .i64 s.l1) := (hb3.cell (p := ⟨q, 1, none⟩) lq1).trans cq1; have c3k1 := (hb3.cell (p := ⟨k, 1, none⟩) lk).trans ck1) | (go_at_call 57; refine (refWithin_any _ _ _ _).mono ?_; rintro e w4 ⟨rfl, rfl⟩; rw [KW]))
                  refine bodyPost_ret (v := .tuple #[.slice none 0 0, .agg #[.int .i64 0, .int .i64 0], .int .i64 23]) (refRun_results (blk_set (blk_set ((hb3.block q lq1).trans GQ1.out) 0 (.int .i64 0)) 1 (.int .i64 0)) rfl rfl rfl rfl) rfl ?_
                  exact run_bad (HBADX.out HE.out) (zbS (zbS (GB1.out.trans (hb3.mono (by have := GB1.out.size; omega))) hwq _) hwq _)
              · have SW : L.within a.side 0 1 = false := by simp [L.within]; omega
                have s0 : (a.side == 0) = false := by simpa using hs0
                have s1 : (a.side == 1) = false := by simpa using hs1
                have s0' : (a.side != 0) = true := by simpa using hs0
                have s1' : (a.side != 1) = true := by simpa using hs1
                have HE := hide (show (L.stepR each more s a).bad = true by rw [HE3.out, HAO.out, SW]; simp)
                clear hs0 hs1
                go_wp2_with (go_at_call 57; refine (refWithin_any _ _ _ _).mono ?_; rintro e w4 ⟨rfl, rfl⟩; rw [KW])
                refine bodyPost_ret (v := .tuple #[.slice none 0 0, .agg #[.int .i64 0, .int .i64 0], .int .i64 23]) (refRun_results (blk_set (blk_set GQ1.out 0 (.int .i64 0)) 1 (.int .i64 0)) rfl rfl rfl rfl) rfl ?_
                exact run_bad (HBADX.out HE.out) (zbS (zbS GB1.out hwq _) hwq _)
          · have d1 : (a.kind == 1) = false := by simpa using hk1
            have d2 : (a.kind == 2) = false := by simpa using hk2
            have d3 : (a.kind == 3) = false := by simpa using hk3
            have KW : L.within a.kind 1 3 = false := by simp [L.within]; omega
            have HE := hide (show (L.stepR each more s a).bad = true by unfold L.stepR; rw [if_neg hk1, if_neg hk2, if_neg hk3])
            clear hk1 hk2 hk3
            go_wp2_with (go_at_call 57; refine (refWithin_any _ _ _ _).mono ?_; rintro e w4 ⟨rfl, rfl⟩; rw [KW])
            refine bodyPost_ret (v := .tuple #[.slice none 0 0, .agg #[.int .i64 0, .int .i64 0], .int .i64 23]) (refRun_results (blk_set (blk_set GQ1.out 0 (.int .i64 0)) 1 (.int .i64 0)) rfl rfl rfl rfl) rfl ?_
            exact run_bad (HBADX.out HE.out) (zbS (zbS GB1.out hwq _) hwq _)
    · have hin : i = n := by omega
      subst hin
      have HALL := hide (show L.runR each more l = s by unfold L.runR; rw [← HS.out, List.take_of_length_le (by have := HN.out; omega)])
      have HGOOD := hide (show L.runBad each more l = false by unfold L.runBad; rw [HRO.out, HALL.out, HSB.out]; rfl)
      have hq2 := HQ.out
      have cq0 := (blk_cell hq2 0).trans rfl; have cq1 := (blk_cell hq2 1).trans rfl
      have fq0 := blk_frozen hq2 0; have fq1 := blk_frozen hq2 1
      have hS : (fun w' => q < w'.heap.size ∧ w'.frozen? ⟨q, 0, none⟩ = false ∧ w'.frozen? ⟨q, 1, none⟩ = false ∧ w'.cell? ⟨q, 0, none⟩ = some (.int .i64 s.l0) ∧ w'.cell? ⟨q, 1, none⟩ = some (.int .i64 s.l1)) wr := ⟨lqr, fq0, fq1, cq0, cq1⟩
      clear hq2
      go_upto_region 21 with fail
      (try dsimp only at hS)
      refine wp_region_held_drew (S := (fun w' => q < w'.heap.size ∧ w'.frozen? ⟨q, 0, none⟩ = false ∧ w'.frozen? ⟨q, 1, none⟩ = false ∧ w'.cell? ⟨q, 0, none⟩ = some (.int .i64 s.l0) ∧ w'.cell? ⟨q, 1, none⟩ = some (.int .i64 s.l1))) (by kernel_rfl) ?_ (fun hHeld0 => ?_)
      · (try dsimp only); (first | (go_keep; done) | (go_split_ands; (repeat' apply And.intro) <;> first | (go_keep; done) | (simp [*, zcA, zcP, zfA, zfP]; done) | (simp [zcA, zcP] <;> rfl) | (simp [*, zsS, zsO, zsA]; done) | ((first | refine (hc _ _ ?_).trans ?_ | refine (hf _ _ ?_).trans ?_) <;> first | assumption | (simp; done) | (simp; omega) | omega | (go_keep; done) | (simp [*, zcA, zcP, zfA, zfP]; done) | (simp [zcA, zcP]; rfl)) | (repeat' first | exact zbR _ _ | assumption | refine zbD ?_ | refine zbA ?_ ?_ _ | refine zbS ?_ ?_ _ | refine zbT ?_ (by assumption) ?_ | (simp; done) | (simp; omega) | omega)))
      refine tL (v := ?_) 0 rfl (by kernel_rfl) (fun _ _ _ h => h) (Or.inl ⟨by rfl, ?_⟩) (by assumption) ?_; rotate_left
      · (intro w hSw; (try dsimp only at hSw); go_simp; try with_reducible rfl)
      try simp only [Act.put, zl, z0, z1]
      refine tL (v := ?_) 1 rfl (by kernel_rfl) (fun _ _ _ h => h) (Or.inl ⟨by rfl, ?_⟩) (by assumption) ?_; rotate_left
      · (intro w hSw; (try dsimp only at hSw); go_simp; try with_reducible rfl)
      try simp only [Act.put, zl, z0, z1]
      refine tL (v := ?_) 2 rfl (by kernel_rfl) (fun _ _ _ h => h) (Or.inl ⟨by rfl, ?_⟩) (by assumption) ?_; rotate_left
      · (intro w hSw; (try dsimp only at hSw); go_simp; try with_reducible rfl)
      try simp only [Act.put, zl, z0, z1]
      refine wpAnyH_ready (rs := [3]) (by kernel_rfl) (by simp) ?_
      refine consL 3 rfl (fun K hK => ?_) AllReadyH.nil
      go_simp
      refine hK.out _ _ ?_ (fun hHeld1 => ?_)
      · (try dsimp only); (first | (go_keep; done) | (go_split_ands; (repeat' apply And.intro) <;> first | (go_keep; done) | (simp [*, zcA, zcP, zfA, zfP]; done) | (simp [zcA, zcP] <;> rfl) | (simp [*, zsS, zsO, zsA]; done) | ((first | refine (hc _ _ ?_).trans ?_ | refine (hf _ _ ?_).trans ?_) <;> first | assumption | (simp; done) | (simp; omega) | omega | (go_keep; done) | (simp [*, zcA, zcP, zfA, zfP]; done) | (simp [zcA, zcP]; rfl)) | (repeat' first | exact zbR _ _ | assumption | refine zbD ?_ | refine zbA ?_ ?_ _ | refine zbS ?_ ?_ _ | refine zbT ?_ (by assumption) ?_ | (simp; done) | (simp; omega) | omega)))
      clear hK K hHeld0
      try simp only [Act.put, zl, z0, z1]
      refine tL (v := ?_) 4 rfl (by kernel_rfl) (fun _ _ _ h => h) (Or.inl ⟨by rfl, ?_⟩) (by assumption) ?_; rotate_left
      · (intro w hSw; (try dsimp only at hSw); go_simp; try with_reducible rfl)
      try simp only [Act.put, zl, z0, z1]
      refine wpAnyH_done (by kernel_rfl) ?_ _
      go_wp2_with fail
      refine bodyPost_ret (v := .tuple #[.slice sv s.ds.length c', .agg #[.int .i64 s.l0, .int .i64 s.l1], .int .i64 0]) (refRun_results (blk_set (blk_set (drew_blk HQ.out) 0 _) 1 _) rfl rfl rfl rfl) rfl ?_
      exact run_good HGOOD.out HALL.out (owns_mono (ownsRow_setCell_below (ownsRow_setCell_below (by exact hown.out) lq _) lq _) (by omega)) (zbS (zbS GBr.out.drew hwq _) hwq _)

theorem refRun_any (each more : Int) (l : List L.Ap) (A : Option Addr) (n c : Nat) (w : World) (hn : l.length = n) (hr : RdA w w.heap.size A l) :
    Calls Try.prog 45 #[.agg #[.int .i64 each, .int .i64 more], .slice A n c] w fun e w' => RunPost each more l w e w' := by
  cases X1 : L.within each 0 9
  · exact refRun_rule1 each more l A n c w hn hr X1
  · cases X2 : L.within more 0 9
    · exact refRun_rule2 each more l A n c w hn hr X1 X2
    · rcases Nat.lt_or_ge 30 n with X3 | X3
      · exact refRun_rule3 each more l A n c w hn hr X1 X2 X3
      · exact refRun_yes each more l A n c w hn hr X1 X2 X3

end Go.Proofs.Ytgnobonhohfofaa

namespace Go.Proofs.Ytgnobonhohfofaa
open Go.RowKit
attribute [local go_sem ↓] Go.wp_at_zero Go.wp_at_succ

def apC (a : L.Ap) : List Value := [.int .i64 a.kind, .int .i64 a.side, .int .i64 a.said, .int .i64 a.v.size, .slice a.A a.n a.c, .int .i64 a.v.wrong, .int .i64 a.v.hxl, .int .i64 a.v.hxh, .int .i64 a.v.hyl, .int .i64 a.v.hyh, .int .i64 a.b.l, .int .i64 a.b.r, .int .i64 a.b.b, .int .i64 a.b.t]
def flatA (l : List L.Ap) : List Value := l.flatMap apC
theorem apC_len (a : L.Ap) : (apC a).length = 14 := rfl
theorem flatA_length : ∀ l : List L.Ap, (flatA l).length = l.length * 14
  | [] => rfl
  | s :: r => by
    have := flatA_length r
    unfold flatA at this ⊢
    rw [List.flatMap_cons, List.length_append, this, apC_len, List.length_cons]
    omega
theorem flatA_at : ∀ {l : List L.Ap} {k : Nat} {a : L.Ap}, l[k]? = some a → ∀ j, j < 14 → (flatA l)[k * 14 + j]? = (apC a)[j]?
  | [], k, a, h, _, _ => by simp at h
  | b :: r, 0, a, h, j, hj => by
    have h' : b = a := Option.some.inj h
    subst h'
    unfold flatA
    rw [List.flatMap_cons, Nat.zero_mul, Nat.zero_add, List.getElem?_append_left (by rw [apC_len]; exact hj)]
  | b :: r, k + 1, a, h, j, hj => by
    have ih := flatA_at (l := r) (k := k) (a := a) h j hj
    unfold flatA at ih ⊢
    rw [List.flatMap_cons, List.getElem?_append_right (by rw [apC_len]; omega), apC_len]
    rw [show (k + 1) * 14 + j - 14 = k * 14 + j by omega]
    exact ih
theorem flatA_one (l : List L.Ap) : ∀ u ∈ flatA l, u.oneCell' = true := by
  intro u hu
  unfold flatA at hu
  obtain ⟨a, _, h⟩ := List.mem_flatMap.1 hu
  simp only [apC, List.mem_cons, List.not_mem_nil, or_false] at h
  obtain rfl | rfl | rfl | rfl | rfl | rfl | rfl | rfl | rfl | rfl | rfl | rfl | rfl | rfl := h <;> rfl
theorem flatA_app (a b : List L.Ap) : flatA (a ++ b) = flatA a ++ flatA b := by unfold flatA; simp
theorem ApAt.at {w : World} {B b o : Nat} {a : L.Ap} (h : ApAt w B b o a) : ∀ j u, (apC a)[j]? = some u → w.cell? ⟨b, o + j, none⟩ = some u
  | 0, u, hj => (h.c0).trans hj
  | 1, u, hj => (h.c1).trans hj
  | 2, u, hj => (h.c2).trans hj
  | 3, u, hj => (h.c3).trans hj
  | 4, u, hj => (h.c4).trans hj
  | 5, u, hj => (h.c5).trans hj
  | 6, u, hj => (h.c6).trans hj
  | 7, u, hj => (h.c7).trans hj
  | 8, u, hj => (h.c8).trans hj
  | 9, u, hj => (h.c9).trans hj
  | 10, u, hj => (h.c10).trans hj
  | 11, u, hj => (h.c11).trans hj
  | 12, u, hj => (h.c12).trans hj
  | 13, u, hj => (h.c13).trans hj
  | j + 14, u, hj => by simp [apC] at hj
theorem apAt_of {w : World} {B b o : Nat} {a : L.Ap} (h : ∀ j, j < 14 → w.cell? ⟨b, o + j, none⟩ = (apC a)[j]?) (h1 : a.v.ss.length = a.n) (h2 : RdS w B a.A a.v.ss) (h3 : a.A = none → a.c = 0) : ApAt w B b o a :=
  ⟨h 0 (by omega), h 1 (by omega), h 2 (by omega), h 3 (by omega), h 4 (by omega), h 5 (by omega), h 6 (by omega), h 7 (by omega), h 8 (by omega), h 9 (by omega), h 10 (by omega), h 11 (by omega), h 12 (by omega), h 13 (by omega), h1, h2, h3⟩
theorem flatA_cells {w : World} {B : Nat} {a : Addr} {l : List L.Ap} (h : RdA w B (some a) l) : ∀ j u, (flatA l)[j]? = some u → w.cell? (a.add j) = some u := by
  intro j u hj
  have hl : j < l.length * 14 := by rw [← flatA_length]; exact (List.getElem?_eq_some_iff.1 hj).1
  obtain ⟨s, hs⟩ : ∃ s, l[j / 14]? = some s := ⟨_, List.getElem?_eq_getElem (by omega)⟩
  obtain ⟨b, o, e, _, hat⟩ := h (j / 14) s hs
  injection e with e
  subst e
  have h1 := flatA_at hs (j % 14) (by omega)
  rw [show j / 14 * 14 + j % 14 = j by omega, hj] at h1
  rw [add_plain]
  have h2 := hat.at (j % 14) u h1.symm
  rw [show o + j / 14 * 14 + j % 14 = o + j by omega] at h2
  exact h2
def ApsIn (w : World) (B : Nat) (l : List L.Ap) : Prop := ∀ a ∈ l, a.v.ss.length = a.n ∧ RdS w B a.A a.v.ss ∧ (a.A = none → a.c = 0)
theorem RdA.ins {w : World} {B : Nat} {A : Option Addr} {l : List L.Ap} (h : RdA w B A l) : ApsIn w B l := fun a ha => by
  obtain ⟨k, hk, e⟩ := List.getElem_of_mem ha
  obtain ⟨b, o, _, _, hat⟩ := h k a (by rw [← e]; exact List.getElem?_eq_getElem hk)
  exact ⟨hat.len, hat.rd, hat.nil⟩
theorem owns_RdA {w : World} {base B : Nat} {A : Option Addr} {n c : Nat} {l : List L.Ap} (h : w.ownsRow base 66 14 (.slice A n c) n (flatA l)) (hn : l.length = n) (hB : B = w.heap.size) (hs : ApsIn w B l) : RdA w B A l := by
  subst hB
  intro k a hk
  have hkl : k < n := by rw [← hn]; exact (List.getElem?_eq_some_iff.1 hk).1
  obtain ⟨g, cap, e, hbg, hh⟩ := h.form (by omega)
  have e' : A = some ⟨g, 0, none⟩ ∧ c = cap := by
    simp only [Value.slice.injEq] at e
    exact ⟨e.1, e.2.2⟩
  obtain ⟨rfl, rfl⟩ := e'
  obtain ⟨h1, h2, h3⟩ := hs a (List.mem_of_getElem? hk)
  refine ⟨g, 0, rfl, (h.lt g rfl).2, apAt_of (fun j hj => ?_) h1 h2 h3⟩
  rw [Nat.zero_add, h.cellAt (k * 14 + j) (by omega)]
  exact flatA_at hk j hj
theorem ap_info : (Try.prog.info? 66).map (fun i => (i.zero, i.size, i.bytes)) = some (some (.agg #[.int .i64 0, .int .i64 0, .int .i64 0, .int .i64 0, .slice none 0 0, .int .i64 0, .int .i64 0, .int .i64 0, .int .i64 0, .int .i64 0, .int .i64 0, .int .i64 0, .int .i64 0, .int .i64 0]), 14, 128) := by kernel_rfl
theorem RdA.none {w : World} {B : Nat} {l : List L.Ap} (h : RdA w B none l) : l = [] := by
  match l, h with
  | [], _ => rfl
  | x :: r, h => obtain ⟨_, _, e, _⟩ := h 0 x rfl; cases e
theorem run_app_aps {w : World} (ty : TypeId) (base : Nat) (v : Value) (ps : List L.Ap) (m0 : Nat) (hown : w.ownsRow base 66 14 v m0 (flatA ps))
    (A : Option Addr) (n c : Nat) (ss : List L.Ap) (hn : ss.length = n) (hr : RdA w w.heap.size A ss) (hA : A = none → c = 0) (h0 : m0 ≤ 1000000) (h1 : n ≤ 1000) (hbase : base ≤ w.heap.size) :
    ∃ A' c' w', (Builtin.append_ #[63, 63] ty #[v, .slice A n c]).run Try.prog w = .ok (.slice A' (m0 + n) c') w' ∧ w'.ownsRow base 66 14 (.slice A' (m0 + n) c') (m0 + n) (flatA (ps ++ ss)) ∧ w.grownBy w' v.ownBlock ∧ ((Value.slice A' (m0 + n) c').ownBlock = v.ownBlock ∨ (Value.slice A' (m0 + n) c').ownBlock = some w.heap.size) := by
  obtain ⟨i, hi, hz0, hz1, hz2⟩ := info_parts ap_info
  rcases A with _ | ad
  · have hx0 : ss = [] := hr.none
    subst hx0
    have hn0 : n = 0 := by simpa using hn.symm
    subst hn0
    have hc0 := hA rfl
    subst hc0
    obtain ⟨A', c', rfl⟩ := own_form hown
    have hrun := run_append_owned_none (P := Try.prog) (w := w) base 63 ty 66 i 14 Try.underlying63 hi (.slice A' m0 c') m0 (flatA ps) hown
    exact ⟨A', c', w, hrun, by simpa using hown, World.grownBy.refl w _, .inl rfl⟩
  · obtain ⟨v', w', hrun, h2, h3, _, h5⟩ := run_append_own_at (P := Try.prog) w base 63 ty 66 i _ 14 128 Try.underlying63 hi hz0 hz1 hz2 (by rfl) (by decide) v m0 (flatA ps) hown ad n c (flatA ss) (by rw [flatA_length]; omega) (flatA_cells hr) (flatA_one ss) (by unfold maxLen; omega) (by omega) hbase
    obtain ⟨A', c', rfl⟩ := own_form h2
    exact ⟨A', c', w', hrun, by rw [flatA_app]; exact h2, h3, h5⟩
theorem wpList_app_aps {w : World} {ops : Array Oper} {rest : List Oper} {o : Oper} {a : Act} {Q : Exit → Act → World → Prop} (hgd : o.guard = none) (s x : Operand)
    (ho : o.op = .call { callee := .builtin .append, args := #[s, x], argTypes := #[63, 63] }) (base : Nat) (v : Value) (ps : List L.Ap) (m0 : Nat) (hs : a.eval s = v) (hown : w.ownsRow base 66 14 v m0 (flatA ps))
    (A : Option Addr) (n c : Nat) (ss : List L.Ap) (hx : a.eval x = .slice A n c) (hn : ss.length = n) (hr : RdA w w.heap.size A ss) (hA : A = none → c = 0) (h0 : m0 ≤ 1000000) (h1 : n ≤ 1000) (hbase : base ≤ w.heap.size) (N : Nat) (hN : m0 + n = N)
    (h : ∀ A' c' w', w'.ownsRow base 66 14 (.slice A' N c') N (flatA (ps ++ ss)) → w.grownBy w' v.ownBlock → ((Value.slice A' N c').ownBlock = v.ownBlock ∨ (Value.slice A' N c').ownBlock = some w.heap.size) → wpList Try.prog ops Q rest (a.put o.dst (.slice A' N c')) w') :
    wpList Try.prog ops Q (o :: rest) a w := by
  subst hN
  refine wpList_plain hgd fun K hK => ?_
  obtain ⟨A', c', w', hr', h2, h3, h4⟩ := run_app_aps o.type base v ps m0 hown A n c ss hn hr hA h0 h1 hbase
  unfold Oper.wp execOp
  simp only [ho, resolve, invoke, builtin, Sem.run_bind, Sem.run_pure, Result.andThen_ok, List.map_toArray, List.map_cons, List.map_nil, hs, hx, hr']
  exact hK _ _ (h A' c' w' h2 h3 h4)
theorem rdA_one {w : World} {q : Nat} {a : L.Ap} (hq : w.heap[q]? = some (.cells #[.int .i64 a.kind, .int .i64 a.side, .int .i64 a.said, .int .i64 a.v.size, .slice a.A a.n a.c, .int .i64 a.v.wrong, .int .i64 a.v.hxl, .int .i64 a.v.hxh, .int .i64 a.v.hyl, .int .i64 a.v.hyh, .int .i64 a.b.l, .int .i64 a.b.r, .int .i64 a.b.b, .int .i64 a.b.t] 66 (0, 0))) (h1 : a.v.ss.length = a.n) (h2 : RdS w w.heap.size a.A a.v.ss) (h3 : a.A = none → a.c = 0) : RdA w w.heap.size (some ⟨q, 0, none⟩) [a] := by
  intro k y hk
  match k, hk with
  | 0, hk =>
    have hy : a = y := Option.some.inj hk
    subst hy
    exact ⟨_, 0, rfl, blk_lt hq, (blk_cell hq 0).trans rfl, (blk_cell hq 1).trans rfl, (blk_cell hq 2).trans rfl, (blk_cell hq 3).trans rfl, (blk_cell hq 4).trans rfl, (blk_cell hq 5).trans rfl, (blk_cell hq 6).trans rfl, (blk_cell hq 7).trans rfl, (blk_cell hq 8).trans rfl, (blk_cell hq 9).trans rfl, (blk_cell hq 10).trans rfl, (blk_cell hq 11).trans rfl, (blk_cell hq 12).trans rfl, (blk_cell hq 13).trans rfl, h1, h2, h3⟩
  | k + 1, hk => cases hk
theorem ApsIn.below {w w' : World} {B : Nat} {l : List L.Ap} (h : ApsIn w B l) (hb : Below B w w') : ApsIn w' B l := fun a ha => ⟨(h a ha).1, (h a ha).2.1.below hb, (h a ha).2.2⟩
theorem ApsIn.mono {w : World} {B B' : Nat} {l : List L.Ap} (h : ApsIn w B l) (hb : B ≤ B') : ApsIn w B' l := fun a ha => ⟨(h a ha).1, (h a ha).2.1.mono hb, (h a ha).2.2⟩
theorem ApsIn.app {w : World} {B : Nat} {l r : List L.Ap} (h : ApsIn w B l) (k : ApsIn w B r) : ApsIn w B (l ++ r) := fun a ha => (List.mem_append.1 ha).elim (h a) (k a)

end Go.Proofs.Ytgnobonhohfofaa

namespace Go.Proofs.Ytgnobonhohfofaa
open Go.RowKit
attribute [local go_sem ↓] Go.wp_at_zero Go.wp_at_succ

theorem run_eqA (a b c d : Int) (w : World) :
    (Op.equalIn 10000 64 (.agg #[.int .i64 a, .int .i64 b]) (.agg #[.int .i64 c, .int .i64 d])).run Try.prog w = .ok (a == c && b == d) w := by
  obtain ⟨i, hi⟩ : ∃ i, Try.prog.info? 3 = some i := Option.isSome_iff_exists.1 (by kernel_rfl)
  have hu : Try.prog.underlying 64 = some (.array 2 3) := by kernel_rfl
  have hc : Try.prog.cellsOf 3 = 1 := by kernel_rfl
  have hd := run_equalIn_array (P := Try.prog) w 9999 #[.int .i64 a, .int .i64 b] #[.int .i64 c, .int .i64 d] hu hi
  rw [show 9999 + 1 = 10000 from rfl] at hd
  rw [hd, hc]
  simp only [show List.range 2 = [0, 1] from rfl, Op.eqItems]
  by_cases h1 : a = c
  · by_cases h2 : b = d
    · simp [go_sem, h1, h2, Try.underlying3]
    · simp [go_sem, h1, h2, Try.underlying3]
  · simp [go_sem, h1, Try.underlying3]
attribute [local go_sem] run_eqA

namespace L
def core (a : Ap) : Ap := { a with A := none, c := 0 }
theorem stepR_core {each more : Int} {s : Rs} {a b : Ap} (h : core a = core b) : stepR each more s a = stepR each more s b := by
  obtain ⟨k, sd, sa, v, A, n, c, bx⟩ := a
  obtain ⟨k', sd', sa', v', A', n', c', bx'⟩ := b
  simp only [core, Ap.mk.injEq, true_and] at h
  obtain ⟨rfl, rfl, rfl, rfl, rfl, rfl⟩ := h
  rfl
theorem runFrom_core {each more : Int} : ∀ {l r : List Ap} {s : Rs}, l.map core = r.map core → runFrom each more s l = runFrom each more s r
  | [], [], s, _ => rfl
  | [], b :: r, s, h => by simp at h
  | a :: l, [], s, h => by simp at h
  | a :: l, b :: r, s, h => by
    simp only [List.map_cons, List.cons.injEq] at h
    simp only [runFrom]
    rw [stepR_core h.1, runFrom_core h.2]
theorem runD_le (each more : Int) (l : List Ap) : (runD each more l).length ≤ l.length := by
  unfold runD
  split
  · simp
  · have := runFrom_len (each := each) (more := more) (l := l) (s := rs0)
    simpa [rs0, runR] using this
end L
theorem runPost_core {each more : Int} {l r : List L.Ap} {w w' : World} {e : Ending} (h : l.map L.core = r.map L.core) (hp : RunPost each more l w e w') : RunPost each more r w e w' := by
  have hl : l.length = r.length := by simpa using congrArg List.length h
  have e0 : L.runR each more l = L.runR each more r := L.runFrom_core h
  have e1 : L.runBad each more l = L.runBad each more r := by unfold L.runBad; rw [e0, hl]
  unfold RunPost L.runD L.runL L.runE at hp ⊢
  rw [e0, e1] at hp
  exact hp
theorem rdS_keeps {S : Nat → Prop} {w w' : World} {B : Nat} {A : Option Addr} {ss : List L.St} (h : RdS w B A ss) (hk : Keeps S w w') (hB : B ≤ w.heap.size) (hS : ∀ b o, A = some ⟨b, o, none⟩ → S b) : RdS w' B A ss := fun k s hs => by
  obtain ⟨b, o, hA, hlt, h0, h1, h2, h3⟩ := h k s hs
  have z := hS b o hA
  have hl : b < w.heap.size := by omega
  exact ⟨b, o, hA, hlt, (hk.cell z hl).trans h0, (hk.cell z hl).trans h1, (hk.cell z hl).trans h2, (hk.cell z hl).trans h3⟩
theorem Keeps.of_grown {w w' : World} {row : Option Nat} (h : w.grownBy w' row) : Keeps (fun y => row ≠ some y) w w' :=
  ⟨⟨h.os, h.tape, h.output, h.size, fun i hi => absurd hi (Nat.not_lt_zero _)⟩, fun k hk hl => h.block k hl (fun e => hk e.symm)⟩
theorem grown_set (w : World) (a : Addr) (u : Value) : w.grownBy (w.setCell a u) (some a.block) := by
  have k := Keeps.setAt (S := fun y => y ≠ a.block) w a u (fun h => h rfl)
  exact ⟨k.rest.os, k.rest.tape, k.rest.output, k.rest.size, fun i hi hne => k.same i (fun e => hne (by rw [e])) hi⟩
theorem owns_set {w : World} {base : Nat} {e : TypeId} {size : Nat} {v : Value} {n : Nat} {xs : List Value} (h : w.ownsRow base e size v n xs) {a : Addr} (hne : v.ownBlock ≠ some a.block) (u : Value) : (w.setCell a u).ownsRow base e size v n xs :=
  h.kept (grown_set w a u) (.inr hne)
def ApOwn (w : World) (row : Option Nat) (l : List L.Ap) : Prop := ∀ a ∈ l, a.v.ss.length = a.n ∧ RdS w w.heap.size a.A a.v.ss ∧ (a.A = none → a.c = 0) ∧ ∀ b o, a.A = some ⟨b, o, none⟩ → row ≠ some b ∧ b < w.heap.size
theorem ApOwn.keeps {S : Nat → Prop} {w w' : World} {row row' : Option Nat} {l : List L.Ap} (h : ApOwn w row l) (hk : Keeps S w w') (hS : ∀ b, b < w.heap.size → row ≠ some b → S b ∧ row' ≠ some b) : ApOwn w' row' l := fun a ha => by
  obtain ⟨h1, h2, h3, h4⟩ := h a ha
  exact ⟨h1, (rdS_keeps h2 hk (Nat.le_refl _) (fun b o e => (hS b (h4 b o e).2 (h4 b o e).1).1)).mono hk.rest.size, h3, fun b o e => ⟨(hS b (h4 b o e).2 (h4 b o e).1).2, Nat.lt_of_lt_of_le (h4 b o e).2 hk.rest.size⟩⟩

set_option maxRecDepth 100000 in
set_option maxHeartbeats 6400000 in
theorem runsLaw_many (each more : Int) (A : Option Addr) (n c : Nat) (w : World) (h : 40 < n) :
    Calls Try.prog 14 #[.agg #[.int .i64 each, .int .i64 more], .slice A n c] w fun e w' => e = .returned (.bool true) ∧ Below w.heap.size w w' := by
  have h' : (40 : Int) < (n : Int) := by omega
  go_enter Try.func14, Try.ntmps14
  go_wp2_with (go_at_call 16; refine (works_any _).mono ?_; rintro e w19 ⟨rfl, hb19⟩)
  go_ret
  exact ⟨rfl, by (repeat' first | exact zbR _ _ | assumption | refine zbD ?_ | refine zbA ?_ ?_ _ | refine zbS ?_ ?_ _ | refine zbT ?_ (by assumption) ?_ | (simp; done) | (simp; omega) | omega)⟩

set_option maxRecDepth 100000 in
set_option maxHeartbeats 6400000 in
theorem runsLaw_few (each more : Int) (l : List L.Ap) (A : Option Addr) (n c : Nat) (w : World) (hn : l.length = n) (hr : RdA w w.heap.size A l) (h40 : n ≤ 40) :
    Calls Try.prog 14 #[.agg #[.int .i64 each, .int .i64 more], .slice A n c] w fun e w' => e = .returned (.bool true) ∧ Below w.heap.size w w' := by
  have HN := hide hn
  have HR := hide hr
  have hn40 : (n : Int) ≤ 40 := by omega
  obtain ⟨y1, hy1⟩ : ∃ y, (L.runL each more l).1 = y := ⟨_, rfl⟩
  obtain ⟨y2, hy2⟩ : ∃ y, (L.runL each more l).2 = y := ⟨_, rfl⟩
  obtain ⟨y3, hy3⟩ : ∃ y, L.runE each more l = y := ⟨_, rfl⟩
  have H1 := hide hy1
  have H2 := hide hy2
  have H3 := hide hy3
  clear hn hr hy1 hy2 hy3
  go_enter Try.func14, Try.ntmps14
  go_upto_region 1 with fail
  obtain ⟨W0, hW0⟩ : ∃ W0, w.alloc (.cells #[.int .i64 each, .int .i64 more] 62) = W0 := ⟨_, rfl⟩
  have gp : W0.heap[w.heap.size]? = some (.cells #[.int .i64 each, .int .i64 more] 62 (0, 0)) := by rw [← hW0]; exact World.alloc_heap_new _ _
  have gs : W0.heap.size = w.heap.size + 1 := by rw [← hW0]; simp
  have gB : Below w.heap.size w W0 := by rw [← hW0]; (repeat' first | exact zbR _ _ | assumption | refine zbD ?_ | refine zbA ?_ ?_ _ | refine zbS ?_ ?_ _ | refine zbT ?_ (by assumption) ?_ | (simp; done) | (simp; omega) | omega)
  rw [hW0]
  clear hW0
  obtain ⟨p, hp⟩ : ∃ p, w.heap.size = p := ⟨_, rfl⟩
  rw [hp]
  rw [hp] at gp
  have lp : p < W0.heap.size := by omega
  have HR0 := hide ((HR.out.below gB).mono (B' := W0.heap.size) gB.size)
  have GB := hide gB
  have GP := hide gp
  clear gp gB HR hp gs
  go_upto_region 5 with fail
  go_loopw [5, 6] (fun m t wr => ∃ i : Nat, i ≤ n ∧ t = .int .i64 i ∧ (∃ (own : List L.Ap) (sv : Option Addr) (c' : Nat), m = .slice sv i c' ∧ Hid (own.map L.core = (l.take i).map L.core) ∧ Hid (wr.ownsRow W0.heap.size 66 14 (.slice sv i c') i (flatA own)) ∧ Hid (ApOwn wr (Value.slice sv i c').ownBlock own)) ∧ Below W0.heap.size W0 wr) (fun _ t _ => n - (intOf t).toNat)
  case atStart => exact ⟨0, by omega, rfl, ⟨[], none, 0, rfl, hide rfl, hide (World.ownsRow_nil _ _ _ _), hide (fun a ha => by cases ha)⟩, Below.refl _ _⟩
  case round =>
    obtain ⟨i, hi, rfl, ⟨own, sv, c', rfl, HC, hown, HOS⟩, hB⟩ := hrel
    have qB := hB.size
    have hi0 : (0 : Int) ≤ (i : Int) := by omega
    have lpr : p < wr.heap.size := by omega
    have GBr := hide (GB.out.trans (hB.mono GB.out.size))
    by_cases hlt : i < n
    · obtain ⟨a, ha⟩ : ∃ a, l[i]? = some a := ⟨_, List.getElem?_eq_getElem (by have := HN.out; omega)⟩
      obtain ⟨b, o, hA, hbB, hat⟩ := (HR0.out.below hB) i a ha
      subst hA
      have hlt' : (i : Int) < (n : Int) := by omega
      have HATO := hide hat
      obtain ⟨c0, c1, c2, c3, c4, c5, c6, c7, c8, c9, c10, c11, c12, c13, hlen, hrd, hnil⟩ := hat
      have HLEN := hide hlen
      have HNIL := hide hnil
      have HRD := hide (hrd.mono (B' := wr.heap.size) qB)
      have HTK := hide (show (l.take (i + 1)).map L.core = (l.take i).map L.core ++ [L.core a] by rw [List.take_add_one, ha, Option.toList_some, List.map_append]; rfl)
      have lbr : b < wr.heap.size := by omega
      clear ha hlen hrd hnil
      cases hf : L.farB a.v
      · have HF := hide hf
        have ha40 : a.n ≤ 1000 := by have := (L.farB_no hf).1; have := HLEN.out; omega
        clear hf
        go_upto_region 9 with (go_at_call 28; refine (Far_any a.v a.A a.n a.c _ HLEN.out ((HRD.out.below (by (repeat' first | exact zbR _ _ | assumption | refine zbD ?_ | refine zbA ?_ ?_ _ | refine zbS ?_ ?_ _ | refine zbT ?_ (by assumption) ?_ | (simp; done) | (simp; omega) | omega))).mono (by first | (simp; done) | (simp; omega) | omega))).mono ?_; rintro e w2 ⟨rfl, hb2⟩; rw [HF.out])
        have q2 := hb2.size
        have HAT2 := hide (HATO.out.mono (B' := wr.heap.size) qB |>.below lbr hb2)
        obtain ⟨d0, d1, d2, d3, d4, d5, d6, d7, d8, d9, d10, d11, d12, d13, hl2, hrd2, hn2⟩ := HAT2.out
        have HRD2 := hide (hrd2.mono (B' := w2.heap.size) q2)
        have lb2 : b < w2.heap.size := by omega
        clear c0 c1 c2 c3 c4 c5 c6 c7 c8 c9 c10 c11 c12 c13 hrd2 hl2 hn2
        go_upto_region 10 with fail
        obtain ⟨W1, hW1⟩ : ∃ W1, w2.alloc (.cells #[.int .i64 a.kind, .int .i64 a.side, .int .i64 a.said, .int .i64 a.v.size, .slice a.A a.n a.c, .int .i64 a.v.wrong, .int .i64 a.v.hxl, .int .i64 a.v.hxh, .int .i64 a.v.hyl, .int .i64 a.v.hyh, .int .i64 a.b.l, .int .i64 a.b.r, .int .i64 a.b.b, .int .i64 a.b.t] 66) = W1 := ⟨_, rfl⟩
        have gk : W1.heap[w2.heap.size]? = some (.cells #[.int .i64 a.kind, .int .i64 a.side, .int .i64 a.said, .int .i64 a.v.size, .slice a.A a.n a.c, .int .i64 a.v.wrong, .int .i64 a.v.hxl, .int .i64 a.v.hxh, .int .i64 a.v.hyl, .int .i64 a.v.hyh, .int .i64 a.b.l, .int .i64 a.b.r, .int .i64 a.b.b, .int .i64 a.b.t] 66 (0, 0)) := by rw [← hW1]; exact World.alloc_heap_new _ _
        have gB1 : Below w2.heap.size w2 W1 := by rw [← hW1]; (repeat' first | exact zbR _ _ | assumption | refine zbD ?_ | refine zbA ?_ ?_ _ | refine zbS ?_ ?_ _ | refine zbT ?_ (by assumption) ?_ | (simp; done) | (simp; omega) | omega)
        have gs1 : W1.heap.size = w2.heap.size + 1 := by rw [← hW1]; simp
        rw [hW1]
        clear hW1 d0 d1 d2 d3 d4 d5 d6 d7 d8 d9 d10 d11 d12 d13 HAT2 HATO
        obtain ⟨k, hk⟩ : ∃ k, w2.heap.size = k := ⟨_, rfl⟩
        have lk : k < W1.heap.size := by omega
        have hrk : wr.heap.size ≤ k := by omega
        have HRD1 := hide ((HRD2.out.below gB1).mono (B' := W1.heap.size) (by omega))
        have HB1 := hide ((hb2.trans (gB1.mono q2)))
        rw [hk] at gk ⊢
        have GK := hide gk
        have ck0 := (blk_cell gk 0).trans rfl; have ck1 := (blk_cell gk 1).trans rfl; have ck2 := (blk_cell gk 2).trans rfl; have ck3 := (blk_cell gk 3).trans rfl; have ck4 := (blk_cell gk 4).trans rfl; have ck5 := (blk_cell gk 5).trans rfl; have ck6 := (blk_cell gk 6).trans rfl; have ck7 := (blk_cell gk 7).trans rfl; have ck8 := (blk_cell gk 8).trans rfl; have ck9 := (blk_cell gk 9).trans rfl; have ck10 := (blk_cell gk 10).trans rfl; have ck11 := (blk_cell gk 11).trans rfl; have ck12 := (blk_cell gk 12).trans rfl; have ck13 := (blk_cell gk 13).trans rfl
        clear gk gB1 gs1 hb2 q2 hk HRD2 lb2
        go_upto_region 11 with (go_at_call 26; refine (Copy_any a.v a.A a.n a.c _ HLEN.out ((HRD1.out.below (by (repeat' first | exact zbR _ _ | assumption | refine zbD ?_ | refine zbA ?_ ?_ _ | refine zbS ?_ ?_ _ | refine zbT ?_ (by assumption) ?_ | (simp; done) | (simp; omega) | omega))).mono (by first | (simp; done) | (simp; omega) | omega)) HNIL.out ha40).mono ?_; rintro e w3 ⟨A1, c1, rfl, hown3, hb3⟩; have bk3 := (hb3.block k lk).trans GK.out; have e30 := (blk_cell bk3 3).trans rfl; have e31 := (blk_cell bk3 4).trans rfl; have e32 := (blk_cell bk3 5).trans rfl; have e33 := (blk_cell bk3 6).trans rfl; have e34 := (blk_cell bk3 7).trans rfl; have e35 := (blk_cell bk3 8).trans rfl; have e36 := (blk_cell bk3 9).trans rfl; have f30 := blk_frozen bk3 3; have f31 := blk_frozen bk3 4; have f32 := blk_frozen bk3 5; have f33 := blk_frozen bk3 6; have f34 := blk_frozen bk3 7; have f35 := blk_frozen bk3 8; have f36 := blk_frozen bk3 9; have q3 := hb3.size; have z3k : k < w3.heap.size := (by omega))
        obtain ⟨W4, hW4⟩ : ∃ W4, World.setCell (World.setCell (World.setCell (World.setCell (World.setCell (World.setCell (World.setCell w3 ⟨k, 3, none⟩ (.int .i64 a.v.size)) ⟨k, 4, none⟩ (.slice A1 a.n c1)) ⟨k, 5, none⟩ (.int .i64 a.v.wrong)) ⟨k, 6, none⟩ (.int .i64 a.v.hxl)) ⟨k, 7, none⟩ (.int .i64 a.v.hxh)) ⟨k, 8, none⟩ (.int .i64 a.v.hyl)) ⟨k, 9, none⟩ (.int .i64 a.v.hyh) = W4 := ⟨_, rfl⟩
        have gk4 : W4.heap[k]? = some (.cells #[.int .i64 a.kind, .int .i64 a.side, .int .i64 a.said, .int .i64 a.v.size, .slice A1 a.n c1, .int .i64 a.v.wrong, .int .i64 a.v.hxl, .int .i64 a.v.hxh, .int .i64 a.v.hyl, .int .i64 a.v.hyh, .int .i64 a.b.l, .int .i64 a.b.r, .int .i64 a.b.b, .int .i64 a.b.t] 66 (0, 0)) := by rw [← hW4]; exact blk_set (blk_set (blk_set (blk_set (blk_set (blk_set (blk_set bk3 3 _) 4 _) 5 _) 6 _) 7 _) 8 _) 9 _
        have K4 : Keeps (fun y => y ≠ k) w3 W4 := by rw [← hW4]; exact (((((((Keeps.refl _ w3).st (fun h => h rfl)).st (fun h => h rfl)).st (fun h => h rfl)).st (fun h => h rfl)).st (fun h => h rfl)).st (fun h => h rfl)).st (fun h => h rfl)
        have hOlt : ∀ g, (Value.slice sv i c').ownBlock = some g → W0.heap.size ≤ g ∧ g < wr.heap.size := fun g hg => hown.out.lt g hg
        have hrne : (Value.slice sv i c').ownBlock ≠ some k := fun e => by have := hOlt k e; omega
        have gO4 : W4.ownsRow W0.heap.size 66 14 (.slice sv i c') i (flatA own) := by
          rw [← hW4]
          have h1 : Below wr.heap.size wr w3 := HB1.out.trans (hb3.mono (by have := HB1.out.size; omega))
          have := owns_below hown.out h1
          exact owns_set (owns_set (owns_set (owns_set (owns_set (owns_set (owns_set (this) hrne _) hrne _) hrne _) hrne _) hrne _) hrne _) hrne _
        have KR : Keeps (fun y => y < wr.heap.size) wr W4 := by
          have h1 : Below wr.heap.size wr w3 := HB1.out.trans (hb3.mono (by have := HB1.out.size; omega))
          exact (Keeps.of_below h1).trans (K4.less (fun y hy => by show y ≠ k; omega))
        have gA4 : ApOwn W4 (Value.slice sv i c').ownBlock own := HOS.out.keeps KR (fun b hb hne => ⟨hb, hne⟩)
        have hA1 : ∀ b o, A1 = some ⟨b, o, none⟩ → (Value.slice sv i c').ownBlock ≠ some b ∧ b < W4.heap.size ∧ b ≠ k := fun b o e => by
          have h1 := hown3.lt b (by rw [e]; rfl)
          have h2 := K4.rest.size
          exact ⟨fun e' => by have := hOlt b e'; omega, by omega, by omega⟩
        have gN4 : RdS W4 W4.heap.size A1 a.v.ss := (rdS_keeps (owns_RdS hown3 HLEN.out) K4 (Nat.le_refl _) (fun b o e => (hA1 b o e).2.2)).mono K4.rest.size
        have gN0 : A1 = none → c1 = 0 := fun e => by
          rcases hown3.2 with ⟨h, _⟩ | ⟨g, cap, cur, h, _⟩
          · simp only [Value.slice.injEq] at h; exact h.2.2
          · simp only [Value.slice.injEq] at h; rw [e] at h; cases h.1
        have gB4 : Below W0.heap.size W0 W4 := hB.trans (KR.below (n := W0.heap.size) (fun y hy => by show y < wr.heap.size; omega) qB)
        rw [hW4]
        clear hW4 e30 e31 e32 e33 e34 e35 e36 f30 f31 f32 f33 f34 f35 f36 bk3 ck0 ck1 ck2 ck3 ck4 ck5 ck6 ck7 ck8 ck9 ck10 ck11 ck12 ck13 hb3 q3 z3k hown3 K4 GK
        have ck0 := (blk_cell gk4 0).trans rfl; have ck1 := (blk_cell gk4 1).trans rfl; have ck2 := (blk_cell gk4 2).trans rfl; have ck3 := (blk_cell gk4 3).trans rfl; have ck4 := (blk_cell gk4 4).trans rfl; have ck5 := (blk_cell gk4 5).trans rfl; have ck6 := (blk_cell gk4 6).trans rfl; have ck7 := (blk_cell gk4 7).trans rfl; have ck8 := (blk_cell gk4 8).trans rfl; have ck9 := (blk_cell gk4 9).trans rfl; have ck10 := (blk_cell gk4 10).trans rfl; have ck11 := (blk_cell gk4 11).trans rfl; have ck12 := (blk_cell gk4 12).trans rfl; have ck13 := (blk_cell gk4 13).trans rfl
        have lk4 := blk_lt gk4
        have HO4 := hide gO4
        have HA4 := hide gA4
        have HN4 := hide gN4
        have HN0 := hide gN0
        have HAB := hide hA1
        have HB4 := hide gB4
        have q4 := gB4.size
        have HNEW := hide (show (own ++ [{ a with A := A1, c := c1 }]).map L.core = (l.take (i + 1)).map L.core by rw [HTK.out, List.map_append, HC.out]; rfl)
        clear gk4 gO4 gA4 gN4 gN0 gB4 hA1 hOlt hrne KR HOS hown HRD1 HRD HB1
        go_wp2_with (refine wpList_app_aps rfl (.tmp 39) (.tmp 41) rfl W0.heap.size _ own i rfl (HO4.out.alloc _) (some ⟨_, 0, none⟩) 1 1 [{ a with A := A1, c := c1 }] rfl rfl (rdA_one (a := { a with A := A1, c := c1 }) (World.alloc_heap_new _ _) HLEN.out ((HN4.out.below ((Below.refl _ _).alloc (Nat.le_refl _) _)).mono (by simp)) HN0.out) (fun e => by cases e) (by omega) (by omega) (by simp; omega) (i + 1) rfl ?_; intro A7 c7 w7 hown7 hgrow hblk; have hg7 := grown_below (B := W0.heap.size) hgrow (by simp; omega) (fun g hg => (HO4.out.lt g hg).1); have HO7 := hide hown7; have HG7 := hide hgrow; have HK7 := hide hblk; clear hown7 hgrow hblk)
        go_roundw
        case rel =>
          refine ⟨i + 1, by omega, by go_num, ⟨_, A7, c7, rfl, HNEW, HO7, hide ?_⟩, (HB4.out.trans ((Below.refl _ _).alloc q4 _)).trans hg7⟩
          have KA : Keeps (fun y => (Value.slice sv i c').ownBlock ≠ some y) W4 w7 := (Keeps.of_below ((Below.refl _ _).alloc (Nat.le_refl _) _)).trans (Keeps.of_grown HG7.out)
          have hnew : ∀ b, b < W4.heap.size → (Value.slice sv i c').ownBlock ≠ some b → (Value.slice A7 (i + 1) c7).ownBlock ≠ some b := fun b hb hne e => by
            rcases HK7.out with h | h
            · rw [h] at e; exact hne e
            · rw [h] at e
              injection e with e
              simp at e
              omega
          intro x hx
          rcases List.mem_append.1 hx with hx | hx
          · exact HA4.out.keeps KA (fun b hb hne => ⟨hne, hnew b hb hne⟩) x hx
          · obtain rfl := List.mem_singleton.1 hx
            exact ⟨HLEN.out, (rdS_keeps HN4.out KA (Nat.le_refl _) (fun b o e => (HAB.out b o e).1)).mono KA.rest.size, HN0.out, fun b o e => ⟨hnew b (HAB.out b o e).2.1 (HAB.out b o e).1, Nat.lt_of_lt_of_le (HAB.out b o e).2.1 KA.rest.size⟩⟩
        case measure => simp [intOf]; omega
      · have HF := hide hf
        clear hf
        go_wp2_with (first | (go_at_call 28; refine (Far_any a.v a.A a.n a.c _ HLEN.out ((HRD.out.below (by (repeat' first | exact zbR _ _ | assumption | refine zbD ?_ | refine zbA ?_ ?_ _ | refine zbS ?_ ?_ _ | refine zbT ?_ (by assumption) ?_ | (simp; done) | (simp; omega) | omega))).mono (by first | (simp; done) | (simp; omega) | omega))).mono ?_; rintro e w2 ⟨rfl, hb2⟩; rw [HF.out]) | (go_at_call 16; refine (works_any _).mono ?_; rintro e w19 ⟨rfl, hb19⟩))
        go_ret
        exact ⟨rfl, (GBr.out.trans (hb2.mono (by have := GBr.out.size; omega))).trans (hb19.mono (by have := GBr.out.size; have := hb2.size; omega))⟩
    · have hin : i = n := by omega
      subst hin
      have HSAME := hide (show own.map L.core = l.map L.core by rw [HC.out, List.take_of_length_le (by have := HN.out; omega)])
      have hol : own.length = i := by have := congrArg List.length HSAME.out; simp only [List.length_map] at this; have := HN.out; omega
      have HRO := hide (owns_RdA hown.out hol rfl (fun a ha => ⟨(HOS.out a ha).1, (HOS.out a ha).2.1, (HOS.out a ha).2.2.1⟩))
      have HOL := hide hol
      have HRL := hide ((HR0.out.below hB).mono (B' := wr.heap.size) qB)
      have bp := (hB.block p lp).trans GP.out
      have cp0 := (blk_cell bp 0).trans rfl; have cp1 := (blk_cell bp 1).trans rfl
      clear bp hol
      go_wp2_with (first | (go_at_call 33; refine (Run_any each more own sv _ c' _ HOL.out ((HRO.out.below (by (repeat' first | exact zbR _ _ | assumption | refine zbD ?_ | refine zbA ?_ ?_ _ | refine zbS ?_ ?_ _ | refine zbT ?_ (by assumption) ?_ | (simp; done) | (simp; omega) | omega))).mono (by first | (simp; done) | (simp; omega) | omega))).mono ?_; rintro e w8 hpost; obtain ⟨sv8, c8, rfl, hown8, hb8⟩ := runPost_core HSAME.out hpost; rw [H1.out, H2.out, H3.out]; have HI8 := hide (owns_RdI hown8 rfl); clear hown8 hpost; obtain ⟨hc8, hf8⟩ := bcell hb8; have q8 := hb8.size; (try simp only [World.size_alloc] at q8); have z8_p : p < w8.heap.size := (by omega)) | (go_at_call 45; refine (refRun_any each more l A _ c _ HN.out ((HRL.out.below (by (repeat' first | exact zbR _ _ | assumption | refine zbD ?_ | refine zbA ?_ ?_ _ | refine zbS ?_ ?_ _ | refine zbT ?_ (by assumption) ?_ | (simp; done) | (simp; omega) | omega))).mono (by first | (simp; done) | (simp; omega) | omega))).mono ?_; rintro e w9 ⟨sv9, c9, rfl, hown9, hb9⟩; rw [H1.out, H2.out, H3.out]; have HI9 := hide (owns_RdI hown9 rfl); clear hown9; obtain ⟨hc9, hf9⟩ := bcell hb9; have q9 := hb9.size; (try simp only [World.size_alloc] at q9); have z9_p : p < w9.heap.size := (by omega); have zn98 : w8.heap.size < w9.heap.size := (by omega)) | (go_at_call 34; refine (sameInts_any sv8 sv9 _ c8 c9 (L.runD each more l) _ rfl ((HI8.out.below (by (repeat' first | exact zbR _ _ | assumption | refine zbD ?_ | refine zbA ?_ ?_ _ | refine zbS ?_ ?_ _ | refine zbT ?_ (by assumption) ?_ | (simp; done) | (simp; omega) | omega))).mono (by first | (simp; done) | (simp; omega) | omega)) ((HI9.out.below (by (repeat' first | exact zbR _ _ | assumption | refine zbD ?_ | refine zbA ?_ ?_ _ | refine zbS ?_ ?_ _ | refine zbT ?_ (by assumption) ?_ | (simp; done) | (simp; omega) | omega))).mono (by first | (simp; done) | (simp; omega) | omega)) (by have := L.runD_le each more l; have := HN.out; omega)).mono ?_; rintro e w10 ⟨rfl, hb10⟩; obtain ⟨hc10, hf10⟩ := bcell hb10; have q10 := hb10.size; (try simp only [World.size_alloc] at q10); have z10_p : p < w10.heap.size := (by omega); have zn108 : w8.heap.size < w10.heap.size := (by omega); have zn109 : w9.heap.size < w10.heap.size := (by omega)) | (go_at_call 16; refine (works_any _).mono ?_; rintro e w19 ⟨rfl, hb19⟩))
      go_ret
      exact ⟨rfl, GBr.out.trans ((show Below wr.heap.size wr _ by (repeat' first | exact zbR _ _ | assumption | refine zbD ?_ | refine zbA ?_ ?_ _ | refine zbS ?_ ?_ _ | refine zbT ?_ (by assumption) ?_ | (simp; done) | (simp; omega) | omega)).mono GBr.out.size)⟩

theorem runsLaw_any (each more : Int) (l : List L.Ap) (A : Option Addr) (n c : Nat) (w : World) (hn : l.length = n) (hr : RdA w w.heap.size A l) :
    Calls Try.prog 14 #[.agg #[.int .i64 each, .int .i64 more], .slice A n c] w fun e w' => e = .returned (.bool true) ∧ Below w.heap.size w w' := by
  rcases Nat.lt_or_ge 40 n with h | h
  · exact runsLaw_many each more A n c w h
  · exact runsLaw_few each more l A n c w hn hr h

end Go.Proofs.Ytgnobonhohfofaa

namespace Go.Proofs.Ytgnobonhohfofaa
open Go.ChangeShapes Go.WideShapes Go.ChangeAt Go.RowKit Go.Deep Go.Joins

theorem boxCells : Try.prog.cellsOf 28 = 4 := by kernel_rfl
theorem appealCells : Try.prog.cellsOf 66 = 14 := by kernel_rfl
section
variable {H : Type} {enc : TypeId × Value → H} {w : World} {base : Nat} {spare : Nat → Bool} {held : Bool}
set_option maxRecDepth 100000 in
theorem open_box_cells {cs : List Value} {x : DataW H × List MemPlace} {fuel : Nat} (hf : DataW.trod enc Try.prog w base spare held fuel 28 cs = some x) : ∃ b : L.Bx, cs = [.int .i64 b.l, .int .i64 b.r, .int .i64 b.b, .int .i64 b.t] := by
  obtain ⟨hl, hf⟩ := trod_fields Try.underlying28 boxOne hf
  match cs, hl with
  | [c0, c1, c2, c3], _ =>
    obtain ⟨_, _, _, e0, h0⟩ := hf 0 _ rfl
    obtain ⟨_, _, _, e1, h1⟩ := hf 1 _ rfl
    obtain ⟨_, _, _, e2, h2⟩ := hf 2 _ rfl
    obtain ⟨_, _, _, e3, h3⟩ := hf 3 _ rfl
    obtain ⟨n0, k0, _, w0⟩ := DataW.trod_int Try.underlying3 h0
    obtain ⟨n1, k1, _, w1⟩ := DataW.trod_int Try.underlying3 h1
    obtain ⟨n2, k2, _, w2⟩ := DataW.trod_int Try.underlying3 h2
    obtain ⟨n3, k3, _, w3⟩ := DataW.trod_int Try.underlying3 h3
    refine ⟨⟨n0, n1, n2, n3⟩, ?_⟩
    simp only [List.getElem?_cons_zero, List.getElem?_cons_succ, Option.some.injEq] at e0 e1 e2 e3
    simp only [List.cons.injEq, and_true] at k0 k1 k2 k3
    rw [e0, e1, e2, e3, k0, k1, k2, k3]
set_option maxRecDepth 100000 in
theorem open_view_cells {cs : List Value} {x : DataW H × List MemPlace} {fuel : Nat} (hf : DataW.trod enc Try.prog w base (fun _ => true) held fuel 26 cs = some x) :
    ∃ (x : L.Vw) (A : Option Addr) (n c : Nat), cs = [.int .i64 x.size, .slice A n c, .int .i64 x.wrong, .int .i64 x.hxl, .int .i64 x.hxh, .int .i64 x.hyl, .int .i64 x.hyh] ∧ n ≤ c ∧ c ≤ maxLen ∧ x.ss.length = n ∧ RdS w w.heap.size A x.ss ∧ (A = none → c = 0) := by
  obtain ⟨xs, n, _, _, hcl, hlen, hg⟩ := DataW.trod_struct Try.underlying26 hf
  rw [viewCells] at hcl
  match cs, hcl with
  | [c0, c1, c2, c3, c4, c5, c6], _ =>
    have look : ∀ j, j < xs.length → ∃ y, xs[j]? = some y := fun j hj => ⟨_, List.getElem?_eq_getElem hj⟩
    have hx5 : xs.length = 5 := hlen
    obtain ⟨y0, hy0⟩ := look 0 (by omega)
    obtain ⟨y1, hy1⟩ := look 1 (by omega)
    obtain ⟨y2, hy2⟩ := look 2 (by omega)
    obtain ⟨y3, hy3⟩ := look 3 (by omega)
    obtain ⟨y4, hy4⟩ := look 4 (by omega)
    have g0 : DataW.trod enc Try.prog w base (fun _ => true) held n 3 (List.take (Try.prog.cellsOf 3) (List.drop 0 [c0, c1, c2, c3, c4, c5, c6])) = some y0 := (hg 0 _ rfl).trans hy0
    have g1 : DataW.trod enc Try.prog w base (fun _ => true) held n 22 (List.take (Try.prog.cellsOf 22) (List.drop 1 [c0, c1, c2, c3, c4, c5, c6])) = some y1 := (hg 1 _ rfl).trans hy1
    have g2 : DataW.trod enc Try.prog w base (fun _ => true) held n 3 (List.take (Try.prog.cellsOf 3) (List.drop 2 [c0, c1, c2, c3, c4, c5, c6])) = some y2 := (hg 2 _ rfl).trans hy2
    have g3 : DataW.trod enc Try.prog w base (fun _ => true) held n 24 (List.take (Try.prog.cellsOf 24) (List.drop 3 [c0, c1, c2, c3, c4, c5, c6])) = some y3 := (hg 3 _ rfl).trans hy3
    have g4 : DataW.trod enc Try.prog w base (fun _ => true) held n 24 (List.take (Try.prog.cellsOf 24) (List.drop 5 [c0, c1, c2, c3, c4, c5, c6])) = some y4 := (hg 4 _ rfl).trans hy4
    rw [intCells] at g0 g2
    rw [stripsCells] at g1
    rw [spanCells] at g3 g4
    simp only [List.drop_succ_cons, List.drop_zero, List.take_succ_cons, List.take_zero] at g0 g1 g2 g3 g4
    obtain ⟨n0, k0, _, w0⟩ := DataW.trod_int Try.underlying3 g0
    obtain ⟨A, m, c, ss, k1, h1, h2, h3, h4, h5⟩ := open_strips g1
    obtain ⟨n2, k2, _, w2⟩ := DataW.trod_int Try.underlying3 g2
    obtain ⟨a3, b3, k3, w3, w3'⟩ := open_span g3
    obtain ⟨a4, b4, k4, w4, w4'⟩ := open_span g4
    simp only [List.cons.injEq, and_true] at k0 k2 k3 k4
    obtain ⟨k3, k3'⟩ := k3
    obtain ⟨k4, k4'⟩ := k4
    subst k0 k1 k2 k3 k3' k4 k4'
    exact ⟨⟨n0, ss, n2, a3, b3, a4, b4⟩, A, m, c, rfl, h1, h2, h3, h4, h5⟩
set_option maxRecDepth 100000 in
theorem open_appeal_cells {cs : List Value} {x : DataW H × List MemPlace} {fuel : Nat} (hf : DataW.trod enc Try.prog w base (fun _ => true) held fuel 66 cs = some x) :
    ∃ a : L.Ap, cs = [.int .i64 a.kind, .int .i64 a.side, .int .i64 a.said, .int .i64 a.v.size, .slice a.A a.n a.c, .int .i64 a.v.wrong, .int .i64 a.v.hxl, .int .i64 a.v.hxh, .int .i64 a.v.hyl, .int .i64 a.v.hyh, .int .i64 a.b.l, .int .i64 a.b.r, .int .i64 a.b.b, .int .i64 a.b.t] ∧ a.v.ss.length = a.n ∧ RdS w w.heap.size a.A a.v.ss ∧ (a.A = none → a.c = 0) := by
  obtain ⟨xs, n, _, _, hcl, hlen, hg⟩ := DataW.trod_struct Try.underlying66 hf
  rw [appealCells] at hcl
  match cs, hcl with
  | [c0, c1, c2, c3, c4, c5, c6, c7, c8, c9, c10, c11, c12, c13], _ =>
    have look : ∀ j, j < xs.length → ∃ y, xs[j]? = some y := fun j hj => ⟨_, List.getElem?_eq_getElem hj⟩
    have hx5 : xs.length = 5 := hlen
    obtain ⟨y0, hy0⟩ := look 0 (by omega)
    obtain ⟨y1, hy1⟩ := look 1 (by omega)
    obtain ⟨y2, hy2⟩ := look 2 (by omega)
    obtain ⟨y3, hy3⟩ := look 3 (by omega)
    obtain ⟨y4, hy4⟩ := look 4 (by omega)
    have g0 : DataW.trod enc Try.prog w base (fun _ => true) held n 3 (List.take (Try.prog.cellsOf 3) (List.drop 0 [c0, c1, c2, c3, c4, c5, c6, c7, c8, c9, c10, c11, c12, c13])) = some y0 := (hg 0 _ rfl).trans hy0
    have g1 : DataW.trod enc Try.prog w base (fun _ => true) held n 3 (List.take (Try.prog.cellsOf 3) (List.drop 1 [c0, c1, c2, c3, c4, c5, c6, c7, c8, c9, c10, c11, c12, c13])) = some y1 := (hg 1 _ rfl).trans hy1
    have g2 : DataW.trod enc Try.prog w base (fun _ => true) held n 3 (List.take (Try.prog.cellsOf 3) (List.drop 2 [c0, c1, c2, c3, c4, c5, c6, c7, c8, c9, c10, c11, c12, c13])) = some y2 := (hg 2 _ rfl).trans hy2
    have g3 : DataW.trod enc Try.prog w base (fun _ => true) held n 26 (List.take (Try.prog.cellsOf 26) (List.drop 3 [c0, c1, c2, c3, c4, c5, c6, c7, c8, c9, c10, c11, c12, c13])) = some y3 := (hg 3 _ rfl).trans hy3
    have g4 : DataW.trod enc Try.prog w base (fun _ => true) held n 28 (List.take (Try.prog.cellsOf 28) (List.drop 10 [c0, c1, c2, c3, c4, c5, c6, c7, c8, c9, c10, c11, c12, c13])) = some y4 := (hg 4 _ rfl).trans hy4
    rw [intCells] at g0 g1 g2
    rw [viewCells] at g3
    rw [boxCells] at g4
    simp only [List.drop_succ_cons, List.drop_zero, List.take_succ_cons, List.take_zero] at g0 g1 g2 g3 g4
    obtain ⟨n0, k0, _, _⟩ := DataW.trod_int Try.underlying3 g0
    obtain ⟨n1, k1, _, _⟩ := DataW.trod_int Try.underlying3 g1
    obtain ⟨n2, k2, _, _⟩ := DataW.trod_int Try.underlying3 g2
    obtain ⟨v, A, m, c, k3, _, _, h3, h4, h5⟩ := open_view_cells g3
    obtain ⟨b, k4⟩ := open_box_cells g4
    simp only [List.cons.injEq, and_true] at k0 k1 k2 k3 k4
    obtain ⟨k30, k31, k32, k33, k34, k35, k36⟩ := k3
    obtain ⟨k40, k41, k42, k43⟩ := k4
    subst k0 k1 k2 k30 k31 k32 k33 k34 k35 k36 k40 k41 k42 k43
    exact ⟨⟨n0, n1, n2, v, A, m, c, b⟩, rfl, h3, h4, h5⟩
set_option maxRecDepth 100000 in
theorem open_appeals {v : Value} {x : DataW H × List MemPlace} {fuel : Nat} (hf : DataW.trod enc Try.prog w base (fun _ => true) held fuel 63 [v] = some x) :
    ∃ (A : Option Addr) (n c : Nat) (l : List L.Ap), v = .slice A n c ∧ n ≤ c ∧ c ≤ maxLen ∧ l.length = n ∧ RdA w w.heap.size A l ∧ (A = none → c = 0) := by
  rcases Go.Deep.open_slice Try.underlying63 hf with ⟨hcs, _⟩ | ⟨a, len, cap, m, n, D, Pl, hcs, _, hle, hmax, hm, _, hi⟩
  · simp at hcs
    subst hcs
    exact ⟨none, 0, 0, [], rfl, Nat.le_refl _, Nat.zero_le _, rfl, RdA.nil _ _ _, fun _ => rfl⟩
  · simp at hcs
    subst hcs
    simp only [if_true] at hm
    have each : ∀ i, i < len → ∃ q : L.Ap, w.cell? (a.add (i * 14)) = some (.int .i64 q.kind) ∧ w.cell? ((a.add (i * 14)).add 1) = some (.int .i64 q.side) ∧ w.cell? ((a.add (i * 14)).add 2) = some (.int .i64 q.said) ∧ w.cell? ((a.add (i * 14)).add 3) = some (.int .i64 q.v.size) ∧ w.cell? ((a.add (i * 14)).add 4) = some (.slice q.A q.n q.c) ∧ w.cell? ((a.add (i * 14)).add 5) = some (.int .i64 q.v.wrong) ∧ w.cell? ((a.add (i * 14)).add 6) = some (.int .i64 q.v.hxl) ∧ w.cell? ((a.add (i * 14)).add 7) = some (.int .i64 q.v.hxh) ∧ w.cell? ((a.add (i * 14)).add 8) = some (.int .i64 q.v.hyl) ∧ w.cell? ((a.add (i * 14)).add 9) = some (.int .i64 q.v.hyh) ∧ w.cell? ((a.add (i * 14)).add 10) = some (.int .i64 q.b.l) ∧ w.cell? ((a.add (i * 14)).add 11) = some (.int .i64 q.b.r) ∧ w.cell? ((a.add (i * 14)).add 12) = some (.int .i64 q.b.b) ∧ w.cell? ((a.add (i * 14)).add 13) = some (.int .i64 q.b.t) ∧ q.v.ss.length = q.n ∧ RdS w w.heap.size q.A q.v.ss ∧ (q.A = none → q.c = 0) := by
      intro i hil
      obtain ⟨cs', hc, ht⟩ := hi i (by omega)
      rw [appealCells] at hc
      obtain ⟨_, hcl, hat⟩ := World.cells?_some hc
      obtain ⟨q, hq, h3, h4, h5⟩ := open_appeal_cells ht
      subst hq
      exact ⟨q, hat 0 (by omega), hat 1 (by omega), hat 2 (by omega), hat 3 (by omega), hat 4 (by omega), hat 5 (by omega), hat 6 (by omega), hat 7 (by omega), hat 8 (by omega), hat 9 (by omega), hat 10 (by omega), hat 11 (by omega), hat 12 (by omega), hat 13 (by omega), h3, h4, h5⟩
    refine ⟨some a, len, cap, (List.range len).map (fun i => if h : i < len then (each i h).choose else ⟨0, 0, 0, ⟨0, [], 0, 0, 0, 0, 0⟩, none, 0, 0, ⟨0, 0, 0, 0⟩⟩), rfl, hle, hmax, by simp, ?_, fun e => by cases e⟩
    intro k q hk
    have hkn : k < len := by
      rcases Nat.lt_or_ge k len with hl | hl
      · exact hl
      · rw [List.getElem?_eq_none (by simp; omega)] at hk; cases hk
    have hq : (each k hkn).choose = q := by
      rw [List.getElem?_map, List.getElem?_range hkn] at hk
      simpa [hkn] using hk
    have hc := (each k hkn).choose_spec
    rw [hq] at hc
    obtain ⟨_, h00, _⟩ := each 0 (by omega)
    obtain ⟨b, o, rfl, hb'⟩ := spot_first (by rw [Nat.zero_mul] at h00; exact h00)
    simp only [add_plain] at hc
    obtain ⟨g0, g1, g2, g3, g4, g5, g6, g7, g8, g9, g10, g11, g12, g13, h3, h4, h5⟩ := hc
    exact ⟨b, o, rfl, hb', g0, g1, g2, g3, g4, g5, g6, g7, g8, g9, g10, g11, g12, g13, h3, h4, h5⟩
end
end Go.Proofs.Ytgnobonhohfofaa

namespace Go.Proofs.Ytgnobonhohfofaa
open Go.ChangeShapes Go.WideShapes Go.ChangeAt Go.RowKit Go.Deep Go.Joins

section
variable {H : Type} {enc : TypeId × Value → H} {w : World} {base : Nat} {spare : Nat → Bool} {held : Bool}
theorem ruleOne : (match Try.prog.underlying 62 with | some (.struct fs) => oneCellFields Try.prog fs && Try.prog.cellsOf 62 == fs.size | _ => false) = true := by kernel_rfl
set_option maxRecDepth 100000 in
theorem open_rule {r : Reach} {b0 : Nat} {v : Value} {d : DataW H} {p : List MemPlace} (hv : Value.okWide Try.prog w r b0 62 v) (h : DataW.Trod enc Try.prog w base spare held 62 v d p) : ∃ a b : Int, v = .agg #[.int .i64 a, .int .i64 b] := by
  obtain ⟨cs, rfl, hl, hf⟩ := open_fields Try.underlying62 ruleOne hv h
  match cs, hl with
  | [c0, c1], _ =>
    obtain ⟨_, _, _, e0, h0⟩ := hf 0 _ rfl
    obtain ⟨_, _, _, e1, h1⟩ := hf 1 _ rfl
    obtain ⟨n0, k0, _, w0⟩ := DataW.trod_int Try.underlying3 h0
    obtain ⟨n1, k1, _, w1⟩ := DataW.trod_int Try.underlying3 h1
    refine ⟨n0, n1, ?_⟩
    simp only [List.getElem?_cons_zero, List.getElem?_cons_succ, Option.some.injEq] at e0 e1
    simp only [List.cons.injEq, and_true] at k0 k1
    rw [e0, e1, k0, k1]
theorem looseOne : (match Try.prog.underlying 44 with | some (.struct fs) => oneCellFields Try.prog fs && Try.prog.cellsOf 44 == fs.size | _ => false) = true := by kernel_rfl
set_option maxRecDepth 100000 in
theorem open_loose {r : Reach} {b0 : Nat} {v : Value} {d : DataW H} {p : List MemPlace} (hv : Value.okWide Try.prog w r b0 44 v) (h : DataW.Trod enc Try.prog w base spare held 44 v d p) : ∃ a b c e : Int, v = .agg #[.int .i64 a, .int .i64 b, .int .i64 c, .int .i64 e] := by
  obtain ⟨cs, rfl, hl, hf⟩ := open_fields Try.underlying44 looseOne hv h
  match cs, hl with
  | [c0, c1, c2, c3], _ =>
    obtain ⟨_, _, _, e0, h0⟩ := hf 0 _ rfl
    obtain ⟨_, _, _, e1, h1⟩ := hf 1 _ rfl
    obtain ⟨_, _, _, e2, h2⟩ := hf 2 _ rfl
    obtain ⟨_, _, _, e3, h3⟩ := hf 3 _ rfl
    obtain ⟨n0, k0, _, w0⟩ := DataW.trod_int Try.underlying3 h0
    obtain ⟨n1, k1, _, w1⟩ := DataW.trod_int Try.underlying3 h1
    obtain ⟨n2, k2, _, w2⟩ := DataW.trod_int Try.underlying3 h2
    obtain ⟨n3, k3, _, w3⟩ := DataW.trod_int Try.underlying3 h3
    refine ⟨n0, n1, n2, n3, ?_⟩
    simp only [List.getElem?_cons_zero, List.getElem?_cons_succ, Option.some.injEq] at e0 e1 e2 e3
    simp only [List.cons.injEq, and_true] at k0 k1 k2 k3
    rw [e0, e1, e2, e3, k0, k1, k2, k3]
theorem open_appealsV {v : Value} {d : DataW H} {p : List MemPlace} (h : DataW.Trod enc Try.prog w base (fun _ => true) held 63 v d p) (hok : ∃ a n c, v = .slice a n c) :
    ∃ (A : Option Addr) (n c : Nat) (l : List L.Ap), v = .slice A n c ∧ n ≤ c ∧ c ≤ maxLen ∧ l.length = n ∧ RdA w w.heap.size A l ∧ (A = none → c = 0) := by
  obtain ⟨a, n, c, rfl⟩ := hok
  obtain ⟨fuel, hf⟩ := h
  exact open_appeals hf
end
end Go.Proofs.Ytgnobonhohfofaa

namespace Go.Proofs.Ytgnobonhohfofaa
open Go.ChangeShapes Go.WideShapes Go.ChangeAt Go.RowKit Go.Deep Go.Joins

theorem Try.ownLinesRuns : ownKnob Try.prog.godebug = none := by kernel_rfl

set_option maxRecDepth 100000 in
theorem linesRuns_call (H : Type) (enc : TypeId × Value → H) (W : World) (base : Nat) (args : Array Value) (ds : List (DataW H)) (p : List MemPlace) (hval : ∀ (j : Nat) t v, Try.f14.params[j]? = some t → args[j]? = some v → Value.okWide Try.prog W .any base t v)
    (hA : DataW.TrodAll enc Try.prog W 0 (fun _ => true) true Try.f14.params.toList args.toList ds p) : Calls Try.prog 14 args W fun e W' => e = .returned (.bool true) ∧ Below W.heap.size W W' := by
  rw [Try.params14] at hA hval
  obtain ⟨v0, v1, d0, d1, p0, p1, rfl, rfl, rfl, h0, h1⟩ := trodAll_two hA
  obtain ⟨e0, m0, rfl⟩ := open_rule (hval 0 62 v0 rfl rfl) h0
  obtain ⟨A1, n1, c1, l1, rfl, hle1, hmx1, hn1, hr1, hno1⟩ := open_appealsV h1 (okWide_slice Try.underlying63 (hval 1 63 v1 rfl rfl))
  exact runsLaw_any e0 m0 l1 A1 n1 c1 W hn1 hr1

set_option maxRecDepth 100000 in
theorem LinesRuns_holds : Rows.LinesRunsSaid :=
  OpenClaim.holds_of_wide (p := Try.pinned) (s := Rows.linesRunsSpec) (c := Rows.linesRunsRow) 14 Try.f14 rfl rfl rfl rfl rfl rfl rfl ⟨rfl, rfl, rfl, rfl, rfl⟩ rfl rfl rfl rfl rfl (by kernel_rfl) Try.func14 (by kernel_rfl)
    (of_decide_eq_true (by kernel_rfl)) (by unfold Func.isWrapper; first | (rw [if_pos (by decide +kernel)]; kernel_rfl) | (rw [if_neg (by decide +kernel)]; exact ⟨rfl, rfl⟩))
    (fun os started H enc _ => law_lift (C := Try.checked) (F := 14) (fn := Try.f14) (s := Rows.linesRunsSpec) (bt := 4) started Try.ownLinesRuns (by kernel_rfl) Try.func14 (by kernel_rfl) Try.underlying4 rfl laidOut (of_decide_eq_true (by kernel_rfl))
      (fun ds hds => match ds, hds with | [_, _], _ => rfl)
      (ChangeSpec.witness6 (enc := enc) (C := Try.checked) false ⟨#[], #[.agg #[.int .i64 0, .int .i64 0], .slice none 0 0], []⟩ 8 (by kernel_rfl) (by kernel_rfl) (by kernel_rfl) (by kernel_rfl))
      (fun W base args ds p hval hA _ => linesRuns_call H enc W base args ds p hval hA) _ _ _)

end Go.Proofs.Ytgnobonhohfofaa
