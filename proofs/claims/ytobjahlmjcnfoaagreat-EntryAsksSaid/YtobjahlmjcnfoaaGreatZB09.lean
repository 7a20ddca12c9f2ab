/-
  Part of a claim's texts: contracts of the program's functions and the plain functions that they compute, in build order.
-/
import Derived.Test.YtobjahlmjcnfoaaGreatZB02
import Derived.Test.YtobjahlmjcnfoaaGreatZB06
import Derived.Test.YtobjahlmjcnfoaaGreatZB07
import Derived.Test.YtobjahlmjcnfoaaGreatZB08
namespace Go.Proofs.YtobjahlmjcnfoaaGreat
open Go.RowKit Go.Sort

set_option maxRecDepth 100000 in
theorem run_eql_nt (x y : E.Nt) (w : World) :
    (binOp .eql 70 (.agg #[.int .i64 x.id, .int .i64 x.hour, .int .i64 x.kind, .int .i64 x.player, .int .i64 x.rank]) (.agg #[.int .i64 y.id, .int .i64 y.hour, .int .i64 y.kind, .int .i64 y.player, .int .i64 y.rank])).run Tryz.prog w = .ok (.bool (decide (x = y))) w := by
  obtain ⟨a1, a2, a3, a4, a5⟩ := x
  obtain ⟨b1, b2, b3, b4, b5⟩ := y
  by_cases h1 : a1 = b1
  · by_cases h2 : a2 = b2
    · by_cases h3 : a3 = b3
      · by_cases h4 : a4 = b4
        · by_cases h5 : a5 = b5
          · simp [go_sem, h1, h2, h3, h4, h5, Tryz.underlying70]
          · simp [go_sem, h1, h2, h3, h4, h5, Tryz.underlying70]
        · simp [go_sem, h1, h2, h3, h4, Tryz.underlying70]
      · simp [go_sem, h1, h2, h3, Tryz.underlying70]
    · simp [go_sem, h1, h2, Tryz.underlying70]
  · simp [go_sem, h1, Tryz.underlying70]
attribute [local go_sem ↓] Go.wp_at_zero Go.wp_at_succ run_eql_nt
namespace E
theorem tscan {outs : List Nt} {x : Nt} {k : Nat} {y : Nt} (hy : outs[k]? = some y) : k + (outs.drop k).findIdx (tbef x) = if tbef x y = true then k else k + 1 + (outs.drop (k + 1)).findIdx (tbef x) := by
  obtain ⟨h1, h2⟩ := List.getElem?_eq_some_iff.1 hy
  rw [List.drop_eq_getElem_cons h1, h2, List.findIdx_cons]
  cases tbef x y <;> simp <;> omega
theorem tscan_mem {outs : List Nt} {x : Nt} {k : Nat} {y : Nt} (hy : outs[k]? = some y) : (outs.drop k).contains x = (decide (y = x) || (outs.drop (k + 1)).contains x) := by
  obtain ⟨h1, h2⟩ := List.getElem?_eq_some_iff.1 hy
  rw [List.drop_eq_getElem_cons h1, h2, List.contains_cons]
  congr 1
  rw [Bool.eq_iff_iff, beq_iff_eq, decide_eq_true_eq]
  exact eq_comm
theorem tswap : ∀ (outs : List Nt) (x : Nt) (j : Nat) (_ : j < outs.length) (na nb : Nt), (outs.take (j + 1) ++ x :: outs.drop (j + 1))[j]? = some na → (outs.take (j + 1) ++ x :: outs.drop (j + 1))[j + 1]? = some nb →
    ((outs.take (j + 1) ++ x :: outs.drop (j + 1)).set (j + 1) na).set j nb = outs.take j ++ x :: outs.drop j
  | [], _, _, h, _, _, _, _ => by simp at h
  | a :: r, x, 0, _, na, nb, h1, h2 => by
    have e1 : a = na := Option.some.inj h1
    have e2 : x = nb := Option.some.inj h2
    subst e1 e2
    rfl
  | a :: r, x, j + 1, h, na, nb, h1, h2 => by
    have ih := tswap r x j (by simpa using h) na nb h1 h2
    show a :: ((r.take (j + 1) ++ x :: r.drop (j + 1)).set (j + 1) na).set j nb = a :: (r.take j ++ x :: r.drop j)
    rw [ih]
end E
set_option maxHeartbeats 6400000 in
set_option maxRecDepth 100000 in
theorem taken_ref (A : Option Addr) (n c : Nat) (l : List E.Nt) (w : World) (hn : l.length = n) (hr : RdN w w.heap.size A l) (hm : n ≤ 200) :
    Calls Tryz.prog 29 #[.slice A n c] w fun e w' => ∃ A' m c', e = .returned (.slice A' m c') ∧ (l.foldl E.tins []).length = m ∧ w'.ownsRow w.heap.size 70 5 (.slice A' m c') m (flatN (l.foldl E.tins [])) ∧ Below w.heap.size w w' := by
  have HN := hide hn
  have HR := hide hr
  have HMX := hide hm
  clear hn hr hm
  go_enter Tryz.func29, Tryz.ntmps29
  go_wp2_with fail
  go_loopw [3, 4] (fun bf i wr => ∃ (i' : Nat) (A2 : Option Addr) (m c2 : Nat) (outs : List E.Nt), i' ≤ n ∧ bf = .slice A2 m c2 ∧ i = .int .i64 i' ∧ Hid (outs.length = m) ∧ Hid (outs = (l.take i').foldl E.tins []) ∧ Hid (wr.ownsRow w.heap.size 70 5 (.slice A2 m c2) m (flatN outs)) ∧ Hid (Below w.heap.size w wr)) (fun _ i _ => n - (intOf i).toNat)
  case atStart => exact ⟨0, none, 0, 0, [], by omega, rfl, rfl, hide rfl, hide rfl, hide (ownsN_nil _ _), hide (Below.refl _ _)⟩
  case round =>
    obtain ⟨i, A2, m, c2, outs, hi, rfl, rfl, HOL, HOE, HO, HBR⟩ := hrel
    have hnn := HMX.out
    have hol : m ≤ i := by have h1 := E.tfold_length (l.take i) []; rw [← HOE.out, HOL.out, List.length_take] at h1; simp at h1; omega
    by_cases hin : i < n
    · obtain ⟨x, hx⟩ : ∃ q, l[i]? = some q := ⟨_, List.getElem?_eq_getElem (by have := HN.out; omega)⟩
      have HX := hide hx
      have HTK := hide (show l.take (i + 1) = l.take i ++ [x] by rw [List.take_add_one, hx]; rfl)
      clear hx
      have hi1 : (i : Int) < (n : Int) := by omega
      have hi0 : (0 : Int) ≤ (i : Int) := by omega
      have hmw : IntKind.i64.wrap ((m : Int) - 1) = (m : Int) - 1 := IntWalk.i64_in _ (by omega)
      have hmw2 : IntKind.i64.wrap ((m : Int) + 1 - 1) = (m : Int) := by rw [show (m : Int) + 1 - 1 = (m : Int) by omega]; exact IntWalk.i64_in _ (by omega)
      have hmw3 : IntKind.i64.wrap (m : Int) = (m : Int) := IntWalk.i64_in _ (by omega)
      go_wp2_with fail
      go_loopw [5, 6, 7] (fun aa tt kk wr => ∃ (kn a : Nat) (tw : Bool), kn ≤ m ∧ aa = .int .i64 a ∧ tt = .bool tw ∧ kk = .int .i64 ((kn : Int) - 1) ∧ Hid (a = kn + (outs.drop kn).findIdx (E.tbef x)) ∧ Hid (tw = (outs.drop kn).contains x) ∧ Hid (wr.ownsRow w.heap.size 70 5 (.slice A2 m c2) m (flatN outs)) ∧ Hid (Below w.heap.size w wr)) (fun _ _ kk _ => (intOf kk + 1).toNat)
      case atStart => exact ⟨m, m, false, Nat.le_refl _, rfl, rfl, rfl, hide (by rw [List.drop_eq_nil_of_le (by have := HOL.out; omega)]; rfl), hide (by rw [List.drop_eq_nil_of_le (by have := HOL.out; omega)]; rfl), HO, HBR⟩
      case round =>
        clear HO HBR
        obtain ⟨kn, a, tw, hkn, rfl, rfl, rfl, HAT, HTW, HO, HBR⟩ := hrel
        by_cases hk0 : kn = 0
        · subst hk0
          have HTWN := hide (show tw = outs.contains x by rw [HTW.out, List.drop_zero])
          have HAT0 := hide (show a = outs.findIdx (E.tbef x) by rw [HAT.out, List.drop_zero, Nat.zero_add])
          have ham : a ≤ m := by have h1 := HAT0.out; have h2 := List.findIdx_le_length (p := E.tbef x) (xs := outs); rw [HOL.out] at h2; omega
          cases tw
          · obtain ⟨bl, ol, hAl, hbl, xc0, xc1, xc2, xc3, xc4⟩ := (HR.out.below HBR.out) i x HX.out
            subst hAl
            go_upto_region 15 with (at_builtin; refine wpList_app_N rfl (.tmp 75) (.tmp 80) rfl w.heap.size (.slice A2 m c2) outs m rfl (HO.out.kept (World.grownBy_alloc _ _ none) (Classical.em _)) HOL.out wr.heap.size x rfl (World.alloc_heap_new _ _) (by omega) (by have := HBR.out.size; simp; omega) ?_; intro A7 c7 w8 hown hgrow _; have HO7 := hide hown; have HB8 := hide ((zbA HBR.out HBR.out.size _).trans (grown_below (B := w.heap.size) hgrow (by have := HBR.out.size; simp; omega) (fun g hg => ((HO.out.kept (World.grownBy_alloc wr (.cells (ntCells x) 70) none) (Classical.em _)).lt g hg).1))); clear hown hgrow)
            obtain ⟨g, hg⟩ := own_form5 HO7.out (by omega)
            subst hg
            have HO8 := hide (show w8.ownsRow w.heap.size 70 5 (.slice (some ⟨g, 0, none⟩) (m + 1) c7) (m + 1) (flatN (outs ++ [x])) from HO7.out)
            have HOWM := hide (show ∀ (ms : List E.Nt) {W : World}, W.ownsRow w.heap.size 70 5 (.slice (some ⟨g, 0, none⟩) (m + 1) c7) (m + 1) (flatN ms) → Hid (W.ownsRow w.heap.size 70 5 (.slice (some ⟨g, 0, none⟩) (m + 1) c7) (m + 1) (flatN ms)) from fun ms W h => hide h)
            clear xc0 xc1 xc2 xc3 xc4 HO7
            go_loopw [8] (fun kk wr => ∃ k' : Nat, a ≤ k' ∧ k' ≤ m ∧ kk = .int .i64 k' ∧ Hid (wr.ownsRow w.heap.size 70 5 (.slice (some ⟨g, 0, none⟩) (m + 1) c7) (m + 1) (flatN (outs.take k' ++ x :: outs.drop k'))) ∧ Hid (Below w.heap.size w wr)) (fun kk _ => (intOf kk).toNat)
            case atStart => exact ⟨m, ham, Nat.le_refl _, rfl, hide (by rw [List.take_of_length_le (by have := HOL.out; omega), List.drop_eq_nil_of_le (by have := HOL.out; omega)]; exact HO8.out), HB8⟩
            case round =>
              obtain ⟨k, hak, hkm, rfl, HOW0, HR4⟩ := hrel
              obtain ⟨ms, hms⟩ : ∃ q, outs.take k ++ x :: outs.drop k = q := ⟨_, rfl⟩
              have HMS := hide hms.symm
              have HOW := hide (show wr.ownsRow w.heap.size 70 5 (.slice (some ⟨g, 0, none⟩) (m + 1) c7) (m + 1) (flatN ms) by rw [← hms]; exact HOW0.out)
              clear hms HOW0
              by_cases hka : k = a
              · subst hka
                have HFN := hide (show ms = (l.take (i + 1)).foldl E.tins [] by rw [HMS.out, HTK.out, List.foldl_append, ← HOE.out]; show _ = E.tins outs x; unfold E.tins; rw [if_neg (by rw [← HTWN.out]; decide), ← HAT0.out])
                go_wp2_with fail
                go_roundw
                case rel => exact ⟨i + 1, some ⟨g, 0, none⟩, m + 1, c7, ms, by omega, rfl, by go_num, hide (by rw [HMS.out, List.length_append, List.length_cons, List.length_take, List.length_drop, HOL.out]; omega), HFN, HOWM.out ms HOW.out, HR4⟩
                case measure => simp [intOf]; omega
              · obtain ⟨j, hj⟩ : ∃ j, k = j + 1 := ⟨k - 1, by omega⟩
                obtain ⟨J, hJ⟩ : ∃ J : Int, (k : Int) = J := ⟨_, rfl⟩
                rw [hJ]
                have hJa : (a : Int) < J := by omega
                have hJ0 : 0 < J := by omega
                have hJ00 : 0 ≤ J := by omega
                have hJn : J < (m : Int) + 1 := by omega
                have hJt : J.toNat = j + 1 := by omega
                have hwJ : IntKind.i64.wrap (J - 1) = (j : Int) := by rw [show J - 1 = (j : Int) by omega]; exact IntWalk.i64_in _ (by omega)
                have hjl : j < outs.length := by have := HOL.out; omega
                subst hj
                have HJ := hide hJ
                clear hJ
                have HLM := hide (show ms.length = m + 1 by rw [HMS.out, List.length_append, List.length_cons, List.length_take, List.length_drop, HOL.out]; omega)
                obtain ⟨na, hna⟩ : ∃ q, ms[j]? = some q := ⟨_, List.getElem?_eq_getElem (by have := HLM.out; omega)⟩
                obtain ⟨nb', hnb⟩ : ∃ q, ms[j + 1]? = some q := ⟨_, List.getElem?_eq_getElem (by have := HLM.out; omega)⟩
                have Hna := hide hna
                have Hnb' := hide hnb
                have HTH1 := hide (show wr.drew.there g ((j + 1) * 5) 5 from own_there (k := j + 1) HOW.out (by omega))
                clear hna hnb
                go_upto_region 17 with fail
                have hj0 : (0 : Int) ≤ (j : Int) := by omega
                have hjn : (j : Int) < (m : Int) + 1 := by omega
                have RLm := hide (owns_RdN HOW.out HLM.out)
                obtain ⟨bgna, ogna, egna, _, na0, na1, na2, na3, na4⟩ := RLm.out j na Hna.out
                simp only [Option.some.injEq, Addr.mk.injEq, and_true] at egna
                obtain ⟨rfl, rfl⟩ := egna
                rw [Nat.zero_add] at na0
                rw [Nat.zero_add] at na1
                rw [Nat.zero_add] at na2
                rw [Nat.zero_add] at na3
                rw [Nat.zero_add] at na4
                obtain ⟨bgnb, ognb, egnb, _, nb0, nb1, nb2, nb3, nb4⟩ := RLm.out (j + 1) nb' Hnb'.out
                simp only [Option.some.injEq, Addr.mk.injEq, and_true] at egnb
                obtain ⟨rfl, rfl⟩ := egnb
                rw [Nat.zero_add] at nb0
                rw [Nat.zero_add] at nb1
                rw [Nat.zero_add] at nb2
                rw [Nat.zero_add] at nb3
                rw [Nat.zero_add] at nb4
                refine wp_region_T_drew (S := (fun _ => Hid True)) 17 (by kernel_rfl) ?_ (fun hD0 => ?_)
                · (try dsimp only); first | exact hide trivial
                refine takeT (v := ?_) 0 rfl (by kernel_rfl) (by kernel_rfl) (by kernel_rfl) (by kernel_rfl) (fun _ _ _ h => h) (Or.inl ⟨by rfl, ?_⟩) (by assumption) ?_; rotate_left
                · (intro w hSw; (try dsimp only at hSw); go_simp; try with_reducible rfl)
                try simp only [Act.put, zl, z0, z1]
                refine takeT (v := ?_) 1 rfl (by kernel_rfl) (by kernel_rfl) (by kernel_rfl) (by kernel_rfl) (fun _ _ _ h => h) (Or.inl ⟨by rfl, ?_⟩) (by assumption) ?_; rotate_left
                · (intro w hSw; (try dsimp only at hSw); go_simp; try with_reducible rfl)
                try simp only [Act.put, zl, z0, z1]
                refine takeT (v := ?_) 2 rfl (by kernel_rfl) (by kernel_rfl) (by kernel_rfl) (by kernel_rfl) (fun _ _ _ h => h) (Or.inl ⟨by rfl, ?_⟩) (by assumption) ?_; rotate_left
                · (intro w hSw; (try dsimp only at hSw); go_simp; try with_reducible rfl)
                try simp only [Act.put, zl, z0, z1]
                refine takeT (v := ?_) 3 rfl (by kernel_rfl) (by kernel_rfl) (by kernel_rfl) (by kernel_rfl) (fun _ _ _ h => h) (Or.inl ⟨by rfl, ?_⟩) (by assumption) ?_; rotate_left
                · (intro w hSw; (try dsimp only at hSw); go_simp; try with_reducible rfl)
                try simp only [Act.put, zl, z0, z1]
                refine takeT (v := ?_) 4 rfl (by kernel_rfl) (by kernel_rfl) (by kernel_rfl) (by kernel_rfl) (fun _ _ _ h => h) (Or.inl ⟨by rfl, ?_⟩) (by assumption) ?_; rotate_left
                · (intro w hSw; (try dsimp only at hSw); go_simp; try with_reducible rfl)
                try simp only [Act.put, zl, z0, z1]
                refine takeT (v := ?_) 5 rfl (by kernel_rfl) (by kernel_rfl) (by kernel_rfl) (by kernel_rfl) (fun _ _ _ h => h) (Or.inl ⟨by rfl, ?_⟩) (by assumption) ?_; rotate_left
                · (intro w hSw; (try dsimp only at hSw); go_simp; try with_reducible rfl)
                try simp only [Act.put, zl, z0, z1]
                refine takeT (v := ?_) 6 rfl (by kernel_rfl) (by kernel_rfl) (by kernel_rfl) (by kernel_rfl) (fun _ _ _ h => h) (Or.inl ⟨by rfl, ?_⟩) (by assumption) ?_; rotate_left
                · (intro w hSw; (try dsimp only at hSw); go_simp; try with_reducible rfl)
                try simp only [Act.put, zl, z0, z1]
                refine takeT (v := ?_) 7 rfl (by kernel_rfl) (by kernel_rfl) (by kernel_rfl) (by kernel_rfl) (fun _ _ _ h => h) (Or.inl ⟨by rfl, ?_⟩) (by assumption) ?_; rotate_left
                · (intro w hSw; (try dsimp only at hSw); go_simp; try with_reducible rfl)
                try simp only [Act.put, zl, z0, z1]
                refine takeT (v := ?_) 8 rfl (by kernel_rfl) (by kernel_rfl) (by kernel_rfl) (by kernel_rfl) (fun _ _ _ h => h) (Or.inl ⟨by rfl, ?_⟩) (by assumption) ?_; rotate_left
                · (intro w hSw; (try dsimp only at hSw); go_simp; try with_reducible rfl)
                try simp only [Act.put, zl, z0, z1]
                refine takeT (v := ?_) 10 rfl (by kernel_rfl) (by kernel_rfl) (by kernel_rfl) (by kernel_rfl) (fun _ _ _ h => h) (Or.inl ⟨by rfl, ?_⟩) (by assumption) ?_; rotate_left
                · (intro w hSw; (try dsimp only at hSw); go_simp; try with_reducible rfl)
                try simp only [Act.put, zl, z0, z1]
                refine takeT (v := ?_) 11 rfl (by kernel_rfl) (by kernel_rfl) (by kernel_rfl) (by kernel_rfl) (fun _ _ _ h => h) (Or.inl ⟨by rfl, ?_⟩) (by assumption) ?_; rotate_left
                · (intro w hSw; (try dsimp only at hSw); go_simp; try with_reducible rfl)
                try simp only [Act.put, zl, z0, z1]
                refine takeT (v := ?_) 12 rfl (by kernel_rfl) (by kernel_rfl) (by kernel_rfl) (by kernel_rfl) (fun _ _ _ h => h) (Or.inl ⟨by rfl, ?_⟩) (by assumption) ?_; rotate_left
                · (intro w hSw; (try dsimp only at hSw); go_simp; try with_reducible rfl)
                try simp only [Act.put, zl, z0, z1]
                refine wpAnyT_ready (rs := [9, 13]) (by kernel_rfl) (by simp) ?_; refine consT 9 rfl (fun K hK => ?_) ?_; go_simp
                refine hK.out _ _ ?_ (fun hD1 => ?_)
                · (try dsimp only); first | exact hD0 | (first | exact hide trivial)
                clear hK K hD0; try simp only [Act.put, zl, z0, z1]
                refine wpAnyT_ready (rs := [13]) (by kernel_rfl) (by simp) ?_; refine consT 13 rfl (fun K hK => ?_) AllReadyT.nil; go_simp
                refine hK.out _ _ ?_ (fun hD2 => ?_)
                · (try dsimp only); first | exact hD1 | (first | exact hide trivial)
                clear hK K hD1; try simp only [Act.put, zl, z0, z1]
                refine takeT (v := ?_) 14 rfl (by kernel_rfl) (by kernel_rfl) (by kernel_rfl) (by kernel_rfl) (fun _ _ _ h => h) (Or.inl ⟨by rfl, ?_⟩) (by assumption) ?_; rotate_left
                · (intro w hSw; (try dsimp only at hSw); go_simp; try with_reducible rfl)
                try simp only [Act.put, zl, z0, z1]
                refine wpAnyT_ready (rs := [15]) (by kernel_rfl) (by simp) ?_; refine consT 15 rfl (fun K hK => ?_) AllReadyT.nil
                (refine step_store_mid rfl 70 (.tmp 104) (.tmp 99) rfl g ((j + 1) * 5) (nc na).toArray rfl rfl HTH1.out ntSize (nc_one na) ?_; refine cap_gen (K := K) (fun W1 hW1 => ?_); have HO5 := hide (show W1.ownsRow w.heap.size 70 5 (.slice (some ⟨g, 0, none⟩) (m + 1) c7) (m + 1) (flatN (ms.set (j + 1) na)) by rw [hW1]; exact own_set5 (show wr.drew.ownsRow w.heap.size 70 5 (.slice (some ⟨g, 0, none⟩) (m + 1) c7) (m + 1) (flatN ms) from HOW.out) HLM.out (j + 1) na); have HG5 := hide (show wr.drew.grownBy W1 (some g) by rw [hW1]; exact grown_set5 wr.drew g ((j + 1) * 5) na); clear hW1)
                refine hK.out _ _ ?_ (fun hD3 => ?_)
                · (try dsimp only); first | exact hide trivial
                clear hK K hD2; try simp only [Act.put, zl, z0, z1]
                refine takeT (v := ?_) 16 rfl (by kernel_rfl) (by kernel_rfl) (by kernel_rfl) (by kernel_rfl) (fun _ _ _ h => h) (Or.inl ⟨by rfl, ?_⟩) (by assumption) ?_; rotate_left
                · (intro w hSw; (try dsimp only at hSw); go_simp; try with_reducible rfl)
                try simp only [Act.put, zl, z0, z1]
                refine wpAnyT_ready (rs := [17]) (by kernel_rfl) (by simp) ?_
                refine lastT rfl (fun K hK => ?_)
                (try dsimp only at hD3)
                (refine step_store_mid rfl 70 (.tmp 105) (.tmp 103) rfl g (j * 5) (nc nb').toArray rfl rfl (own_there HO5.out (by omega)) ntSize (nc_one nb') ?_; refine cap_gen (K := K) (fun W2 hW2 => ?_); have HO6 := hide (show W2.ownsRow w.heap.size 70 5 (.slice (some ⟨g, 0, none⟩) (m + 1) c7) (m + 1) (flatN ((ms.set (j + 1) na).set j nb')) by rw [hW2]; exact own_set5 HO5.out (by rw [List.length_set]; exact HLM.out) j nb'); have HG6 := hide (show W1.grownBy W2 (some g) by rw [hW2]; exact grown_set5 W1 g (j * 5) nb'); clear hW2)
                refine hK.out _ _ ?_
                clear hK K
                try simp only [Act.put, zl, z0, z1]
                refine wpAnyT_done (by kernel_rfl) ?_ _
                rotate_left 1
                refine consT 13 rfl (fun K hK => ?_) AllReadyT.nil
                go_simp
                refine hK.out _ _ ?_ (fun hD1 => ?_)
                · (try dsimp only); first | exact hD0 | (first | exact hide trivial)
                clear hK K hD0; try simp only [Act.put, zl, z0, z1]
                refine wpAnyT_ready (rs := [9]) (by kernel_rfl) (by simp) ?_; refine consT 9 rfl (fun K hK => ?_) AllReadyT.nil; go_simp
                refine hK.out _ _ ?_ (fun hD2 => ?_)
                · (try dsimp only); first | exact hD1 | (first | exact hide trivial)
                clear hK K hD1; try simp only [Act.put, zl, z0, z1]
                refine takeT (v := ?_) 14 rfl (by kernel_rfl) (by kernel_rfl) (by kernel_rfl) (by kernel_rfl) (fun _ _ _ h => h) (Or.inl ⟨by rfl, ?_⟩) (by assumption) ?_; rotate_left
                · (intro w hSw; (try dsimp only at hSw); go_simp; try with_reducible rfl)
                try simp only [Act.put, zl, z0, z1]
                refine wpAnyT_ready (rs := [15]) (by kernel_rfl) (by simp) ?_; refine consT 15 rfl (fun K hK => ?_) AllReadyT.nil
                (refine step_store_mid rfl 70 (.tmp 104) (.tmp 99) rfl g ((j + 1) * 5) (nc na).toArray rfl rfl HTH1.out ntSize (nc_one na) ?_; refine cap_gen (K := K) (fun W1 hW1 => ?_); have HO5 := hide (show W1.ownsRow w.heap.size 70 5 (.slice (some ⟨g, 0, none⟩) (m + 1) c7) (m + 1) (flatN (ms.set (j + 1) na)) by rw [hW1]; exact own_set5 (show wr.drew.ownsRow w.heap.size 70 5 (.slice (some ⟨g, 0, none⟩) (m + 1) c7) (m + 1) (flatN ms) from HOW.out) HLM.out (j + 1) na); have HG5 := hide (show wr.drew.grownBy W1 (some g) by rw [hW1]; exact grown_set5 wr.drew g ((j + 1) * 5) na); clear hW1)
                refine hK.out _ _ ?_ (fun hD3 => ?_)
                · (try dsimp only); first | exact hide trivial
                clear hK K hD2; try simp only [Act.put, zl, z0, z1]
                refine takeT (v := ?_) 16 rfl (by kernel_rfl) (by kernel_rfl) (by kernel_rfl) (by kernel_rfl) (fun _ _ _ h => h) (Or.inl ⟨by rfl, ?_⟩) (by assumption) ?_; rotate_left
                · (intro w hSw; (try dsimp only at hSw); go_simp; try with_reducible rfl)
                try simp only [Act.put, zl, z0, z1]
                refine wpAnyT_ready (rs := [17]) (by kernel_rfl) (by simp) ?_
                refine lastT rfl (fun K hK => ?_)
                (try dsimp only at hD3)
                (refine step_store_mid rfl 70 (.tmp 105) (.tmp 103) rfl g (j * 5) (nc nb').toArray rfl rfl (own_there HO5.out (by omega)) ntSize (nc_one nb') ?_; refine cap_gen (K := K) (fun W2 hW2 => ?_); have HO6 := hide (show W2.ownsRow w.heap.size 70 5 (.slice (some ⟨g, 0, none⟩) (m + 1) c7) (m + 1) (flatN ((ms.set (j + 1) na).set j nb')) by rw [hW2]; exact own_set5 HO5.out (by rw [List.length_set]; exact HLM.out) j nb'); have HG6 := hide (show W1.grownBy W2 (some g) by rw [hW2]; exact grown_set5 W1 g (j * 5) nb'); clear hW2)
                refine hK.out _ _ ?_
                clear hK K
                try simp only [Act.put, zl, z0, z1]
                refine wpAnyT_done (by kernel_rfl) ?_ _
                all_goals focus
                  (try dsimp only [Exit.inBlock, Exit.then])
                  clear na0 na1 na2 na3 na4 nb0 nb1 nb2 nb3 nb4
                  have HR5 := hide (HR4.out.drew.trans (grown_below (B := w.heap.size) (gr_trans HG5.out HG6.out) HR4.out.drew.size (fun q hq => by have h1 := Option.some.inj hq; have h2 := (HOW.out.lt g rfl).1; omega)))
                  go_wp2_with fail
                  go_roundw
                  case rel => exact ⟨j, by omega, by omega, rfl, hide (by rw [← E.tswap outs x j hjl na nb' (by rw [← HMS.out]; exact Hna.out) (by rw [← HMS.out]; exact Hnb'.out), ← HMS.out]; exact HO6.out), HR5⟩
                  case measure => simp [intOf]; omega
          · go_wp2_with fail
            go_roundw
            case rel => exact ⟨i + 1, A2, m, c2, outs, by omega, rfl, by go_num, HOL, hide (by rw [HTK.out, List.foldl_append, ← HOE.out]; show _ = E.tins outs x; unfold E.tins; rw [if_pos HTWN.out.symm]), HO, HBR⟩
            case measure => simp [intOf]; omega
        · obtain ⟨k, rfl⟩ : ∃ k, kn = k + 1 := ⟨kn - 1, by omega⟩
          obtain ⟨y, hy⟩ : ∃ q, outs[k]? = some q := ⟨_, List.getElem?_eq_getElem (by have := HOL.out; omega)⟩
          have HY := hide hy
          clear hy hk0
          have hkm : k < m := by omega
          rw [show (((k + 1 : Nat) : Int) - 1) = (k : Int) from by omega]
          have hk0 : (0 : Int) ≤ (k : Int) := by omega
          have hk1 : (k : Int) < (m : Int) := by omega
          have hkw : IntKind.i64.wrap ((k : Int) - 1) = (k : Int) - 1 := IntWalk.i64_in _ (by omega)
          cases tw
          · obtain ⟨tw', htw'⟩ : ∃ q, decide (y = x) = q := ⟨_, rfl⟩
            have HTW' := hide (show (decide (y = x) || false) = tw' by rw [htw']; cases tw' <;> rfl)
            have PE := hide htw'
            clear htw'
            go_upto_region 9 with fail
            obtain ⟨V, hV⟩ : ∃ V, (wr).drew = V := ⟨_, rfl⟩
            have HB4 := hide (show Below w.heap.size w V by rw [← hV]; exact zbD HBR.out)
            have HOV := hide (show V.ownsRow w.heap.size 70 5 (.slice A2 m c2) m (flatN outs) by rw [← hV]; exact HO.out)
            obtain ⟨bl, ol, hAl, _, xc0, xc1, xc2, xc3, xc4⟩ := (HR.out.below HB4.out) i x HX.out
            subst hAl
            obtain ⟨bq, oq, hAq, _, yc0, yc1, yc2, yc3, yc4⟩ := (owns_RdN HOV.out HOL.out) k y HY.out
            subst hAq
            refine wp_region_still_lit (by kernel_rfl) (by kernel_rfl) ?_
            change wpStill _ _ (wr).drew (fun a' => Exit.then _ _ Exit.normal a' (wr).drew) _ _
            rw [hV]
            clear hV
            iterate 13 (with_reducible refine stTake (v := ?_) (by kernel_rfl) ?_ ?_; rotate_left; (focus (go_simp; (try with_reducible rfl))); (try simp only [Act.put, zl, List.set_cons_zero, List.set_cons_succ]))
            refine wpStill_nil ?_
            (try simp only [PE.out])
            go_upto_region 10 with fail
            clear xc0 xc1 xc2 xc3 xc4 yc0 yc1 yc2 yc3 yc4
            obtain ⟨a1, hba1⟩ : ∃ b, decide (x.hour < y.hour) = b := ⟨_, rfl⟩
            have Pa1 := hide hba1
            have Pa1' := hide (show decide (x.hour < y.hour) = a1 from hba1)
            clear hba1
            cases a1
            · obtain ⟨a2, hba2⟩ : ∃ b, decide (x.hour = y.hour) = b := ⟨_, rfl⟩
              have Pa2 := hide hba2
              have Pa2' := hide (show (x.hour == y.hour) = a2 from hba2)
              clear hba2
              cases a2
              · obtain ⟨V2, hV⟩ : ∃ V2, (V).drew = V2 := ⟨_, rfl⟩
                have HB5 := hide (show Below w.heap.size w V2 by rw [← hV]; exact zbD HB4.out)
                have HOV2 := hide (show V2.ownsRow w.heap.size 70 5 (.slice (some ⟨bq, oq, none⟩) m c2) m (flatN outs) by rw [← hV]; exact HOV.out)
                obtain ⟨bl2, ol2, hAl2, _, xd0, xd1, xd2, xd3, xd4⟩ := (HR.out.below HB5.out) i x HX.out
                injection hAl2 with hAl2
                injection hAl2 with hl1 hl2
                subst hl1 hl2
                obtain ⟨bq2, oq2, hAq2, _, yd0, yd1, yd2, yd3, yd4⟩ := (owns_RdN HOV2.out HOL.out) k y HY.out
                injection hAq2 with hAq2
                injection hAq2 with hq1 hq2
                subst hq1 hq2
                refine wp_region_still_lit (by kernel_rfl) (by kernel_rfl) ?_
                change wpStill _ _ (V).drew (fun a' => Exit.then _ _ Exit.normal a' (V).drew) _ _
                rw [hV]
                clear hV
                iterate 10 (with_reducible refine stTake (v := ?_) (by kernel_rfl) ?_ ?_; rotate_left; (focus (go_simp; (try with_reducible rfl))); (try simp only [Act.put, zl, List.set_cons_zero, List.set_cons_succ]))
                with_reducible refine stTake (v := ?_) (by kernel_rfl) ?_ ?_; rotate_left
                · (go_simp; (try simp only [Pa1.out, Pa1'.out]); (try with_reducible rfl))
                (try simp only [Act.put, zl, List.set_cons_zero, List.set_cons_succ])
                iterate 11 (with_reducible refine stTake (v := ?_) (by kernel_rfl) ?_ ?_; rotate_left; (focus (go_simp; (try with_reducible rfl))); (try simp only [Act.put, zl, List.set_cons_zero, List.set_cons_succ]))
                with_reducible refine stTake (v := ?_) (by kernel_rfl) ?_ ?_; rotate_left
                · (go_simp; (try simp only [Pa2.out, Pa2'.out]); (try with_reducible rfl))
                (try simp only [Act.put, zl, List.set_cons_zero, List.set_cons_succ])
                with_reducible refine stTake (v := ?_) (by kernel_rfl) ?_ ?_; rotate_left; (focus (go_simp; (try with_reducible rfl))); (try simp only [Act.put, zl, List.set_cons_zero, List.set_cons_succ])
                iterate 11 (with_reducible refine stSkip (by kernel_rfl) ?_; (try simp only [Act.put, zl, List.set_cons_zero, List.set_cons_succ]))
                iterate 2 (with_reducible refine stTake (v := ?_) (by kernel_rfl) ?_ ?_; rotate_left; (focus (go_simp; (try with_reducible rfl))); (try simp only [Act.put, zl, List.set_cons_zero, List.set_cons_succ]))
                refine wpStill_nil ?_
                have hbf : E.tbef x y = false := by unfold E.tbef; rw [Pa1.out, Pa2.out]; rfl
                clear xd0 xd1 xd2 xd3 xd4 yd0 yd1 yd2 yd3 yd4
                go_wp2_with fail
                go_roundw
                case rel => exact ⟨k, a, tw', by omega, rfl, rfl, rfl, hide (by rw [E.tscan HY.out, hbf]; exact HAT.out), hide (by rw [E.tscan_mem HY.out, ← HTW.out, HTW'.out]), HOV2, HB5⟩
                case measure => simp [intOf]
              · obtain ⟨a3, hba3⟩ : ∃ b, decide (x.id < y.id) = b := ⟨_, rfl⟩
                have Pa3 := hide hba3
                have Pa3' := hide (show decide (x.id < y.id) = a3 from hba3)
                clear hba3
                cases a3
                · obtain ⟨V2, hV⟩ : ∃ V2, (V).drew = V2 := ⟨_, rfl⟩
                  have HB5 := hide (show Below w.heap.size w V2 by rw [← hV]; exact zbD HB4.out)
                  have HOV2 := hide (show V2.ownsRow w.heap.size 70 5 (.slice (some ⟨bq, oq, none⟩) m c2) m (flatN outs) by rw [← hV]; exact HOV.out)
                  obtain ⟨bl2, ol2, hAl2, _, xd0, xd1, xd2, xd3, xd4⟩ := (HR.out.below HB5.out) i x HX.out
                  injection hAl2 with hAl2
                  injection hAl2 with hl1 hl2
                  subst hl1 hl2
                  obtain ⟨bq2, oq2, hAq2, _, yd0, yd1, yd2, yd3, yd4⟩ := (owns_RdN HOV2.out HOL.out) k y HY.out
                  injection hAq2 with hAq2
                  injection hAq2 with hq1 hq2
                  subst hq1 hq2
                  refine wp_region_still_lit (by kernel_rfl) (by kernel_rfl) ?_
                  change wpStill _ _ (V).drew (fun a' => Exit.then _ _ Exit.normal a' (V).drew) _ _
                  rw [hV]
                  clear hV
                  iterate 10 (with_reducible refine stTake (v := ?_) (by kernel_rfl) ?_ ?_; rotate_left; (focus (go_simp; (try with_reducible rfl))); (try simp only [Act.put, zl, List.set_cons_zero, List.set_cons_succ]))
                  with_reducible refine stTake (v := ?_) (by kernel_rfl) ?_ ?_; rotate_left
                  · (go_simp; (try simp only [Pa1.out, Pa1'.out]); (try with_reducible rfl))
                  (try simp only [Act.put, zl, List.set_cons_zero, List.set_cons_succ])
                  iterate 11 (with_reducible refine stTake (v := ?_) (by kernel_rfl) ?_ ?_; rotate_left; (focus (go_simp; (try with_reducible rfl))); (try simp only [Act.put, zl, List.set_cons_zero, List.set_cons_succ]))
                  with_reducible refine stTake (v := ?_) (by kernel_rfl) ?_ ?_; rotate_left
                  · (go_simp; (try simp only [Pa2.out, Pa2'.out]); (try with_reducible rfl))
                  (try simp only [Act.put, zl, List.set_cons_zero, List.set_cons_succ])
                  iterate 11 (with_reducible refine stTake (v := ?_) (by kernel_rfl) ?_ ?_; rotate_left; (focus (go_simp; (try with_reducible rfl))); (try simp only [Act.put, zl, List.set_cons_zero, List.set_cons_succ]))
                  with_reducible refine stTake (v := ?_) (by kernel_rfl) ?_ ?_; rotate_left
                  · (go_simp; (try simp only [Pa3.out, Pa3'.out]); (try with_reducible rfl))
                  (try simp only [Act.put, zl, List.set_cons_zero, List.set_cons_succ])
                  iterate 2 (with_reducible refine stTake (v := ?_) (by kernel_rfl) ?_ ?_; rotate_left; (focus (go_simp; (try with_reducible rfl))); (try simp only [Act.put, zl, List.set_cons_zero, List.set_cons_succ]))
                  refine wpStill_nil ?_
                  have hbf : E.tbef x y = false := by unfold E.tbef; rw [Pa1.out, Pa2.out, Pa3.out]; rfl
                  clear xd0 xd1 xd2 xd3 xd4 yd0 yd1 yd2 yd3 yd4
                  go_wp2_with fail
                  go_roundw
                  case rel => exact ⟨k, a, tw', by omega, rfl, rfl, rfl, hide (by rw [E.tscan HY.out, hbf]; exact HAT.out), hide (by rw [E.tscan_mem HY.out, ← HTW.out, HTW'.out]), HOV2, HB5⟩
                  case measure => simp [intOf]
                · obtain ⟨V2, hV⟩ : ∃ V2, (V).drew = V2 := ⟨_, rfl⟩
                  have HB5 := hide (show Below w.heap.size w V2 by rw [← hV]; exact zbD HB4.out)
                  have HOV2 := hide (show V2.ownsRow w.heap.size 70 5 (.slice (some ⟨bq, oq, none⟩) m c2) m (flatN outs) by rw [← hV]; exact HOV.out)
                  obtain ⟨bl2, ol2, hAl2, _, xd0, xd1, xd2, xd3, xd4⟩ := (HR.out.below HB5.out) i x HX.out
                  injection hAl2 with hAl2
                  injection hAl2 with hl1 hl2
                  subst hl1 hl2
                  obtain ⟨bq2, oq2, hAq2, _, yd0, yd1, yd2, yd3, yd4⟩ := (owns_RdN HOV2.out HOL.out) k y HY.out
                  injection hAq2 with hAq2
                  injection hAq2 with hq1 hq2
                  subst hq1 hq2
                  refine wp_region_still_lit (by kernel_rfl) (by kernel_rfl) ?_
                  change wpStill _ _ (V).drew (fun a' => Exit.then _ _ Exit.normal a' (V).drew) _ _
                  rw [hV]
                  clear hV
                  iterate 10 (with_reducible refine stTake (v := ?_) (by kernel_rfl) ?_ ?_; rotate_left; (focus (go_simp; (try with_reducible rfl))); (try simp only [Act.put, zl, List.set_cons_zero, List.set_cons_succ]))
                  with_reducible refine stTake (v := ?_) (by kernel_rfl) ?_ ?_; rotate_left
                  · (go_simp; (try simp only [Pa1.out, Pa1'.out]); (try with_reducible rfl))
                  (try simp only [Act.put, zl, List.set_cons_zero, List.set_cons_succ])
                  iterate 11 (with_reducible refine stTake (v := ?_) (by kernel_rfl) ?_ ?_; rotate_left; (focus (go_simp; (try with_reducible rfl))); (try simp only [Act.put, zl, List.set_cons_zero, List.set_cons_succ]))
                  with_reducible refine stTake (v := ?_) (by kernel_rfl) ?_ ?_; rotate_left
                  · (go_simp; (try simp only [Pa2.out, Pa2'.out]); (try with_reducible rfl))
                  (try simp only [Act.put, zl, List.set_cons_zero, List.set_cons_succ])
                  iterate 11 (with_reducible refine stTake (v := ?_) (by kernel_rfl) ?_ ?_; rotate_left; (focus (go_simp; (try with_reducible rfl))); (try simp only [Act.put, zl, List.set_cons_zero, List.set_cons_succ]))
                  with_reducible refine stTake (v := ?_) (by kernel_rfl) ?_ ?_; rotate_left
                  · (go_simp; (try simp only [Pa3.out, Pa3'.out]); (try with_reducible rfl))
                  (try simp only [Act.put, zl, List.set_cons_zero, List.set_cons_succ])
                  iterate 2 (with_reducible refine stTake (v := ?_) (by kernel_rfl) ?_ ?_; rotate_left; (focus (go_simp; (try with_reducible rfl))); (try simp only [Act.put, zl, List.set_cons_zero, List.set_cons_succ]))
                  refine wpStill_nil ?_
                  have hbf : E.tbef x y = true := by unfold E.tbef; rw [Pa1.out, Pa2.out, Pa3.out]; rfl
                  clear xd0 xd1 xd2 xd3 xd4 yd0 yd1 yd2 yd3 yd4
                  go_wp2_with fail
                  go_roundw
                  case rel => exact ⟨k, k, tw', by omega, rfl, rfl, rfl, hide (by rw [E.tscan HY.out, hbf]; rfl), hide (by rw [E.tscan_mem HY.out, ← HTW.out, HTW'.out]), HOV2, HB5⟩
                  case measure => simp [intOf]
            · obtain ⟨V2, hV⟩ : ∃ V2, (V).drew = V2 := ⟨_, rfl⟩
              have HB5 := hide (show Below w.heap.size w V2 by rw [← hV]; exact zbD HB4.out)
              have HOV2 := hide (show V2.ownsRow w.heap.size 70 5 (.slice (some ⟨bq, oq, none⟩) m c2) m (flatN outs) by rw [← hV]; exact HOV.out)
              obtain ⟨bl2, ol2, hAl2, _, xd0, xd1, xd2, xd3, xd4⟩ := (HR.out.below HB5.out) i x HX.out
              injection hAl2 with hAl2
              injection hAl2 with hl1 hl2
              subst hl1 hl2
              obtain ⟨bq2, oq2, hAq2, _, yd0, yd1, yd2, yd3, yd4⟩ := (owns_RdN HOV2.out HOL.out) k y HY.out
              injection hAq2 with hAq2
              injection hAq2 with hq1 hq2
              subst hq1 hq2
              refine wp_region_still_lit (by kernel_rfl) (by kernel_rfl) ?_
              change wpStill _ _ (V).drew (fun a' => Exit.then _ _ Exit.normal a' (V).drew) _ _
              rw [hV]
              clear hV
              iterate 10 (with_reducible refine stTake (v := ?_) (by kernel_rfl) ?_ ?_; rotate_left; (focus (go_simp; (try with_reducible rfl))); (try simp only [Act.put, zl, List.set_cons_zero, List.set_cons_succ]))
              with_reducible refine stTake (v := ?_) (by kernel_rfl) ?_ ?_; rotate_left
              · (go_simp; (try simp only [Pa1.out, Pa1'.out]); (try with_reducible rfl))
              (try simp only [Act.put, zl, List.set_cons_zero, List.set_cons_succ])
              with_reducible refine stTake (v := ?_) (by kernel_rfl) ?_ ?_; rotate_left; (focus (go_simp; (try with_reducible rfl))); (try simp only [Act.put, zl, List.set_cons_zero, List.set_cons_succ])
              iterate 24 (with_reducible refine stSkip (by kernel_rfl) ?_; (try simp only [Act.put, zl, List.set_cons_zero, List.set_cons_succ]))
              with_reducible refine stTake (v := ?_) (by kernel_rfl) ?_ ?_; rotate_left; (focus (go_simp; (try with_reducible rfl))); (try simp only [Act.put, zl, List.set_cons_zero, List.set_cons_succ])
              refine wpStill_nil ?_
              have hbf : E.tbef x y = true := by unfold E.tbef; rw [Pa1.out]; rfl
              clear xd0 xd1 xd2 xd3 xd4 yd0 yd1 yd2 yd3 yd4
              go_wp2_with fail
              go_roundw
              case rel => exact ⟨k, k, tw', by omega, rfl, rfl, rfl, hide (by rw [E.tscan HY.out, hbf]; rfl), hide (by rw [E.tscan_mem HY.out, ← HTW.out, HTW'.out]), HOV2, HB5⟩
              case measure => simp [intOf]
          · obtain ⟨tw', htw'⟩ : ∃ q, (decide (y = x) || true) = q := ⟨_, rfl⟩
            have HTW' := hide htw'
            have htt : tw' = true := by rw [← htw']; cases decide (y = x) <;> rfl
            clear htw'
            subst htt
            go_upto_region 9 with fail
            obtain ⟨V, hV⟩ : ∃ V, (wr).drew = V := ⟨_, rfl⟩
            have HB4 := hide (show Below w.heap.size w V by rw [← hV]; exact zbD HBR.out)
            have HOV := hide (show V.ownsRow w.heap.size 70 5 (.slice A2 m c2) m (flatN outs) by rw [← hV]; exact HO.out)
            obtain ⟨bl, ol, hAl, _, xc0, xc1, xc2, xc3, xc4⟩ := (HR.out.below HB4.out) i x HX.out
            subst hAl
            obtain ⟨bq, oq, hAq, _, yc0, yc1, yc2, yc3, yc4⟩ := (owns_RdN HOV.out HOL.out) k y HY.out
            subst hAq
            refine wp_region_still_lit (by kernel_rfl) (by kernel_rfl) ?_
            change wpStill _ _ (wr).drew (fun a' => Exit.then _ _ Exit.normal a' (wr).drew) _ _
            rw [hV]
            clear hV
            iterate 2 (with_reducible refine stTake (v := ?_) (by kernel_rfl) ?_ ?_; rotate_left; (focus (go_simp; (try with_reducible rfl))); (try simp only [Act.put, zl, List.set_cons_zero, List.set_cons_succ]))
            iterate 9 (with_reducible refine stSkip (by kernel_rfl) ?_; (try simp only [Act.put, zl, List.set_cons_zero, List.set_cons_succ]))
            iterate 2 (with_reducible refine stTake (v := ?_) (by kernel_rfl) ?_ ?_; rotate_left; (focus (go_simp; (try with_reducible rfl))); (try simp only [Act.put, zl, List.set_cons_zero, List.set_cons_succ]))
            refine wpStill_nil ?_
            go_upto_region 10 with fail
            clear xc0 xc1 xc2 xc3 xc4 yc0 yc1 yc2 yc3 yc4
            obtain ⟨a1, hba1⟩ : ∃ b, decide (x.hour < y.hour) = b := ⟨_, rfl⟩
            have Pa1 := hide hba1
            have Pa1' := hide (show decide (x.hour < y.hour) = a1 from hba1)
            clear hba1
            cases a1
            · obtain ⟨a2, hba2⟩ : ∃ b, decide (x.hour = y.hour) = b := ⟨_, rfl⟩
              have Pa2 := hide hba2
              have Pa2' := hide (show (x.hour == y.hour) = a2 from hba2)
              clear hba2
              cases a2
              · obtain ⟨V2, hV⟩ : ∃ V2, (V).drew = V2 := ⟨_, rfl⟩
                have HB5 := hide (show Below w.heap.size w V2 by rw [← hV]; exact zbD HB4.out)
                have HOV2 := hide (show V2.ownsRow w.heap.size 70 5 (.slice (some ⟨bq, oq, none⟩) m c2) m (flatN outs) by rw [← hV]; exact HOV.out)
                obtain ⟨bl2, ol2, hAl2, _, xd0, xd1, xd2, xd3, xd4⟩ := (HR.out.below HB5.out) i x HX.out
                injection hAl2 with hAl2
                injection hAl2 with hl1 hl2
                subst hl1 hl2
                obtain ⟨bq2, oq2, hAq2, _, yd0, yd1, yd2, yd3, yd4⟩ := (owns_RdN HOV2.out HOL.out) k y HY.out
                injection hAq2 with hAq2
                injection hAq2 with hq1 hq2
                subst hq1 hq2
                refine wp_region_still_lit (by kernel_rfl) (by kernel_rfl) ?_
                change wpStill _ _ (V).drew (fun a' => Exit.then _ _ Exit.normal a' (V).drew) _ _
                rw [hV]
                clear hV
                iterate 10 (with_reducible refine stTake (v := ?_) (by kernel_rfl) ?_ ?_; rotate_left; (focus (go_simp; (try with_reducible rfl))); (try simp only [Act.put, zl, List.set_cons_zero, List.set_cons_succ]))
                with_reducible refine stTake (v := ?_) (by kernel_rfl) ?_ ?_; rotate_left
                · (go_simp; (try simp only [Pa1.out, Pa1'.out]); (try with_reducible rfl))
                (try simp only [Act.put, zl, List.set_cons_zero, List.set_cons_succ])
                iterate 11 (with_reducible refine stTake (v := ?_) (by kernel_rfl) ?_ ?_; rotate_left; (focus (go_simp; (try with_reducible rfl))); (try simp only [Act.put, zl, List.set_cons_zero, List.set_cons_succ]))
                with_reducible refine stTake (v := ?_) (by kernel_rfl) ?_ ?_; rotate_left
                · (go_simp; (try simp only [Pa2.out, Pa2'.out]); (try with_reducible rfl))
                (try simp only [Act.put, zl, List.set_cons_zero, List.set_cons_succ])
                with_reducible refine stTake (v := ?_) (by kernel_rfl) ?_ ?_; rotate_left; (focus (go_simp; (try with_reducible rfl))); (try simp only [Act.put, zl, List.set_cons_zero, List.set_cons_succ])
                iterate 11 (with_reducible refine stSkip (by kernel_rfl) ?_; (try simp only [Act.put, zl, List.set_cons_zero, List.set_cons_succ]))
                iterate 2 (with_reducible refine stTake (v := ?_) (by kernel_rfl) ?_ ?_; rotate_left; (focus (go_simp; (try with_reducible rfl))); (try simp only [Act.put, zl, List.set_cons_zero, List.set_cons_succ]))
                refine wpStill_nil ?_
                have hbf : E.tbef x y = false := by unfold E.tbef; rw [Pa1.out, Pa2.out]; rfl
                clear xd0 xd1 xd2 xd3 xd4 yd0 yd1 yd2 yd3 yd4
                go_wp2_with fail
                go_roundw
                case rel => exact ⟨k, a, true, by omega, rfl, rfl, rfl, hide (by rw [E.tscan HY.out, hbf]; exact HAT.out), hide (by rw [E.tscan_mem HY.out, ← HTW.out, HTW'.out]), HOV2, HB5⟩
                case measure => simp [intOf]
              · obtain ⟨a3, hba3⟩ : ∃ b, decide (x.id < y.id) = b := ⟨_, rfl⟩
                have Pa3 := hide hba3
                have Pa3' := hide (show decide (x.id < y.id) = a3 from hba3)
                clear hba3
                cases a3
                · obtain ⟨V2, hV⟩ : ∃ V2, (V).drew = V2 := ⟨_, rfl⟩
                  have HB5 := hide (show Below w.heap.size w V2 by rw [← hV]; exact zbD HB4.out)
                  have HOV2 := hide (show V2.ownsRow w.heap.size 70 5 (.slice (some ⟨bq, oq, none⟩) m c2) m (flatN outs) by rw [← hV]; exact HOV.out)
                  obtain ⟨bl2, ol2, hAl2, _, xd0, xd1, xd2, xd3, xd4⟩ := (HR.out.below HB5.out) i x HX.out
                  injection hAl2 with hAl2
                  injection hAl2 with hl1 hl2
                  subst hl1 hl2
                  obtain ⟨bq2, oq2, hAq2, _, yd0, yd1, yd2, yd3, yd4⟩ := (owns_RdN HOV2.out HOL.out) k y HY.out
                  injection hAq2 with hAq2
                  injection hAq2 with hq1 hq2
                  subst hq1 hq2
                  refine wp_region_still_lit (by kernel_rfl) (by kernel_rfl) ?_
                  change wpStill _ _ (V).drew (fun a' => Exit.then _ _ Exit.normal a' (V).drew) _ _
                  rw [hV]
                  clear hV
                  iterate 10 (with_reducible refine stTake (v := ?_) (by kernel_rfl) ?_ ?_; rotate_left; (focus (go_simp; (try with_reducible rfl))); (try simp only [Act.put, zl, List.set_cons_zero, List.set_cons_succ]))
                  with_reducible refine stTake (v := ?_) (by kernel_rfl) ?_ ?_; rotate_left
                  · (go_simp; (try simp only [Pa1.out, Pa1'.out]); (try with_reducible rfl))
                  (try simp only [Act.put, zl, List.set_cons_zero, List.set_cons_succ])
                  iterate 11 (with_reducible refine stTake (v := ?_) (by kernel_rfl) ?_ ?_; rotate_left; (focus (go_simp; (try with_reducible rfl))); (try simp only [Act.put, zl, List.set_cons_zero, List.set_cons_succ]))
                  with_reducible refine stTake (v := ?_) (by kernel_rfl) ?_ ?_; rotate_left
                  · (go_simp; (try simp only [Pa2.out, Pa2'.out]); (try with_reducible rfl))
                  (try simp only [Act.put, zl, List.set_cons_zero, List.set_cons_succ])
                  iterate 11 (with_reducible refine stTake (v := ?_) (by kernel_rfl) ?_ ?_; rotate_left; (focus (go_simp; (try with_reducible rfl))); (try simp only [Act.put, zl, List.set_cons_zero, List.set_cons_succ]))
                  with_reducible refine stTake (v := ?_) (by kernel_rfl) ?_ ?_; rotate_left
                  · (go_simp; (try simp only [Pa3.out, Pa3'.out]); (try with_reducible rfl))
                  (try simp only [Act.put, zl, List.set_cons_zero, List.set_cons_succ])
                  iterate 2 (with_reducible refine stTake (v := ?_) (by kernel_rfl) ?_ ?_; rotate_left; (focus (go_simp; (try with_reducible rfl))); (try simp only [Act.put, zl, List.set_cons_zero, List.set_cons_succ]))
                  refine wpStill_nil ?_
                  have hbf : E.tbef x y = false := by unfold E.tbef; rw [Pa1.out, Pa2.out, Pa3.out]; rfl
                  clear xd0 xd1 xd2 xd3 xd4 yd0 yd1 yd2 yd3 yd4
                  go_wp2_with fail
                  go_roundw
                  case rel => exact ⟨k, a, true, by omega, rfl, rfl, rfl, hide (by rw [E.tscan HY.out, hbf]; exact HAT.out), hide (by rw [E.tscan_mem HY.out, ← HTW.out, HTW'.out]), HOV2, HB5⟩
                  case measure => simp [intOf]
                · obtain ⟨V2, hV⟩ : ∃ V2, (V).drew = V2 := ⟨_, rfl⟩
                  have HB5 := hide (show Below w.heap.size w V2 by rw [← hV]; exact zbD HB4.out)
                  have HOV2 := hide (show V2.ownsRow w.heap.size 70 5 (.slice (some ⟨bq, oq, none⟩) m c2) m (flatN outs) by rw [← hV]; exact HOV.out)
                  obtain ⟨bl2, ol2, hAl2, _, xd0, xd1, xd2, xd3, xd4⟩ := (HR.out.below HB5.out) i x HX.out
                  injection hAl2 with hAl2
                  injection hAl2 with hl1 hl2
                  subst hl1 hl2
                  obtain ⟨bq2, oq2, hAq2, _, yd0, yd1, yd2, yd3, yd4⟩ := (owns_RdN HOV2.out HOL.out) k y HY.out
                  injection hAq2 with hAq2
                  injection hAq2 with hq1 hq2
                  subst hq1 hq2
                  refine wp_region_still_lit (by kernel_rfl) (by kernel_rfl) ?_
                  change wpStill _ _ (V).drew (fun a' => Exit.then _ _ Exit.normal a' (V).drew) _ _
                  rw [hV]
                  clear hV
                  iterate 10 (with_reducible refine stTake (v := ?_) (by kernel_rfl) ?_ ?_; rotate_left; (focus (go_simp; (try with_reducible rfl))); (try simp only [Act.put, zl, List.set_cons_zero, List.set_cons_succ]))
                  with_reducible refine stTake (v := ?_) (by kernel_rfl) ?_ ?_; rotate_left
                  · (go_simp; (try simp only [Pa1.out, Pa1'.out]); (try with_reducible rfl))
                  (try simp only [Act.put, zl, List.set_cons_zero, List.set_cons_succ])
                  iterate 11 (with_reducible refine stTake (v := ?_) (by kernel_rfl) ?_ ?_; rotate_left; (focus (go_simp; (try with_reducible rfl))); (try simp only [Act.put, zl, List.set_cons_zero, List.set_cons_succ]))
                  with_reducible refine stTake (v := ?_) (by kernel_rfl) ?_ ?_; rotate_left
                  · (go_simp; (try simp only [Pa2.out, Pa2'.out]); (try with_reducible rfl))
                  (try simp only [Act.put, zl, List.set_cons_zero, List.set_cons_succ])
                  iterate 11 (with_reducible refine stTake (v := ?_) (by kernel_rfl) ?_ ?_; rotate_left; (focus (go_simp; (try with_reducible rfl))); (try simp only [Act.put, zl, List.set_cons_zero, List.set_cons_succ]))
                  with_reducible refine stTake (v := ?_) (by kernel_rfl) ?_ ?_; rotate_left
                  · (go_simp; (try simp only [Pa3.out, Pa3'.out]); (try with_reducible rfl))
                  (try simp only [Act.put, zl, List.set_cons_zero, List.set_cons_succ])
                  iterate 2 (with_reducible refine stTake (v := ?_) (by kernel_rfl) ?_ ?_; rotate_left; (focus (go_simp; (try with_reducible rfl))); (try simp only [Act.put, zl, List.set_cons_zero, List.set_cons_succ]))
                  refine wpStill_nil ?_
                  have hbf : E.tbef x y = true := by unfold E.tbef; rw [Pa1.out, Pa2.out, Pa3.out]; rfl
                  clear xd0 xd1 xd2 xd3 xd4 yd0 yd1 yd2 yd3 yd4
                  go_wp2_with fail
                  go_roundw
                  case rel => exact ⟨k, k, true, by omega, rfl, rfl, rfl, hide (by rw [E.tscan HY.out, hbf]; rfl), hide (by rw [E.tscan_mem HY.out, ← HTW.out, HTW'.out]), HOV2, HB5⟩
                  case measure => simp [intOf]
            · obtain ⟨V2, hV⟩ : ∃ V2, (V).drew = V2 := ⟨_, rfl⟩
              have HB5 := hide (show Below w.heap.size w V2 by rw [← hV]; exact zbD HB4.out)
              have HOV2 := hide (show V2.ownsRow w.heap.size 70 5 (.slice (some ⟨bq, oq, none⟩) m c2) m (flatN outs) by rw [← hV]; exact HOV.out)
              obtain ⟨bl2, ol2, hAl2, _, xd0, xd1, xd2, xd3, xd4⟩ := (HR.out.below HB5.out) i x HX.out
              injection hAl2 with hAl2
              injection hAl2 with hl1 hl2
              subst hl1 hl2
              obtain ⟨bq2, oq2, hAq2, _, yd0, yd1, yd2, yd3, yd4⟩ := (owns_RdN HOV2.out HOL.out) k y HY.out
              injection hAq2 with hAq2
              injection hAq2 with hq1 hq2
              subst hq1 hq2
              refine wp_region_still_lit (by kernel_rfl) (by kernel_rfl) ?_
              change wpStill _ _ (V).drew (fun a' => Exit.then _ _ Exit.normal a' (V).drew) _ _
              rw [hV]
              clear hV
              iterate 10 (with_reducible refine stTake (v := ?_) (by kernel_rfl) ?_ ?_; rotate_left; (focus (go_simp; (try with_reducible rfl))); (try simp only [Act.put, zl, List.set_cons_zero, List.set_cons_succ]))
              with_reducible refine stTake (v := ?_) (by kernel_rfl) ?_ ?_; rotate_left
              · (go_simp; (try simp only [Pa1.out, Pa1'.out]); (try with_reducible rfl))
              (try simp only [Act.put, zl, List.set_cons_zero, List.set_cons_succ])
              with_reducible refine stTake (v := ?_) (by kernel_rfl) ?_ ?_; rotate_left; (focus (go_simp; (try with_reducible rfl))); (try simp only [Act.put, zl, List.set_cons_zero, List.set_cons_succ])
              iterate 24 (with_reducible refine stSkip (by kernel_rfl) ?_; (try simp only [Act.put, zl, List.set_cons_zero, List.set_cons_succ]))
              with_reducible refine stTake (v := ?_) (by kernel_rfl) ?_ ?_; rotate_left; (focus (go_simp; (try with_reducible rfl))); (try simp only [Act.put, zl, List.set_cons_zero, List.set_cons_succ])
              refine wpStill_nil ?_
              have hbf : E.tbef x y = true := by unfold E.tbef; rw [Pa1.out]; rfl
              clear xd0 xd1 xd2 xd3 xd4 yd0 yd1 yd2 yd3 yd4
              go_wp2_with fail
              go_roundw
              case rel => exact ⟨k, k, true, by omega, rfl, rfl, rfl, hide (by rw [E.tscan HY.out, hbf]; rfl), hide (by rw [E.tscan_mem HY.out, ← HTW.out, HTW'.out]), HOV2, HB5⟩
              case measure => simp [intOf]
    · have hin2 : i = n := by omega
      subst hin2
      go_wp2_with fail
      go_ret
      exact ⟨A2, m, c2, rfl, by rw [← HOL.out, HOE.out, List.take_of_length_le (by rw [HN.out]; exact Nat.le_refl _)], by have h := HO.out; rw [HOE.out, List.take_of_length_le (by rw [HN.out]; exact Nat.le_refl _)] at h; exact h, HBR.out⟩
theorem takenP_holds : TakenP := fun A n c l d w hn hr hd => by
  have h := taken_ref A n c l w hn hr (by have := (E.diffs_spec hd).1; omega)
  rw [E.taken_same hd] at h
  exact h
end Go.Proofs.YtobjahlmjcnfoaaGreat

namespace Go.Proofs.YtobjahlmjcnfoaaGreat
open Go.RowKit Go.Sort
attribute [local go_sem ↓] Go.wp_at_zero Go.wp_at_succ

noncomputable def rtakeReg (n : Nat) : Code := ((Tryz.f62.body.bind (regOf n)).getD .skip)

set_option maxRecDepth 100000 in
set_option maxHeartbeats 64000000 in
theorem rtake1 {K : Act → World → Prop} {Q : Exit → Act → World → Prop} (hp : ∀ c a d v w, Q (.panic c) (Act.put a d v) w → Q (.panic c) a w) (bS : Nat) (An : Option Addr) (nn cn : Nat) (ps : List E.Rp) (A2 A3 : Option Addr) (n2 c2 n3 c3 : Nat) (bk : Int) (W1 : World) (hbS : W1.heap[bS]? = some (.cells #[.slice An nn cn, .slice A2 n2 c2, .int .i64 bk, .slice A3 n3 c3] 53 (0, 0))) (hlen : ps.length = nn) (hr : RdP W1 W1.heap.size An ps) (hA : An = none → cn = 0) (hm : nn ≤ 400) (f0 f1 f2 f3 f5 f6 f7 f8 f9 f10 f11 f12 f13 f14 f15 f16 f17 f18 f19 f20 f21 f22 f23 f24 f25 f26 f27 f28 f29 f30 f31 f32 f33 f34 f35 f36 f37 f38 f39 f40 f41 f42 f43 f44 f45 f46 f47 f48 f49 f50 f51 f52 f53 f54 f55 f56 f57 f58 f59 f60 f61 f62 f63 f64 f65 f66 f67 f68 f69 f70 f71 f72 f73 f74 f75 f76 f77 f78 f79 f80 f81 f82 f83 f84 f85 f86 f87 f88 f89 f90 f91 f92 f93 f94 f95 f96 f97 f98 f99 f100 f101 f102 f103 f104 f105 f106 f107 f108 f109 f110 f111 f112 f113 f114 f115 f116 f117 f118 f119 f120 f121 f122 f123 f124 f125 f126 f127 f128 f129 f130 f131 f132 f133 f134 f135 f136 f137 f138 f139 f140 f141 f142 f143 f144 f145 f146 f147 f148 f149 f150 f151 f152 f153 f154 : Value)
    (hK : ∀ (u10 u11 u12 u13 u14 u15 u16 u17 u18 u19 u20 : Value) (bo : Nat) (A1 : Option Addr) (c1 : Nat) (W2 : World), Hid (W2.heap[bo]? = some (.cells #[.slice A1 nn c1, .slice A2 n2 c2, .int .i64 bk, .slice A3 n3 c3] 53 (0, 0))) → Hid (W2.ownsRow W1.heap.size 57 7 (.slice A1 nn c1) nn (flatP ps)) → Hid (W1.heap.size ≤ bo) → Hid (Below W1.heap.size W1 W2) → K ⟨#[f0, f1, f2, f3, .pointer (some ⟨bS, 0, none⟩), f5, f6, .pointer (some ⟨bo, 0, none⟩), f8, f9, u10, u11, u12, u13, u14, u15, u16, u17, u18, u19, u20, f21, f22, f23, f24, f25, f26, f27, f28, f29, f30, f31, f32, f33, f34, f35, f36, f37, f38, f39, f40, f41, f42, f43, f44, f45, f46, f47, f48, f49, f50, f51, f52, f53, f54, f55, f56, f57, f58, f59, f60, f61, f62, f63, f64, f65, f66, f67, f68, f69, f70, f71, f72, f73, f74, f75, f76, f77, f78, f79, f80, f81, f82, f83, f84, f85, f86, f87, f88, f89, f90, f91, f92, f93, f94, f95, f96, f97, f98, f99, f100, f101, f102, f103, f104, f105, f106, f107, f108, f109, f110, f111, f112, f113, f114, f115, f116, f117, f118, f119, f120, f121, f122, f123, f124, f125, f126, f127, f128, f129, f130, f131, f132, f133, f134, f135, f136, f137, f138, f139, f140, f141, f142, f143, f144, f145, f146, f147, f148, f149, f150, f151, f152, f153, f154], []⟩ W2) :
    Code.wp Tryz.prog (rtakeReg 1) (Exit.then K Q) ⟨#[f0, f1, f2, f3, .pointer (some ⟨bS, 0, none⟩), f5, f6, f7, f8, f9, f10, f11, f12, f13, f14, f15, f16, f17, f18, f19, f20, f21, f22, f23, f24, f25, f26, f27, f28, f29, f30, f31, f32, f33, f34, f35, f36, f37, f38, f39, f40, f41, f42, f43, f44, f45, f46, f47, f48, f49, f50, f51, f52, f53, f54, f55, f56, f57, f58, f59, f60, f61, f62, f63, f64, f65, f66, f67, f68, f69, f70, f71, f72, f73, f74, f75, f76, f77, f78, f79, f80, f81, f82, f83, f84, f85, f86, f87, f88, f89, f90, f91, f92, f93, f94, f95, f96, f97, f98, f99, f100, f101, f102, f103, f104, f105, f106, f107, f108, f109, f110, f111, f112, f113, f114, f115, f116, f117, f118, f119, f120, f121, f122, f123, f124, f125, f126, f127, f128, f129, f130, f131, f132, f133, f134, f135, f136, f137, f138, f139, f140, f141, f142, f143, f144, f145, f146, f147, f148, f149, f150, f151, f152, f153, f154], []⟩ W1 := by
  conv => arg 2; whnf
  have hSof : ∀ w' : World, Below W1.heap.size W1 w' → (fun w' => Below W1.heap.size W1 w' ∧ w'.cell? ⟨bS, 0, none⟩ = some (.slice An nn cn) ∧ w'.cell? ⟨bS, 1, none⟩ = some (.slice A2 n2 c2) ∧ w'.cell? ⟨bS, 2, none⟩ = some (.int .i64 bk) ∧ w'.cell? ⟨bS, 3, none⟩ = some (.slice A3 n3 c3)) w' := fun w' hb => by have h := (hb.block bS (blk_lt hbS)).trans hbS; exact ⟨hb, (blk_cell h 0).trans rfl, (blk_cell h 1).trans rfl, (blk_cell h 2).trans rfl, (blk_cell h 3).trans rfl⟩
  have hS : (fun w' => Below W1.heap.size W1 w' ∧ w'.cell? ⟨bS, 0, none⟩ = some (.slice An nn cn) ∧ w'.cell? ⟨bS, 1, none⟩ = some (.slice A2 n2 c2) ∧ w'.cell? ⟨bS, 2, none⟩ = some (.int .i64 bk) ∧ w'.cell? ⟨bS, 3, none⟩ = some (.slice A3 n3 c3)) W1 := hSof _ (zbR _ _)
  (try dsimp only at hS)
  have HBR := hide (show Below W1.heap.size W1 W1 from zbR _ _)
  have HLN := hide hlen
  have HRP := hide hr
  have HAN := hide hA
  have HONE := hide (show ∀ (a : Option Addr) (m c : Nat), (#[.slice a m c, .slice A2 n2 c2, .int .i64 bk, .slice A3 n3 c3] : Array Value).all (·.oneCell') = true from fun a m c => one4 rfl rfl rfl rfl)
  clear hbS hlen hr hA
  refine wp_region_held_drew (S := (fun w' => Below W1.heap.size W1 w' ∧ w'.cell? ⟨bS, 0, none⟩ = some (.slice An nn cn) ∧ w'.cell? ⟨bS, 1, none⟩ = some (.slice A2 n2 c2) ∧ w'.cell? ⟨bS, 2, none⟩ = some (.int .i64 bk) ∧ w'.cell? ⟨bS, 3, none⟩ = some (.slice A3 n3 c3))) (by kernel_rfl) ?_ (fun hD0 => ?_)
  · (try dsimp only); first | assumption | exact hSof _ (zbD HBR.out)
  refine tL (v := ?_) 1 rfl (by kernel_rfl) (fun _ _ _ h => hp _ _ _ _ _ h) (Or.inl ⟨by rfl, ?_⟩) (by assumption) ?_; rotate_left
  · (intro w hSw; (try dsimp only at hSw); go_simp; try with_reducible rfl)
  try simp only [Act.put, zl, z0, z1]
  refine tL (v := ?_) 2 rfl (by kernel_rfl) (fun _ _ _ h => hp _ _ _ _ _ h) (Or.inl ⟨by rfl, ?_⟩) (by assumption) ?_; rotate_left
  · (intro w hSw; (try dsimp only at hSw); go_simp; try with_reducible rfl)
  try simp only [Act.put, zl, z0, z1]
  refine tL (v := ?_) 4 rfl (by kernel_rfl) (fun _ _ _ h => hp _ _ _ _ _ h) (Or.inl ⟨by rfl, ?_⟩) (by assumption) ?_; rotate_left
  · (intro w hSw; (try dsimp only at hSw); go_simp; try with_reducible rfl)
  try simp only [Act.put, zl, z0, z1]
  refine tL (v := ?_) 5 rfl (by kernel_rfl) (fun _ _ _ h => hp _ _ _ _ _ h) (Or.inl ⟨by rfl, ?_⟩) (by assumption) ?_; rotate_left
  · (intro w hSw; (try dsimp only at hSw); go_simp; try with_reducible rfl)
  try simp only [Act.put, zl, z0, z1]
  refine tL (v := ?_) 6 rfl (by kernel_rfl) (fun _ _ _ h => hp _ _ _ _ _ h) (Or.inl ⟨by rfl, ?_⟩) (by assumption) ?_; rotate_left
  · (intro w hSw; (try dsimp only at hSw); go_simp; try with_reducible rfl)
  try simp only [Act.put, zl, z0, z1]
  refine tL (v := ?_) 7 rfl (by kernel_rfl) (fun _ _ _ h => hp _ _ _ _ _ h) (Or.inl ⟨by rfl, ?_⟩) (by assumption) ?_; rotate_left
  · (intro w hSw; (try dsimp only at hSw); go_simp; try with_reducible rfl)
  try simp only [Act.put, zl, z0, z1]
  refine tL (v := ?_) 8 rfl (by kernel_rfl) (fun _ _ _ h => hp _ _ _ _ _ h) (Or.inl ⟨by rfl, ?_⟩) (by assumption) ?_; rotate_left
  · (intro w hSw; (try dsimp only at hSw); go_simp; try with_reducible rfl)
  try simp only [Act.put, zl, z0, z1]
  refine tL (v := ?_) 9 rfl (by kernel_rfl) (fun _ _ _ h => hp _ _ _ _ _ h) (Or.inl ⟨by rfl, ?_⟩) (by assumption) ?_; rotate_left
  · (intro w hSw; (try dsimp only at hSw); go_simp; try with_reducible rfl)
  try simp only [Act.put, zl, z0, z1]
  refine wpAnyH_ready (rs := [0, 11]) (by kernel_rfl) (by simp) ?_; refine consL 0 rfl (fun K hK => ?_) ?_
  (go_simp; (first | refine capA (K := K) (fun W0 hG hB hk hgr => ?_) | refine capAD (K := K) (fun W0 hG hB hk hgr => ?_)); have hSn := hSof _ (by first | exact hB _ _ hD0.1 hD0.1.size | exact hB _ _ HBR.out (Nat.le_refl _)); have HQ0 := hide hG; have HQ0L := hide hD0.1.size; (try have HNE := hide (Nat.ne_of_lt (blk_lt HQ11.out))); (try replace HQ11 := hide (hk _ _ HQ11.out)); clear hG hB hk hgr; (try dsimp only at hSn))
  refine hK.out _ _ ?_ (fun hD1 => ?_)
  · (try dsimp only); first | assumption | exact hSof _ (zbD HBR.out)
  clear hK K hD0; try simp only [Act.put, zl, z0, z1]
  refine wpAnyH_ready (rs := [3, 11]) (by kernel_rfl) (by simp) ?_; refine consL 3 rfl (fun K hK => ?_) ?_
  (refine step_app_Ps rfl (.tmp 10) (.tmp 12) rfl W1.heap.size _ [] 0 rfl (ownsP_empty HQ0.out HQ0L.out) rfl _ _ _ ps rfl HLN.out ((HRP.out.below hD1.1).mono hD1.1.size) HAN.out (by omega) (by omega) hD1.1.size nn (Nat.zero_add _) (fun A4 c4 W4 ho4 hg4 => ?_); have hSn := hSof _ (below_own hD1.1 (ownsP_empty HQ0.out HQ0L.out) hg4); have HO4 := hide ho4; (try replace HQ11 := hide ((hg4.block _ (blk_lt HQ11.out) (fun e => HNE.out (Option.some.inj e))).trans HQ11.out)); clear ho4 hg4 HQ0 HQ0L; (try dsimp only [List.nil_append] at hSn HO4))
  refine hK.out _ _ ?_ (fun hD2 => ?_)
  · (try dsimp only); first | assumption | exact hSof _ (zbD HBR.out)
  clear hK K hD1; try simp only [Act.put, zl, z0, z1]
  refine tL (v := ?_) 10 rfl (by kernel_rfl) (fun _ _ _ h => hp _ _ _ _ _ h) (Or.inl ⟨by rfl, ?_⟩) (by assumption) ?_; rotate_left
  · (intro w hSw; (try dsimp only at hSw); go_simp; try with_reducible rfl)
  try simp only [Act.put, zl, z0, z1]
  refine wpAnyH_ready (rs := [11]) (by kernel_rfl) (by simp) ?_; refine consL 11 rfl (fun K hK => ?_) AllReadyH.nil
  (go_simp; (first | refine capA (K := K) (fun W0 hG hB hk hgr => ?_) | refine capAD (K := K) (fun W0 hG hB hk hgr => ?_)); have hSn := hSof _ (by first | exact hB _ _ hD2.1 hD2.1.size | exact hB _ _ HBR.out (Nat.le_refl _)); (try have HNE := hide (Nat.ne_of_gt (blk_lt HQ0.out))); have HQ11 := hide (show W0.heap[_]? = some (Obj.cells #[.slice none 0 0, .slice none 0 0, .int .i64 0, .slice none 0 0] 53 (0, 0)) from hG); have HQ11L := hide hD2.1.size; (try replace HQ0 := hide (hk _ _ HQ0.out)); (try replace HO4 := hide (HO4.out.kept hgr (Classical.em _))); clear hG hB hk hgr; (try dsimp only at hSn))
  refine hK.out _ _ ?_ (fun hD3 => ?_)
  · (try dsimp only); first | assumption | exact hSof _ (zbD HBR.out)
  clear hK K hD2; try simp only [Act.put, zl, z0, z1]
  refine wpAnyH_ready (rs := [12]) (by kernel_rfl) (by simp) ?_; refine consL 12 rfl (fun K hK => ?_) AllReadyH.nil
  (refine step_row rfl 53 (.tmp 7) (.tmp 20) rfl _ _ rfl rfl 53 _ HQ11.out stSize rfl (HONE.out _ _ _) ?_; refine cap_row2 (K := K) HQ11.out (fun W9 hqr hgr hbr => ?_); have hSn := hSof _ (hbr _ hD3.1 HQ11L.out); have HQR := hide hqr; have HO9 := hide (HO4.out.kept hgr (.inr (row_ne HO4.out HQ11.out (by decide)))); clear hqr hgr hbr; (try dsimp only at hSn))
  refine hK.out _ _ ?_ (fun hD4 => ?_)
  · (try dsimp only); first | assumption | exact hSof _ (zbD HBR.out)
  clear hK K hD3; try simp only [Act.put, zl, z0, z1]
  refine wpAnyH_done (by kernel_rfl) ?_ _
  rotate_left 1
  refine consL 11 rfl (fun K hK => ?_) AllReadyH.nil
  (go_simp; (first | refine capA (K := K) (fun W0 hG hB hk hgr => ?_) | refine capAD (K := K) (fun W0 hG hB hk hgr => ?_)); have hSn := hSof _ (by first | exact hB _ _ hD1.1 hD1.1.size | exact hB _ _ HBR.out (Nat.le_refl _)); (try have HNE := hide (Nat.ne_of_gt (blk_lt HQ0.out))); have HQ11 := hide (show W0.heap[_]? = some (Obj.cells #[.slice none 0 0, .slice none 0 0, .int .i64 0, .slice none 0 0] 53 (0, 0)) from hG); have HQ11L := hide hD1.1.size; (try replace HQ0 := hide (hk _ _ HQ0.out)); (try replace HO4 := hide (HO4.out.kept hgr (Classical.em _))); clear hG hB hk hgr; (try dsimp only at hSn))
  refine hK.out _ _ ?_ (fun hD2 => ?_)
  · (try dsimp only); first | assumption | exact hSof _ (zbD HBR.out)
  clear hK K hD1; try simp only [Act.put, zl, z0, z1]
  refine wpAnyH_ready (rs := [3]) (by kernel_rfl) (by simp) ?_; refine consL 3 rfl (fun K hK => ?_) AllReadyH.nil
  (refine step_app_Ps rfl (.tmp 10) (.tmp 12) rfl W1.heap.size _ [] 0 rfl (ownsP_empty HQ0.out HQ0L.out) rfl _ _ _ ps rfl HLN.out ((HRP.out.below hD2.1).mono hD2.1.size) HAN.out (by omega) (by omega) hD2.1.size nn (Nat.zero_add _) (fun A4 c4 W4 ho4 hg4 => ?_); have hSn := hSof _ (below_own hD2.1 (ownsP_empty HQ0.out HQ0L.out) hg4); have HO4 := hide ho4; (try replace HQ11 := hide ((hg4.block _ (blk_lt HQ11.out) (fun e => HNE.out (Option.some.inj e))).trans HQ11.out)); clear ho4 hg4 HQ0 HQ0L; (try dsimp only [List.nil_append] at hSn HO4))
  refine hK.out _ _ ?_ (fun hD3 => ?_)
  · (try dsimp only); first | assumption | exact hSof _ (zbD HBR.out)
  clear hK K hD2; try simp only [Act.put, zl, z0, z1]
  refine tL (v := ?_) 10 rfl (by kernel_rfl) (fun _ _ _ h => hp _ _ _ _ _ h) (Or.inl ⟨by rfl, ?_⟩) (by assumption) ?_; rotate_left
  · (intro w hSw; (try dsimp only at hSw); go_simp; try with_reducible rfl)
  try simp only [Act.put, zl, z0, z1]
  refine wpAnyH_ready (rs := [12]) (by kernel_rfl) (by simp) ?_; refine consL 12 rfl (fun K hK => ?_) AllReadyH.nil
  (refine step_row rfl 53 (.tmp 7) (.tmp 20) rfl _ _ rfl rfl 53 _ HQ11.out stSize rfl (HONE.out _ _ _) ?_; refine cap_row2 (K := K) HQ11.out (fun W9 hqr hgr hbr => ?_); have hSn := hSof _ (hbr _ hD3.1 HQ11L.out); have HQR := hide hqr; have HO9 := hide (HO4.out.kept hgr (.inr (row_ne HO4.out HQ11.out (by decide)))); clear hqr hgr hbr; (try dsimp only at hSn))
  refine hK.out _ _ ?_ (fun hD4 => ?_)
  · (try dsimp only); first | assumption | exact hSof _ (zbD HBR.out)
  clear hK K hD3; try simp only [Act.put, zl, z0, z1]
  refine wpAnyH_done (by kernel_rfl) ?_ _
  rotate_left 1
  refine consL 11 rfl (fun K hK => ?_) AllReadyH.nil
  (go_simp; (first | refine capA (K := K) (fun W0 hG hB hk hgr => ?_) | refine capAD (K := K) (fun W0 hG hB hk hgr => ?_)); have hSn := hSof _ (by first | exact hB _ _ hD0.1 hD0.1.size | exact hB _ _ HBR.out (Nat.le_refl _)); (try have HNE := hide (Nat.ne_of_gt (blk_lt HQ0.out))); have HQ11 := hide (show W0.heap[_]? = some (Obj.cells #[.slice none 0 0, .slice none 0 0, .int .i64 0, .slice none 0 0] 53 (0, 0)) from hG); have HQ11L := hide hD0.1.size; (try replace HQ0 := hide (hk _ _ HQ0.out)); (try replace HO4 := hide (HO4.out.kept hgr (Classical.em _))); clear hG hB hk hgr; (try dsimp only at hSn))
  refine hK.out _ _ ?_ (fun hD1 => ?_)
  · (try dsimp only); first | assumption | exact hSof _ (zbD HBR.out)
  clear hK K hD0; try simp only [Act.put, zl, z0, z1]
  refine wpAnyH_ready (rs := [0]) (by kernel_rfl) (by simp) ?_; refine consL 0 rfl (fun K hK => ?_) AllReadyH.nil
  (go_simp; (first | refine capA (K := K) (fun W0 hG hB hk hgr => ?_) | refine capAD (K := K) (fun W0 hG hB hk hgr => ?_)); have hSn := hSof _ (by first | exact hB _ _ hD1.1 hD1.1.size | exact hB _ _ HBR.out (Nat.le_refl _)); have HQ0 := hide hG; have HQ0L := hide hD1.1.size; (try have HNE := hide (Nat.ne_of_lt (blk_lt HQ11.out))); (try replace HQ11 := hide (hk _ _ HQ11.out)); clear hG hB hk hgr; (try dsimp only at hSn))
  refine hK.out _ _ ?_ (fun hD2 => ?_)
  · (try dsimp only); first | assumption | exact hSof _ (zbD HBR.out)
  clear hK K hD1; try simp only [Act.put, zl, z0, z1]
  refine wpAnyH_ready (rs := [3]) (by kernel_rfl) (by simp) ?_; refine consL 3 rfl (fun K hK => ?_) AllReadyH.nil
  (refine step_app_Ps rfl (.tmp 10) (.tmp 12) rfl W1.heap.size _ [] 0 rfl (ownsP_empty HQ0.out HQ0L.out) rfl _ _ _ ps rfl HLN.out ((HRP.out.below hD2.1).mono hD2.1.size) HAN.out (by omega) (by omega) hD2.1.size nn (Nat.zero_add _) (fun A4 c4 W4 ho4 hg4 => ?_); have hSn := hSof _ (below_own hD2.1 (ownsP_empty HQ0.out HQ0L.out) hg4); have HO4 := hide ho4; (try replace HQ11 := hide ((hg4.block _ (blk_lt HQ11.out) (fun e => HNE.out (Option.some.inj e))).trans HQ11.out)); clear ho4 hg4 HQ0 HQ0L; (try dsimp only [List.nil_append] at hSn HO4))
  refine hK.out _ _ ?_ (fun hD3 => ?_)
  · (try dsimp only); first | assumption | exact hSof _ (zbD HBR.out)
  clear hK K hD2; try simp only [Act.put, zl, z0, z1]
  refine tL (v := ?_) 10 rfl (by kernel_rfl) (fun _ _ _ h => hp _ _ _ _ _ h) (Or.inl ⟨by rfl, ?_⟩) (by assumption) ?_; rotate_left
  · (intro w hSw; (try dsimp only at hSw); go_simp; try with_reducible rfl)
  try simp only [Act.put, zl, z0, z1]
  refine wpAnyH_ready (rs := [12]) (by kernel_rfl) (by simp) ?_; refine consL 12 rfl (fun K hK => ?_) AllReadyH.nil
  (refine step_row rfl 53 (.tmp 7) (.tmp 20) rfl _ _ rfl rfl 53 _ HQ11.out stSize rfl (HONE.out _ _ _) ?_; refine cap_row2 (K := K) HQ11.out (fun W9 hqr hgr hbr => ?_); have hSn := hSof _ (hbr _ hD3.1 HQ11L.out); have HQR := hide hqr; have HO9 := hide (HO4.out.kept hgr (.inr (row_ne HO4.out HQ11.out (by decide)))); clear hqr hgr hbr; (try dsimp only at hSn))
  refine hK.out _ _ ?_ (fun hD4 => ?_)
  · (try dsimp only); first | assumption | exact hSof _ (zbD HBR.out)
  clear hK K hD3; try simp only [Act.put, zl, z0, z1]
  refine wpAnyH_done (by kernel_rfl) ?_ _
  all_goals
    (try dsimp only [Act.put, List.getElem_toArray, List.getElem_cons_succ, List.getElem_cons_zero])
    (try simp only [zl, z0, z1])
    exact hK _ _ _ _ _ _ _ _ _ _ _ _ _ _ _ HQR HO9 HQ11L (hide hSn.1)

set_option maxRecDepth 100000 in
set_option maxHeartbeats 64000000 in
theorem rtake12 {K : Act → World → Prop} {Q : Exit → Act → World → Prop} (hp : ∀ c a d v w, Q (.panic c) (Act.put a d v) w → Q (.panic c) a w) (bx g : Nat) (x : E.Nt) (p : E.Rp) (W1 : World) (hbx : W1.heap[bx]? = some (.cells #[.int .i64 x.id, .int .i64 x.hour, .int .i64 x.kind, .int .i64 x.player, .int .i64 x.rank] 70 (0, 0))) (hg : W1.heap[g]? = some (.cells #[.int .i64 p.player, .int .i64 p.rank, .bool p.grd, .bool p.ent, .bool p.quit, .bool p.sgn, .bool p.card] 57 (0, 0))) (nbx : bx ≠ g) (f0 f1 f2 f3 f4 f6 f7 f8 f10 f11 f12 f13 f14 f15 f16 f17 f18 f19 f20 f21 f22 f23 f24 f25 f26 f27 f28 f29 f30 f31 f32 f33 f34 f35 f36 f37 f38 f39 f40 f41 f42 f43 f44 f45 f46 f47 f48 f49 f50 f51 f52 f53 f54 f55 f56 f57 f58 f59 f60 f61 f62 f63 f64 f65 f66 f67 f68 f69 f70 f71 f72 f73 f74 f75 f76 f77 f78 f79 f80 f81 f82 f83 f84 f85 f86 f87 f88 f89 f90 f91 f92 f93 f94 f95 f96 f97 f98 f99 f100 f101 f102 f103 f104 f105 f106 f107 f108 f109 f110 f111 f112 f113 f114 f115 f116 f117 f118 f119 f120 f121 f122 f123 f124 f125 f126 f127 f128 f129 f130 f131 f132 f133 f134 f135 f136 f137 f138 f139 f140 f141 f142 f143 f144 f145 f146 f147 f148 f149 f150 f151 f152 f153 f154 : Value)
    (hK : ∀ (u59 u60 u61 u62 u63 u64 u65 u66 : Value) (W2 : World), Hid (W2.heap[g]? = some (.cells #[.int .i64 p.player, .int .i64 x.rank, .bool (decide (x.kind = 2)), .bool true, .bool p.quit, .bool p.sgn, .bool p.card] 57 (0, 0))) → Hid (W1.grownBy W2 (some g)) → K ⟨#[f0, f1, f2, f3, f4, .pointer (some ⟨bx, 0, none⟩), f6, f7, f8, .pointer (some ⟨g, 0, none⟩), f10, f11, f12, f13, f14, f15, f16, f17, f18, f19, f20, f21, f22, f23, f24, f25, f26, f27, f28, f29, f30, f31, f32, f33, f34, f35, f36, f37, f38, f39, f40, f41, f42, f43, f44, f45, f46, f47, f48, f49, f50, f51, f52, f53, f54, f55, f56, f57, f58, u59, u60, u61, u62, u63, u64, u65, u66, f67, f68, f69, f70, f71, f72, f73, f74, f75, f76, f77, f78, f79, f80, f81, f82, f83, f84, f85, f86, f87, f88, f89, f90, f91, f92, f93, f94, f95, f96, f97, f98, f99, f100, f101, f102, f103, f104, f105, f106, f107, f108, f109, f110, f111, f112, f113, f114, f115, f116, f117, f118, f119, f120, f121, f122, f123, f124, f125, f126, f127, f128, f129, f130, f131, f132, f133, f134, f135, f136, f137, f138, f139, f140, f141, f142, f143, f144, f145, f146, f147, f148, f149, f150, f151, f152, f153, f154], []⟩ W2) :
    Code.wp Tryz.prog (rtakeReg 12) (Exit.then K Q) ⟨#[f0, f1, f2, f3, f4, .pointer (some ⟨bx, 0, none⟩), f6, f7, f8, .pointer (some ⟨g, 0, none⟩), f10, f11, f12, f13, f14, f15, f16, f17, f18, f19, f20, f21, f22, f23, f24, f25, f26, f27, f28, f29, f30, f31, f32, f33, f34, f35, f36, f37, f38, f39, f40, f41, f42, f43, f44, f45, f46, f47, f48, f49, f50, f51, f52, f53, f54, f55, f56, f57, f58, f59, f60, f61, f62, f63, f64, f65, f66, f67, f68, f69, f70, f71, f72, f73, f74, f75, f76, f77, f78, f79, f80, f81, f82, f83, f84, f85, f86, f87, f88, f89, f90, f91, f92, f93, f94, f95, f96, f97, f98, f99, f100, f101, f102, f103, f104, f105, f106, f107, f108, f109, f110, f111, f112, f113, f114, f115, f116, f117, f118, f119, f120, f121, f122, f123, f124, f125, f126, f127, f128, f129, f130, f131, f132, f133, f134, f135, f136, f137, f138, f139, f140, f141, f142, f143, f144, f145, f146, f147, f148, f149, f150, f151, f152, f153, f154], []⟩ W1 := by
  conv => arg 2; whnf
  have hSof : ∀ v, W1.grownBy v (some g) → (fun w' => W1.grownBy w' (some g) ∧ w'.cell? ⟨bx, 4, none⟩ = some (.int .i64 x.rank) ∧ w'.cell? ⟨bx, 2, none⟩ = some (.int .i64 x.kind)) v := by
    intro v hb
    have hxv := (hb.block bx (blk_lt hbx) (fun e => nbx (Option.some.inj e))).trans hbx
    exact ⟨hb, (blk_cell hxv 4).trans rfl, (blk_cell hxv 2).trans rfl⟩
  have hS : (fun w' => W1.grownBy w' (some g) ∧ w'.cell? ⟨bx, 4, none⟩ = some (.int .i64 x.rank) ∧ w'.cell? ⟨bx, 2, none⟩ = some (.int .i64 x.kind)) W1 := hSof _ (World.grownBy.refl _ _)
  (try dsimp only at hS)
  have R0 := hide (show W1.drew.heap[g]? = some (.cells #[.int .i64 p.player, .int .i64 p.rank, .bool p.grd, .bool p.ent, .bool p.quit, .bool p.sgn, .bool p.card] 57 (0, 0)) from hg)
  clear hbx hg
  refine wp_region_held_drew (S := (fun w' => W1.grownBy w' (some g) ∧ w'.cell? ⟨bx, 4, none⟩ = some (.int .i64 x.rank) ∧ w'.cell? ⟨bx, 2, none⟩ = some (.int .i64 x.kind))) (by kernel_rfl) ?_ (fun hD0 => ?_)
  · (try dsimp only); first | assumption | exact hSof _ (gr_drew _ _)
  refine tL (v := ?_) 0 rfl (by kernel_rfl) (fun _ _ _ h => hp _ _ _ _ _ h) (Or.inl ⟨by rfl, ?_⟩) (by assumption) ?_; rotate_left
  · (intro w hSw; (try dsimp only at hSw); go_simp; try with_reducible rfl)
  try simp only [Act.put, zl, z0, z1]
  refine tL (v := ?_) 1 rfl (by kernel_rfl) (fun _ _ _ h => hp _ _ _ _ _ h) (Or.inl ⟨by rfl, ?_⟩) (by assumption) ?_; rotate_left
  · (intro w hSw; (try dsimp only at hSw); go_simp; try with_reducible rfl)
  try simp only [Act.put, zl, z0, z1]
  refine tL (v := ?_) 2 rfl (by kernel_rfl) (fun _ _ _ h => hp _ _ _ _ _ h) (Or.inl ⟨by rfl, ?_⟩) (by assumption) ?_; rotate_left
  · (intro w hSw; (try dsimp only at hSw); go_simp; try with_reducible rfl)
  try simp only [Act.put, zl, z0, z1]
  refine tL (v := ?_) 3 rfl (by kernel_rfl) (fun _ _ _ h => hp _ _ _ _ _ h) (Or.inl ⟨by rfl, ?_⟩) (by assumption) ?_; rotate_left
  · (intro w hSw; (try dsimp only at hSw); go_simp; try with_reducible rfl)
  try simp only [Act.put, zl, z0, z1]
  refine tL (v := ?_) 4 rfl (by kernel_rfl) (fun _ _ _ h => hp _ _ _ _ _ h) (Or.inl ⟨by rfl, ?_⟩) (by assumption) ?_; rotate_left
  · (intro w hSw; (try dsimp only at hSw); go_simp; try with_reducible rfl)
  try simp only [Act.put, zl, z0, z1]
  refine tL (v := ?_) 5 rfl (by kernel_rfl) (fun _ _ _ h => hp _ _ _ _ _ h) (Or.inl ⟨by rfl, ?_⟩) (by assumption) ?_; rotate_left
  · (intro w hSw; (try dsimp only at hSw); go_simp; try with_reducible rfl)
  try simp only [Act.put, zl, z0, z1]
  refine wpAnyH_ready (rs := [6]) (by kernel_rfl) (by simp) ?_; refine consL 6 rfl (fun K hK => ?_) AllReadyH.nil
  (have cc : W1.drew.cell? ⟨g, 3, none⟩ = some (.bool p.ent) := (blk_cell R0.out 3).trans rfl; have ff := blk_frozen R0.out 3; go_simp; clear cc ff; refine cap_set R0.out (fun W10 hr hg9 => ?_); have hSn := hSof _ (gr_trans hD0.1 hg9); have R1 := hide hr; clear hr hg9; (try dsimp only at hSn))
  refine hK.out _ _ ?_ (fun hD1 => ?_)
  · (try dsimp only); first | assumption | exact hSof _ (gr_drew _ _)
  clear hK K hD0; try simp only [Act.put, zl, z0, z1]
  refine tL (v := ?_) 7 rfl (by kernel_rfl) (fun _ _ _ h => hp _ _ _ _ _ h) (Or.inl ⟨by rfl, ?_⟩) (by assumption) ?_; rotate_left
  · (intro w hSw; (try dsimp only at hSw); go_simp; try with_reducible rfl)
  try simp only [Act.put, zl, z0, z1]
  refine wpAnyH_ready (rs := [8]) (by kernel_rfl) (by simp) ?_; refine consL 8 rfl (fun K hK => ?_) AllReadyH.nil
  (have cc : W10.cell? ⟨g, 1, none⟩ = some (.int .i64 p.rank) := (blk_cell R1.out 1).trans rfl; have ff := blk_frozen R1.out 1; go_simp; clear cc ff; refine cap_set R1.out (fun W12 hr hg9 => ?_); have hSn := hSof _ (gr_trans hD1.1 hg9); have R2 := hide hr; clear hr hg9; (try dsimp only at hSn))
  refine hK.out _ _ ?_ (fun hD2 => ?_)
  · (try dsimp only); first | assumption | exact hSof _ (gr_drew _ _)
  clear hK K hD1; try simp only [Act.put, zl, z0, z1]
  refine tL (v := ?_) 9 rfl (by kernel_rfl) (fun _ _ _ h => hp _ _ _ _ _ h) (Or.inl ⟨by rfl, ?_⟩) (by assumption) ?_; rotate_left
  · (intro w hSw; (try dsimp only at hSw); go_simp; try with_reducible rfl)
  try simp only [Act.put, zl, z0, z1]
  refine wpAnyH_ready (rs := [10]) (by kernel_rfl) (by simp) ?_; refine consL 10 rfl (fun K hK => ?_) AllReadyH.nil
  (have cc : W12.cell? ⟨g, 2, none⟩ = some (.bool p.grd) := (blk_cell R2.out 2).trans rfl; have ff := blk_frozen R2.out 2; go_simp; clear cc ff; refine cap_set R2.out (fun W14 hr hg9 => ?_); have hSn := hSof _ (gr_trans hD2.1 hg9); have R3 := hide hr; clear hr hg9; (try dsimp only at hSn))
  refine hK.out _ _ ?_ (fun hD3 => ?_)
  · (try dsimp only); first | assumption | exact hSof _ (gr_drew _ _)
  clear hK K hD2; try simp only [Act.put, zl, z0, z1]
  refine wpAnyH_done (by kernel_rfl) ?_ _
  (try dsimp only [Act.put, List.getElem_toArray, List.getElem_cons_succ, List.getElem_cons_zero])
  (try simp only [zl, z0, z1])
  exact hK _ _ _ _ _ _ _ _ _ R3 (hide hSn.1)

end Go.Proofs.YtobjahlmjcnfoaaGreat

namespace Go.Proofs.YtobjahlmjcnfoaaGreat
open Go.RowKit Go.Sort
attribute [local go_sem ↓] Go.wp_at_zero Go.wp_at_succ

set_option maxRecDepth 100000 in
set_option maxHeartbeats 64000000 in
theorem rtake13 {K : Act → World → Prop} {Q : Exit → Act → World → Prop} (hp : ∀ c a d v w, Q (.panic c) (Act.put a d v) w → Q (.panic c) a w) (bo g n m c1 : Nat) (A1 : Option Addr) (ps : List E.Rp) (p : E.Rp) (wv iv : Value) (bk : Int) (base : Nat) (W1 : World) (hbo : W1.heap[bo]? = some (.cells #[.slice A1 m c1, wv, .int .i64 bk, iv] 53 (0, 0))) (hg : W1.heap[g]? = some (.cells #[.int .i64 p.player, .int .i64 p.rank, .bool p.grd, .bool p.ent, .bool p.quit, .bool p.sgn, .bool p.card] 57 (0, 0))) (hlen : ps.length = m) (hown : W1.ownsRow base 57 7 (.slice A1 m c1) m (flatP ps)) (hn : n < m) (hm : m ≤ 400) (f0 f1 f2 f3 f4 f5 f6 f10 f11 f12 f13 f14 f15 f16 f17 f18 f19 f20 f21 f22 f23 f24 f25 f26 f27 f28 f29 f30 f31 f32 f33 f34 f35 f36 f37 f38 f39 f40 f41 f42 f43 f44 f45 f46 f47 f48 f49 f50 f51 f52 f53 f54 f55 f56 f57 f58 f59 f60 f61 f62 f63 f64 f65 f66 f67 f68 f69 f70 f71 f72 f73 f74 f75 f76 f77 f78 f79 f80 f81 f82 f83 f84 f85 f86 f87 f88 f89 f90 f91 f92 f93 f94 f95 f96 f97 f98 f99 f100 f101 f102 f103 f104 f105 f106 f107 f108 f109 f110 f111 f112 f113 f114 f115 f116 f117 f118 f119 f120 f121 f122 f123 f124 f125 f126 f127 f128 f129 f130 f131 f132 f133 f134 f135 f136 f137 f138 f139 f140 f141 f142 f143 f144 f145 f146 f147 f148 f149 f150 f151 f152 f153 f154 : Value)
    (hK : ∀ (u67 u68 u69 u70 u71 u72 u73 u74 u75 u76 u77 u78 u79 u80 u81 u82 : Value) (A2 : Option Addr) (c2 : Nat) (W2 : World), Hid (W2.heap[bo]? = some (.cells #[.slice A2 m c2, wv, .int .i64 bk, iv] 53 (0, 0))) → Hid (W2.ownsRow W1.heap.size 57 7 (.slice A2 m c2) m (flatP (ps.take n ++ ps.drop (n + 1) ++ [p]))) → Hid (W1.grownBy W2 (some bo)) → K ⟨#[f0, f1, f2, f3, f4, f5, f6, .pointer (some ⟨bo, 0, none⟩), .int .i64 n, .pointer (some ⟨g, 0, none⟩), f10, f11, f12, f13, f14, f15, f16, f17, f18, f19, f20, f21, f22, f23, f24, f25, f26, f27, f28, f29, f30, f31, f32, f33, f34, f35, f36, f37, f38, f39, f40, f41, f42, f43, f44, f45, f46, f47, f48, f49, f50, f51, f52, f53, f54, f55, f56, f57, f58, f59, f60, f61, f62, f63, f64, f65, f66, u67, u68, u69, u70, u71, u72, u73, u74, u75, u76, u77, u78, u79, u80, u81, u82, f83, f84, f85, f86, f87, f88, f89, f90, f91, f92, f93, f94, f95, f96, f97, f98, f99, f100, f101, f102, f103, f104, f105, f106, f107, f108, f109, f110, f111, f112, f113, f114, f115, f116, f117, f118, f119, f120, f121, f122, f123, f124, f125, f126, f127, f128, f129, f130, f131, f132, f133, f134, f135, f136, f137, f138, f139, f140, f141, f142, f143, f144, f145, f146, f147, f148, f149, f150, f151, f152, f153, f154], []⟩ W2) :
    Code.wp Tryz.prog (rtakeReg 13) (Exit.then K Q) ⟨#[f0, f1, f2, f3, f4, f5, f6, .pointer (some ⟨bo, 0, none⟩), .int .i64 n, .pointer (some ⟨g, 0, none⟩), f10, f11, f12, f13, f14, f15, f16, f17, f18, f19, f20, f21, f22, f23, f24, f25, f26, f27, f28, f29, f30, f31, f32, f33, f34, f35, f36, f37, f38, f39, f40, f41, f42, f43, f44, f45, f46, f47, f48, f49, f50, f51, f52, f53, f54, f55, f56, f57, f58, f59, f60, f61, f62, f63, f64, f65, f66, f67, f68, f69, f70, f71, f72, f73, f74, f75, f76, f77, f78, f79, f80, f81, f82, f83, f84, f85, f86, f87, f88, f89, f90, f91, f92, f93, f94, f95, f96, f97, f98, f99, f100, f101, f102, f103, f104, f105, f106, f107, f108, f109, f110, f111, f112, f113, f114, f115, f116, f117, f118, f119, f120, f121, f122, f123, f124, f125, f126, f127, f128, f129, f130, f131, f132, f133, f134, f135, f136, f137, f138, f139, f140, f141, f142, f143, f144, f145, f146, f147, f148, f149, f150, f151, f152, f153, f154], []⟩ W1 := by
  conv => arg 2; whnf
  have hSof : ∀ w' : World, Below W1.heap.size W1 w' → (fun w' => Below W1.heap.size W1 w' ∧ w'.cell? ⟨bo, 0, none⟩ = some (.slice A1 m c1) ∧ w'.frozen? ⟨bo, 0, none⟩ = false ∧ w'.cell? ⟨g, 0, none⟩ = some (.int .i64 p.player) ∧ w'.cell? ⟨g, 1, none⟩ = some (.int .i64 p.rank) ∧ w'.cell? ⟨g, 2, none⟩ = some (.bool p.grd) ∧ w'.cell? ⟨g, 3, none⟩ = some (.bool p.ent) ∧ w'.cell? ⟨g, 4, none⟩ = some (.bool p.quit) ∧ w'.cell? ⟨g, 5, none⟩ = some (.bool p.sgn) ∧ w'.cell? ⟨g, 6, none⟩ = some (.bool p.card)) w' := fun w' hb => by have h := (hb.block bo (blk_lt hbo)).trans hbo; have h2 := (hb.block g (blk_lt hg)).trans hg; exact ⟨hb, (blk_cell h 0).trans rfl, blk_frozen h 0, (blk_cell h2 0).trans rfl, (blk_cell h2 1).trans rfl, (blk_cell h2 2).trans rfl, (blk_cell h2 3).trans rfl, (blk_cell h2 4).trans rfl, (blk_cell h2 5).trans rfl, (blk_cell h2 6).trans rfl⟩
  have hS : (fun w' => Below W1.heap.size W1 w' ∧ w'.cell? ⟨bo, 0, none⟩ = some (.slice A1 m c1) ∧ w'.frozen? ⟨bo, 0, none⟩ = false ∧ w'.cell? ⟨g, 0, none⟩ = some (.int .i64 p.player) ∧ w'.cell? ⟨g, 1, none⟩ = some (.int .i64 p.rank) ∧ w'.cell? ⟨g, 2, none⟩ = some (.bool p.grd) ∧ w'.cell? ⟨g, 3, none⟩ = some (.bool p.ent) ∧ w'.cell? ⟨g, 4, none⟩ = some (.bool p.quit) ∧ w'.cell? ⟨g, 5, none⟩ = some (.bool p.sgn) ∧ w'.cell? ⟨g, 6, none⟩ = some (.bool p.card)) W1 := hSof _ (zbR _ _)
  (try dsimp only at hS)
  have HBR := hide (show Below W1.heap.size W1 W1 from zbR _ _)
  have hmc : m ≤ c1 := own_cap hown
  have hn0 : (0 : Int) ≤ (n : Int) := by omega
  have hn1 : (n : Int) ≤ (m : Int) := by omega
  have hn2 : (n : Int) ≤ (c1 : Int) := by omega
  have hn3 : (n : Int) + 1 ≤ (m : Int) := by omega
  have hn4 : (n : Int) + 1 ≤ (c1 : Int) := by omega
  have hn5 : (0 : Int) ≤ (n : Int) + 1 := by omega
  have hnw : IntKind.i64.wrap ((n : Int) + 1) = (n : Int) + 1 := IntWalk.i64_in _ (by omega)
  have HLN := hide hlen
  have HLO := hide ((owns_RdP hown hlen).take n)
  have HHI := hide (sl_hi hown hlen (show n + 1 ≤ m by omega))
  have HHN := hide (sl_hi_nil (a := n + 1) hown)
  have HCN := hide (own_nil hown)
  have HBO := hide hbo
  clear hbo hg hlen hown
  refine wp_region_T_drew (S := (fun w' => Below W1.heap.size W1 w' ∧ w'.cell? ⟨bo, 0, none⟩ = some (.slice A1 m c1) ∧ w'.frozen? ⟨bo, 0, none⟩ = false ∧ w'.cell? ⟨g, 0, none⟩ = some (.int .i64 p.player) ∧ w'.cell? ⟨g, 1, none⟩ = some (.int .i64 p.rank) ∧ w'.cell? ⟨g, 2, none⟩ = some (.bool p.grd) ∧ w'.cell? ⟨g, 3, none⟩ = some (.bool p.ent) ∧ w'.cell? ⟨g, 4, none⟩ = some (.bool p.quit) ∧ w'.cell? ⟨g, 5, none⟩ = some (.bool p.sgn) ∧ w'.cell? ⟨g, 6, none⟩ = some (.bool p.card))) 16 (by kernel_rfl) ?_ (fun hD0 => ?_)
  · (try dsimp only); first | assumption | exact hSof _ (zbD HBR.out)
  refine takeT (v := ?_) 1 rfl (by kernel_rfl) (by kernel_rfl) (by kernel_rfl) (by kernel_rfl) (fun _ _ _ h => hp _ _ _ _ _ h) (Or.inl ⟨by rfl, ?_⟩) (by assumption) ?_; rotate_left
  · (intro w hSw; (try dsimp only at hSw); go_simp; try with_reducible rfl)
  try simp only [Act.put, zl, z0, z1]
  refine takeT (v := ?_) 2 rfl (by kernel_rfl) (by kernel_rfl) (by kernel_rfl) (by kernel_rfl) (fun _ _ _ h => hp _ _ _ _ _ h) (Or.inl ⟨by rfl, ?_⟩) (by assumption) ?_; rotate_left
  · (intro w hSw; (try dsimp only at hSw); go_simp; try with_reducible rfl)
  try simp only [Act.put, zl, z0, z1]
  refine takeT (v := ?_) 3 rfl (by kernel_rfl) (by kernel_rfl) (by kernel_rfl) (by kernel_rfl) (fun _ _ _ h => hp _ _ _ _ _ h) (Or.inl ⟨by rfl, ?_⟩) (by assumption) ?_; rotate_left
  · (intro w hSw; (try dsimp only at hSw); go_simp; try with_reducible rfl)
  try simp only [Act.put, zl, z0, z1]
  refine takeT (v := ?_) 4 rfl (by kernel_rfl) (by kernel_rfl) (by kernel_rfl) (by kernel_rfl) (fun _ _ _ h => hp _ _ _ _ _ h) (Or.inl ⟨by rfl, ?_⟩) (by assumption) ?_; rotate_left
  · (intro w hSw; (try dsimp only at hSw); go_simp; try with_reducible rfl)
  try simp only [Act.put, zl, z0, z1]
  refine takeT (v := ?_) 6 rfl (by kernel_rfl) (by kernel_rfl) (by kernel_rfl) (by kernel_rfl) (fun _ _ _ h => hp _ _ _ _ _ h) (Or.inl ⟨by rfl, ?_⟩) (by assumption) ?_; rotate_left
  · (intro w hSw; (try dsimp only at hSw); go_simp; try with_reducible rfl)
  try simp only [Act.put, zl, z0, z1]
  refine takeT (v := ?_) 7 rfl (by kernel_rfl) (by kernel_rfl) (by kernel_rfl) (by kernel_rfl) (fun _ _ _ h => hp _ _ _ _ _ h) (Or.inl ⟨by rfl, ?_⟩) (by assumption) ?_; rotate_left
  · (intro w hSw; (try dsimp only at hSw); go_simp; try with_reducible rfl)
  try simp only [Act.put, zl, z0, z1]
  refine takeT (v := ?_) 8 rfl (by kernel_rfl) (by kernel_rfl) (by kernel_rfl) (by kernel_rfl) (fun _ _ _ h => hp _ _ _ _ _ h) (Or.inl ⟨by rfl, ?_⟩) (by assumption) ?_; rotate_left
  · (intro w hSw; (try dsimp only at hSw); go_simp; try with_reducible rfl)
  try simp only [Act.put, zl, z0, z1]
  refine takeT (v := ?_) 9 rfl (by kernel_rfl) (by kernel_rfl) (by kernel_rfl) (by kernel_rfl) (fun _ _ _ h => hp _ _ _ _ _ h) (Or.inl ⟨by rfl, ?_⟩) (by assumption) ?_; rotate_left
  · (intro w hSw; (try dsimp only at hSw); go_simp; try with_reducible rfl)
  try simp only [Act.put, zl, z0, z1]
  refine takeT (v := ?_) 10 rfl (by kernel_rfl) (by kernel_rfl) (by kernel_rfl) (by kernel_rfl) (fun _ _ _ h => hp _ _ _ _ _ h) (Or.inl ⟨by rfl, ?_⟩) (by assumption) ?_; rotate_left
  · (intro w hSw; (try dsimp only at hSw); go_simp; try with_reducible rfl)
  try simp only [Act.put, zl, z0, z1]
  refine takeT (v := ?_) 12 rfl (by kernel_rfl) (by kernel_rfl) (by kernel_rfl) (by kernel_rfl) (fun _ _ _ h => hp _ _ _ _ _ h) (Or.inl ⟨by rfl, ?_⟩) (by assumption) ?_; rotate_left
  · (intro w hSw; (try dsimp only at hSw); go_simp; try with_reducible rfl)
  try simp only [Act.put, zl, z0, z1]
  refine wpAnyT_ready (rs := [0, 13]) (by kernel_rfl) (by simp) ?_; refine consT 0 rfl (fun K hK => ?_) ?_
  (go_simp; (first | refine capA (K := K) (fun W0 hG hB hk hgr => ?_) | refine capAD (K := K) (fun W0 hG hB hk hgr => ?_)); have hSn := hSof _ (by first | exact hB _ _ hD0.1 hD0.1.size | exact hB _ _ HBR.out (Nat.le_refl _)); have HQ0 := hide hG; have HQ0L := hide hD0.1.size; (try have HNE := hide (Nat.ne_of_lt (blk_lt HQ6.out))); (try replace HQ6 := hide (hk _ _ HQ6.out)); clear hG hB hk hgr; (try dsimp only at hSn))
  refine hK.out _ _ ?_ (fun hD1 => ?_)
  · (try dsimp only); first | assumption | exact hSof _ (zbD HBR.out)
  clear hK K hD0; try simp only [Act.put, zl, z0, z1]
  refine wpAnyT_ready (rs := [5, 13]) (by kernel_rfl) (by simp) ?_; refine consT 5 rfl (fun K hK => ?_) ?_
  (refine step_app_PsL rfl (.tmp 67) (.tmp 71) rfl W1.heap.size _ [] 0 rfl (ownsP_empty HQ0.out HQ0L.out) rfl _ _ _ (ps.take n) rfl (by rw [List.length_take, HLN.out]; omega) ((HLO.out.below hD1.1).mono hD1.1.size) HCN.out (by omega) (by omega) hD1.1.size n (Nat.zero_add _) (fun A4 c4 W4 ho4 hg4 hl4 => ?_); have hSn := hSof _ (below_own hD1.1 (ownsP_empty HQ0.out HQ0L.out) hg4); have HO4 := hide ho4; (try have HN4 := hide (loc_ne hl4 (fun e => HNE.out (Option.some.inj e).symm) (blk_lt HQ6.out))); (try replace HQ6 := hide ((hg4.block _ (blk_lt HQ6.out) (fun e => HNE.out (Option.some.inj e))).trans HQ6.out)); clear ho4 hg4 hl4 HQ0 HQ0L; (try dsimp only [List.nil_append] at hSn HO4))
  refine hK.out _ _ ?_ (fun hD2 => ?_)
  · (try dsimp only); first | assumption | exact hSof _ (zbD HBR.out)
  clear hK K hD1; try simp only [Act.put, zl, z0, z1]
  refine wpAnyT_ready (rs := [11, 13]) (by kernel_rfl) (by simp) ?_; refine consT 11 rfl (fun K hK => ?_) ?_
  (refine step_app_PsL rfl (.tmp 72) (.tmp 77) rfl W1.heap.size _ (ps.take n) _ rfl HO4.out (by rw [List.length_take, HLN.out]; omega) _ _ _ (ps.drop (n + 1)) rfl (by rw [List.length_drop, HLN.out]) ((HHI.out.below hD2.1).mono hD2.1.size) HHN.out (by omega) (by omega) hD2.1.size (m - 1) (by omega) (fun A5 c5 W5 ho5 hg5 hl5 => ?_); have hSn := hSof _ (below_own hD2.1 HO4.out hg5); have HO5 := hide ho5; (try have HN5 := hide (loc_ne hl5 HN4.out (blk_lt HQ6.out))); (try replace HQ6 := hide ((hg5.block _ (blk_lt HQ6.out) (fun e => HN4.out e.symm)).trans HQ6.out)); clear ho5 hg5 hl5 HO4; (try dsimp only at hSn))
  refine hK.out _ _ ?_ (fun hD3 => ?_)
  · (try dsimp only); first | assumption | exact hSof _ (zbD HBR.out)
  clear hK K hD2; try simp only [Act.put, zl, z0, z1]
  refine wpAnyT_ready (rs := [13]) (by kernel_rfl) (by simp) ?_; refine consT 13 rfl (fun K hK => ?_) AllReadyT.nil
  (go_simp; (first | refine capA (K := K) (fun W0 hG hB hk hgr => ?_) | refine capAD (K := K) (fun W0 hG hB hk hgr => ?_)); have hSn := hSof _ (by first | exact hB _ _ hD3.1 hD3.1.size | exact hB _ _ HBR.out (Nat.le_refl _)); (try have HNE := hide (Nat.ne_of_gt (blk_lt HQ0.out))); (try have HN4 := hide (own_fresh HO4.out)); (try have HN5 := hide (own_fresh HO5.out)); have HQ6 := hide (show W0.heap[_]? = some (Obj.cells (pc p).toArray 57 (0, 0)) from hG); (try replace HQ0 := hide (hk _ _ HQ0.out)); (try replace HO4 := hide (HO4.out.kept hgr (Classical.em _))); (try replace HO5 := hide (HO5.out.kept hgr (Classical.em _))); clear hG hB hk hgr; (try dsimp only at hSn))
  refine hK.out _ _ ?_ (fun hD4 => ?_)
  · (try dsimp only); first | assumption | exact hSof _ (zbD HBR.out)
  clear hK K hD3; try simp only [Act.put, zl, z0, z1]
  refine wpAnyT_ready (rs := [14]) (by kernel_rfl) (by simp) ?_; refine consT 14 rfl (fun K hK => ?_) AllReadyT.nil
  (refine step_app_PsL rfl (.tmp 78) (.tmp 80) rfl W1.heap.size _ (ps.take n ++ ps.drop (n + 1)) _ rfl HO5.out (by rw [List.length_append, List.length_take, List.length_drop, HLN.out]; omega) _ _ _ [p] rfl rfl (rdP_one HQ6.out) (fun e => by cases e) (by omega) (by omega) hD4.1.size m (by omega) (fun A6 c6 W6 ho6 hg6 _ => ?_); have hSn := hSof _ (below_own hD4.1 HO5.out hg6); have HO6 := hide ho6; clear ho6 hg6 HO5; (try dsimp only at hSn))
  refine hK.out _ _ ?_ (fun hD5 => ?_)
  · (try dsimp only); first | assumption | exact hSof _ (zbD HBR.out)
  clear hK K hD4; try simp only [Act.put, zl, z0, z1]
  refine takeT (v := ?_) 15 rfl (by kernel_rfl) (by kernel_rfl) (by kernel_rfl) (by kernel_rfl) (fun _ _ _ h => hp _ _ _ _ _ h) (Or.inl ⟨by rfl, ?_⟩) (by assumption) ?_; rotate_left
  · (intro w hSw; (try dsimp only at hSw); go_simp; try with_reducible rfl)
  try simp only [Act.put, zl, z0, z1]
  refine wpAnyT_ready (rs := [16]) (by kernel_rfl) (by simp) ?_
  refine lastT rfl (fun K hK => ?_)
  (try dsimp only at hD5)
  go_simp
  refine hK.out _ _ ?_
  clear hK K
  try simp only [Act.put, zl, z0, z1]
  refine wpAnyT_done (by kernel_rfl) ?_ _
  rotate_left 1
  refine consT 13 rfl (fun K hK => ?_) AllReadyT.nil
  (go_simp; (first | refine capA (K := K) (fun W0 hG hB hk hgr => ?_) | refine capAD (K := K) (fun W0 hG hB hk hgr => ?_)); have hSn := hSof _ (by first | exact hB _ _ hD2.1 hD2.1.size | exact hB _ _ HBR.out (Nat.le_refl _)); (try have HNE := hide (Nat.ne_of_gt (blk_lt HQ0.out))); (try have HN4 := hide (own_fresh HO4.out)); (try have HN5 := hide (own_fresh HO5.out)); have HQ6 := hide (show W0.heap[_]? = some (Obj.cells (pc p).toArray 57 (0, 0)) from hG); (try replace HQ0 := hide (hk _ _ HQ0.out)); (try replace HO4 := hide (HO4.out.kept hgr (Classical.em _))); (try replace HO5 := hide (HO5.out.kept hgr (Classical.em _))); clear hG hB hk hgr; (try dsimp only at hSn))
  refine hK.out _ _ ?_ (fun hD3 => ?_)
  · (try dsimp only); first | assumption | exact hSof _ (zbD HBR.out)
  clear hK K hD2; try simp only [Act.put, zl, z0, z1]
  refine wpAnyT_ready (rs := [11]) (by kernel_rfl) (by simp) ?_; refine consT 11 rfl (fun K hK => ?_) AllReadyT.nil
  (refine step_app_PsL rfl (.tmp 72) (.tmp 77) rfl W1.heap.size _ (ps.take n) _ rfl HO4.out (by rw [List.length_take, HLN.out]; omega) _ _ _ (ps.drop (n + 1)) rfl (by rw [List.length_drop, HLN.out]) ((HHI.out.below hD3.1).mono hD3.1.size) HHN.out (by omega) (by omega) hD3.1.size (m - 1) (by omega) (fun A5 c5 W5 ho5 hg5 hl5 => ?_); have hSn := hSof _ (below_own hD3.1 HO4.out hg5); have HO5 := hide ho5; (try have HN5 := hide (loc_ne hl5 HN4.out (blk_lt HQ6.out))); (try replace HQ6 := hide ((hg5.block _ (blk_lt HQ6.out) (fun e => HN4.out e.symm)).trans HQ6.out)); clear ho5 hg5 hl5 HO4; (try dsimp only at hSn))
  refine hK.out _ _ ?_ (fun hD4 => ?_)
  · (try dsimp only); first | assumption | exact hSof _ (zbD HBR.out)
  clear hK K hD3; try simp only [Act.put, zl, z0, z1]
  refine wpAnyT_ready (rs := [14]) (by kernel_rfl) (by simp) ?_; refine consT 14 rfl (fun K hK => ?_) AllReadyT.nil
  (refine step_app_PsL rfl (.tmp 78) (.tmp 80) rfl W1.heap.size _ (ps.take n ++ ps.drop (n + 1)) _ rfl HO5.out (by rw [List.length_append, List.length_take, List.length_drop, HLN.out]; omega) _ _ _ [p] rfl rfl (rdP_one HQ6.out) (fun e => by cases e) (by omega) (by omega) hD4.1.size m (by omega) (fun A6 c6 W6 ho6 hg6 _ => ?_); have hSn := hSof _ (below_own hD4.1 HO5.out hg6); have HO6 := hide ho6; clear ho6 hg6 HO5; (try dsimp only at hSn))
  refine hK.out _ _ ?_ (fun hD5 => ?_)
  · (try dsimp only); first | assumption | exact hSof _ (zbD HBR.out)
  clear hK K hD4; try simp only [Act.put, zl, z0, z1]
  refine takeT (v := ?_) 15 rfl (by kernel_rfl) (by kernel_rfl) (by kernel_rfl) (by kernel_rfl) (fun _ _ _ h => hp _ _ _ _ _ h) (Or.inl ⟨by rfl, ?_⟩) (by assumption) ?_; rotate_left
  · (intro w hSw; (try dsimp only at hSw); go_simp; try with_reducible rfl)
  try simp only [Act.put, zl, z0, z1]
  refine wpAnyT_ready (rs := [16]) (by kernel_rfl) (by simp) ?_
  refine lastT rfl (fun K hK => ?_)
  (try dsimp only at hD5)
  go_simp
  refine hK.out _ _ ?_
  clear hK K
  try simp only [Act.put, zl, z0, z1]
  refine wpAnyT_done (by kernel_rfl) ?_ _
  rotate_left 1
  refine consT 13 rfl (fun K hK => ?_) AllReadyT.nil
  (go_simp; (first | refine capA (K := K) (fun W0 hG hB hk hgr => ?_) | refine capAD (K := K) (fun W0 hG hB hk hgr => ?_)); have hSn := hSof _ (by first | exact hB _ _ hD1.1 hD1.1.size | exact hB _ _ HBR.out (Nat.le_refl _)); (try have HNE := hide (Nat.ne_of_gt (blk_lt HQ0.out))); (try have HN4 := hide (own_fresh HO4.out)); (try have HN5 := hide (own_fresh HO5.out)); have HQ6 := hide (show W0.heap[_]? = some (Obj.cells (pc p).toArray 57 (0, 0)) from hG); (try replace HQ0 := hide (hk _ _ HQ0.out)); (try replace HO4 := hide (HO4.out.kept hgr (Classical.em _))); (try replace HO5 := hide (HO5.out.kept hgr (Classical.em _))); clear hG hB hk hgr; (try dsimp only at hSn))
  refine hK.out _ _ ?_ (fun hD2 => ?_)
  · (try dsimp only); first | assumption | exact hSof _ (zbD HBR.out)
  clear hK K hD1; try simp only [Act.put, zl, z0, z1]
  refine wpAnyT_ready (rs := [5]) (by kernel_rfl) (by simp) ?_; refine consT 5 rfl (fun K hK => ?_) AllReadyT.nil
  (refine step_app_PsL rfl (.tmp 67) (.tmp 71) rfl W1.heap.size _ [] 0 rfl (ownsP_empty HQ0.out HQ0L.out) rfl _ _ _ (ps.take n) rfl (by rw [List.length_take, HLN.out]; omega) ((HLO.out.below hD2.1).mono hD2.1.size) HCN.out (by omega) (by omega) hD2.1.size n (Nat.zero_add _) (fun A4 c4 W4 ho4 hg4 hl4 => ?_); have hSn := hSof _ (below_own hD2.1 (ownsP_empty HQ0.out HQ0L.out) hg4); have HO4 := hide ho4; (try have HN4 := hide (loc_ne hl4 (fun e => HNE.out (Option.some.inj e).symm) (blk_lt HQ6.out))); (try replace HQ6 := hide ((hg4.block _ (blk_lt HQ6.out) (fun e => HNE.out (Option.some.inj e))).trans HQ6.out)); clear ho4 hg4 hl4 HQ0 HQ0L; (try dsimp only [List.nil_append] at hSn HO4))
  refine hK.out _ _ ?_ (fun hD3 => ?_)
  · (try dsimp only); first | assumption | exact hSof _ (zbD HBR.out)
  clear hK K hD2; try simp only [Act.put, zl, z0, z1]
  refine wpAnyT_ready (rs := [11]) (by kernel_rfl) (by simp) ?_; refine consT 11 rfl (fun K hK => ?_) AllReadyT.nil
  (refine step_app_PsL rfl (.tmp 72) (.tmp 77) rfl W1.heap.size _ (ps.take n) _ rfl HO4.out (by rw [List.length_take, HLN.out]; omega) _ _ _ (ps.drop (n + 1)) rfl (by rw [List.length_drop, HLN.out]) ((HHI.out.below hD3.1).mono hD3.1.size) HHN.out (by omega) (by omega) hD3.1.size (m - 1) (by omega) (fun A5 c5 W5 ho5 hg5 hl5 => ?_); have hSn := hSof _ (below_own hD3.1 HO4.out hg5); have HO5 := hide ho5; (try have HN5 := hide (loc_ne hl5 HN4.out (blk_lt HQ6.out))); (try replace HQ6 := hide ((hg5.block _ (blk_lt HQ6.out) (fun e => HN4.out e.symm)).trans HQ6.out)); clear ho5 hg5 hl5 HO4; (try dsimp only at hSn))
  refine hK.out _ _ ?_ (fun hD4 => ?_)
  · (try dsimp only); first | assumption | exact hSof _ (zbD HBR.out)
  clear hK K hD3; try simp only [Act.put, zl, z0, z1]
  refine wpAnyT_ready (rs := [14]) (by kernel_rfl) (by simp) ?_; refine consT 14 rfl (fun K hK => ?_) AllReadyT.nil
  (refine step_app_PsL rfl (.tmp 78) (.tmp 80) rfl W1.heap.size _ (ps.take n ++ ps.drop (n + 1)) _ rfl HO5.out (by rw [List.length_append, List.length_take, List.length_drop, HLN.out]; omega) _ _ _ [p] rfl rfl (rdP_one HQ6.out) (fun e => by cases e) (by omega) (by omega) hD4.1.size m (by omega) (fun A6 c6 W6 ho6 hg6 _ => ?_); have hSn := hSof _ (below_own hD4.1 HO5.out hg6); have HO6 := hide ho6; clear ho6 hg6 HO5; (try dsimp only at hSn))
  refine hK.out _ _ ?_ (fun hD5 => ?_)
  · (try dsimp only); first | assumption | exact hSof _ (zbD HBR.out)
  clear hK K hD4; try simp only [Act.put, zl, z0, z1]
  refine takeT (v := ?_) 15 rfl (by kernel_rfl) (by kernel_rfl) (by kernel_rfl) (by kernel_rfl) (fun _ _ _ h => hp _ _ _ _ _ h) (Or.inl ⟨by rfl, ?_⟩) (by assumption) ?_; rotate_left
  · (intro w hSw; (try dsimp only at hSw); go_simp; try with_reducible rfl)
  try simp only [Act.put, zl, z0, z1]
  refine wpAnyT_ready (rs := [16]) (by kernel_rfl) (by simp) ?_
  refine lastT rfl (fun K hK => ?_)
  (try dsimp only at hD5)
  go_simp
  refine hK.out _ _ ?_
  clear hK K
  try simp only [Act.put, zl, z0, z1]
  refine wpAnyT_done (by kernel_rfl) ?_ _
  rotate_left 1
  refine consT 13 rfl (fun K hK => ?_) AllReadyT.nil
  (go_simp; (first | refine capA (K := K) (fun W0 hG hB hk hgr => ?_) | refine capAD (K := K) (fun W0 hG hB hk hgr => ?_)); have hSn := hSof _ (by first | exact hB _ _ hD0.1 hD0.1.size | exact hB _ _ HBR.out (Nat.le_refl _)); (try have HNE := hide (Nat.ne_of_gt (blk_lt HQ0.out))); (try have HN4 := hide (own_fresh HO4.out)); (try have HN5 := hide (own_fresh HO5.out)); have HQ6 := hide (show W0.heap[_]? = some (Obj.cells (pc p).toArray 57 (0, 0)) from hG); (try replace HQ0 := hide (hk _ _ HQ0.out)); (try replace HO4 := hide (HO4.out.kept hgr (Classical.em _))); (try replace HO5 := hide (HO5.out.kept hgr (Classical.em _))); clear hG hB hk hgr; (try dsimp only at hSn))
  refine hK.out _ _ ?_ (fun hD1 => ?_)
  · (try dsimp only); first | assumption | exact hSof _ (zbD HBR.out)
  clear hK K hD0; try simp only [Act.put, zl, z0, z1]
  refine wpAnyT_ready (rs := [0]) (by kernel_rfl) (by simp) ?_; refine consT 0 rfl (fun K hK => ?_) AllReadyT.nil
  (go_simp; (first | refine capA (K := K) (fun W0 hG hB hk hgr => ?_) | refine capAD (K := K) (fun W0 hG hB hk hgr => ?_)); have hSn := hSof _ (by first | exact hB _ _ hD1.1 hD1.1.size | exact hB _ _ HBR.out (Nat.le_refl _)); have HQ0 := hide hG; have HQ0L := hide hD1.1.size; (try have HNE := hide (Nat.ne_of_lt (blk_lt HQ6.out))); (try replace HQ6 := hide (hk _ _ HQ6.out)); clear hG hB hk hgr; (try dsimp only at hSn))
  refine hK.out _ _ ?_ (fun hD2 => ?_)
  · (try dsimp only); first | assumption | exact hSof _ (zbD HBR.out)
  clear hK K hD1; try simp only [Act.put, zl, z0, z1]
  refine wpAnyT_ready (rs := [5]) (by kernel_rfl) (by simp) ?_; refine consT 5 rfl (fun K hK => ?_) AllReadyT.nil
  (refine step_app_PsL rfl (.tmp 67) (.tmp 71) rfl W1.heap.size _ [] 0 rfl (ownsP_empty HQ0.out HQ0L.out) rfl _ _ _ (ps.take n) rfl (by rw [List.length_take, HLN.out]; omega) ((HLO.out.below hD2.1).mono hD2.1.size) HCN.out (by omega) (by omega) hD2.1.size n (Nat.zero_add _) (fun A4 c4 W4 ho4 hg4 hl4 => ?_); have hSn := hSof _ (below_own hD2.1 (ownsP_empty HQ0.out HQ0L.out) hg4); have HO4 := hide ho4; (try have HN4 := hide (loc_ne hl4 (fun e => HNE.out (Option.some.inj e).symm) (blk_lt HQ6.out))); (try replace HQ6 := hide ((hg4.block _ (blk_lt HQ6.out) (fun e => HNE.out (Option.some.inj e))).trans HQ6.out)); clear ho4 hg4 hl4 HQ0 HQ0L; (try dsimp only [List.nil_append] at hSn HO4))
  refine hK.out _ _ ?_ (fun hD3 => ?_)
  · (try dsimp only); first | assumption | exact hSof _ (zbD HBR.out)
  clear hK K hD2; try simp only [Act.put, zl, z0, z1]
  refine wpAnyT_ready (rs := [11]) (by kernel_rfl) (by simp) ?_; refine consT 11 rfl (fun K hK => ?_) AllReadyT.nil
  (refine step_app_PsL rfl (.tmp 72) (.tmp 77) rfl W1.heap.size _ (ps.take n) _ rfl HO4.out (by rw [List.length_take, HLN.out]; omega) _ _ _ (ps.drop (n + 1)) rfl (by rw [List.length_drop, HLN.out]) ((HHI.out.below hD3.1).mono hD3.1.size) HHN.out (by omega) (by omega) hD3.1.size (m - 1) (by omega) (fun A5 c5 W5 ho5 hg5 hl5 => ?_); have hSn := hSof _ (below_own hD3.1 HO4.out hg5); have HO5 := hide ho5; (try have HN5 := hide (loc_ne hl5 HN4.out (blk_lt HQ6.out))); (try replace HQ6 := hide ((hg5.block _ (blk_lt HQ6.out) (fun e => HN4.out e.symm)).trans HQ6.out)); clear ho5 hg5 hl5 HO4; (try dsimp only at hSn))
  refine hK.out _ _ ?_ (fun hD4 => ?_)
  · (try dsimp only); first | assumption | exact hSof _ (zbD HBR.out)
  clear hK K hD3; try simp only [Act.put, zl, z0, z1]
  refine wpAnyT_ready (rs := [14]) (by kernel_rfl) (by simp) ?_; refine consT 14 rfl (fun K hK => ?_) AllReadyT.nil
  (refine step_app_PsL rfl (.tmp 78) (.tmp 80) rfl W1.heap.size _ (ps.take n ++ ps.drop (n + 1)) _ rfl HO5.out (by rw [List.length_append, List.length_take, List.length_drop, HLN.out]; omega) _ _ _ [p] rfl rfl (rdP_one HQ6.out) (fun e => by cases e) (by omega) (by omega) hD4.1.size m (by omega) (fun A6 c6 W6 ho6 hg6 _ => ?_); have hSn := hSof _ (below_own hD4.1 HO5.out hg6); have HO6 := hide ho6; clear ho6 hg6 HO5; (try dsimp only at hSn))
  refine hK.out _ _ ?_ (fun hD5 => ?_)
  · (try dsimp only); first | assumption | exact hSof _ (zbD HBR.out)
  clear hK K hD4; try simp only [Act.put, zl, z0, z1]
  refine takeT (v := ?_) 15 rfl (by kernel_rfl) (by kernel_rfl) (by kernel_rfl) (by kernel_rfl) (fun _ _ _ h => hp _ _ _ _ _ h) (Or.inl ⟨by rfl, ?_⟩) (by assumption) ?_; rotate_left
  · (intro w hSw; (try dsimp only at hSw); go_simp; try with_reducible rfl)
  try simp only [Act.put, zl, z0, z1]
  refine wpAnyT_ready (rs := [16]) (by kernel_rfl) (by simp) ?_
  refine lastT rfl (fun K hK => ?_)
  (try dsimp only at hD5)
  go_simp
  refine hK.out _ _ ?_
  clear hK K
  try simp only [Act.put, zl, z0, z1]
  refine wpAnyT_done (by kernel_rfl) ?_ _
  all_goals
    (try dsimp only [Act.put, List.getElem_toArray, List.getElem_cons_succ, List.getElem_cons_zero])
    (try simp only [zl, z0, z1])
    have HBL := hide hSn.1
    have HO7 := hide (HO6.out.kept (gr_set _ bo 0 (.slice A6 m c6)) (.inr (row_ne HO6.out ((HBL.out.block bo (blk_lt HBO.out)).trans HBO.out) (by decide))))
    exact hK _ _ _ _ _ _ _ _ _ _ _ _ _ _ _ _ _ _ _ (hide (blk_set ((HBL.out.block bo (blk_lt HBO.out)).trans HBO.out) 0 _)) HO7 (hide (gr_trans (gr_wide (gr_of HBL.out)) (gr_set _ _ _ _)))

set_option maxRecDepth 100000 in
set_option maxHeartbeats 64000000 in
theorem rtake19 {K : Act → World → Prop} {Q : Exit → Act → World → Prop} (hp : ∀ c a d v w, Q (.panic c) (Act.put a d v) w → Q (.panic c) a w) (bo bx n2 c2 : Nat) (A2 : Option Addr) (wl : List Int) (x : E.Nt) (pv iv : Value) (bk : Int) (W1 : World) (hbo : W1.heap[bo]? = some (.cells #[pv, .slice A2 n2 c2, .int .i64 bk, iv] 53 (0, 0))) (hbx : W1.heap[bx]? = some (.cells #[.int .i64 x.id, .int .i64 x.hour, .int .i64 x.kind, .int .i64 x.player, .int .i64 x.rank] 70 (0, 0))) (hlen : wl.length = n2) (hr : RdI W1 W1.heap.size A2 wl) (hA : A2 = none → c2 = 0) (hm : n2 ≤ 400) (f0 f1 f2 f3 f4 f6 f8 f9 f10 f11 f12 f13 f14 f15 f16 f17 f18 f19 f20 f21 f22 f23 f24 f25 f26 f27 f28 f29 f30 f31 f32 f33 f34 f35 f36 f37 f38 f39 f40 f41 f42 f43 f44 f45 f46 f47 f48 f49 f50 f51 f52 f53 f54 f55 f56 f57 f58 f59 f60 f61 f62 f63 f64 f65 f66 f67 f68 f69 f70 f71 f72 f73 f74 f75 f76 f77 f78 f79 f80 f81 f82 f83 f84 f85 f86 f87 f88 f89 f90 f91 f92 f93 f94 f95 f96 f97 f98 f99 f100 f101 f102 f103 f104 f105 f106 f107 f108 f109 f110 f111 f112 f113 f114 f115 f116 f117 f118 f119 f120 f121 f122 f123 f124 f125 f126 f127 f128 f129 f130 f131 f132 f133 f134 f135 f136 f137 f138 f139 f140 f141 f142 f143 f144 f145 f146 f147 f148 f149 f150 f151 f152 f153 f154 : Value)
    (hK : ∀ (u112 u113 u114 u115 u116 u117 u118 u119 u120 : Value) (A5 : Option Addr) (c5 : Nat) (W2 : World), Hid (W2.heap[bo]? = some (.cells #[pv, .slice A5 (n2 + 1) c5, .int .i64 bk, iv] 53 (0, 0))) → Hid (W2.ownsRow W1.heap.size 3 1 (.slice A5 (n2 + 1) c5) (n2 + 1) (flatI (wl ++ [x.player]))) → Hid (W1.grownBy W2 (some bo)) → K ⟨#[f0, f1, f2, f3, f4, .pointer (some ⟨bx, 0, none⟩), f6, .pointer (some ⟨bo, 0, none⟩), f8, f9, f10, f11, f12, f13, f14, f15, f16, f17, f18, f19, f20, f21, f22, f23, f24, f25, f26, f27, f28, f29, f30, f31, f32, f33, f34, f35, f36, f37, f38, f39, f40, f41, f42, f43, f44, f45, f46, f47, f48, f49, f50, f51, f52, f53, f54, f55, f56, f57, f58, f59, f60, f61, f62, f63, f64, f65, f66, f67, f68, f69, f70, f71, f72, f73, f74, f75, f76, f77, f78, f79, f80, f81, f82, f83, f84, f85, f86, f87, f88, f89, f90, f91, f92, f93, f94, f95, f96, f97, f98, f99, f100, f101, f102, f103, f104, f105, f106, f107, f108, f109, f110, f111, u112, u113, u114, u115, u116, u117, u118, u119, u120, f121, f122, f123, f124, f125, f126, f127, f128, f129, f130, f131, f132, f133, f134, f135, f136, f137, f138, f139, f140, f141, f142, f143, f144, f145, f146, f147, f148, f149, f150, f151, f152, f153, f154], []⟩ W2) :
    Code.wp Tryz.prog (rtakeReg 19) (Exit.then K Q) ⟨#[f0, f1, f2, f3, f4, .pointer (some ⟨bx, 0, none⟩), f6, .pointer (some ⟨bo, 0, none⟩), f8, f9, f10, f11, f12, f13, f14, f15, f16, f17, f18, f19, f20, f21, f22, f23, f24, f25, f26, f27, f28, f29, f30, f31, f32, f33, f34, f35, f36, f37, f38, f39, f40, f41, f42, f43, f44, f45, f46, f47, f48, f49, f50, f51, f52, f53, f54, f55, f56, f57, f58, f59, f60, f61, f62, f63, f64, f65, f66, f67, f68, f69, f70, f71, f72, f73, f74, f75, f76, f77, f78, f79, f80, f81, f82, f83, f84, f85, f86, f87, f88, f89, f90, f91, f92, f93, f94, f95, f96, f97, f98, f99, f100, f101, f102, f103, f104, f105, f106, f107, f108, f109, f110, f111, f112, f113, f114, f115, f116, f117, f118, f119, f120, f121, f122, f123, f124, f125, f126, f127, f128, f129, f130, f131, f132, f133, f134, f135, f136, f137, f138, f139, f140, f141, f142, f143, f144, f145, f146, f147, f148, f149, f150, f151, f152, f153, f154], []⟩ W1 := by
  conv => arg 2; whnf
  have hSof : ∀ w' : World, Below W1.heap.size W1 w' → (fun w' => Below W1.heap.size W1 w' ∧ w'.cell? ⟨bo, 1, none⟩ = some (.slice A2 n2 c2) ∧ w'.frozen? ⟨bo, 1, none⟩ = false ∧ w'.cell? ⟨bx, 3, none⟩ = some (.int .i64 x.player)) w' := fun w' hb => by have h := (hb.block bo (blk_lt hbo)).trans hbo; have h2 := (hb.block bx (blk_lt hbx)).trans hbx; exact ⟨hb, (blk_cell h 1).trans rfl, blk_frozen h 1, (blk_cell h2 3).trans rfl⟩
  have hS : (fun w' => Below W1.heap.size W1 w' ∧ w'.cell? ⟨bo, 1, none⟩ = some (.slice A2 n2 c2) ∧ w'.frozen? ⟨bo, 1, none⟩ = false ∧ w'.cell? ⟨bx, 3, none⟩ = some (.int .i64 x.player)) W1 := hSof _ (zbR _ _)
  (try dsimp only at hS)
  have HBR := hide (show Below W1.heap.size W1 W1 from zbR _ _)
  have HLN := hide hlen
  have HRI := hide hr
  have HAN := hide hA
  have HBO := hide hbo
  clear hbo hbx hlen hr hA
  refine wp_region_T_drew (S := (fun w' => Below W1.heap.size W1 w' ∧ w'.cell? ⟨bo, 1, none⟩ = some (.slice A2 n2 c2) ∧ w'.frozen? ⟨bo, 1, none⟩ = false ∧ w'.cell? ⟨bx, 3, none⟩ = some (.int .i64 x.player))) 9 (by kernel_rfl) ?_ (fun hD0 => ?_)
  · (try dsimp only); first | assumption | exact hSof _ (zbD HBR.out)
  refine takeT (v := ?_) 1 rfl (by kernel_rfl) (by kernel_rfl) (by kernel_rfl) (by kernel_rfl) (fun _ _ _ h => hp _ _ _ _ _ h) (Or.inl ⟨by rfl, ?_⟩) (by assumption) ?_; rotate_left
  · (intro w hSw; (try dsimp only at hSw); go_simp; try with_reducible rfl)
  try simp only [Act.put, zl, z0, z1]
  refine takeT (v := ?_) 2 rfl (by kernel_rfl) (by kernel_rfl) (by kernel_rfl) (by kernel_rfl) (fun _ _ _ h => hp _ _ _ _ _ h) (Or.inl ⟨by rfl, ?_⟩) (by assumption) ?_; rotate_left
  · (intro w hSw; (try dsimp only at hSw); go_simp; try with_reducible rfl)
  try simp only [Act.put, zl, z0, z1]
  refine takeT (v := ?_) 4 rfl (by kernel_rfl) (by kernel_rfl) (by kernel_rfl) (by kernel_rfl) (fun _ _ _ h => hp _ _ _ _ _ h) (Or.inl ⟨by rfl, ?_⟩) (by assumption) ?_; rotate_left
  · (intro w hSw; (try dsimp only at hSw); go_simp; try with_reducible rfl)
  try simp only [Act.put, zl, z0, z1]
  refine takeT (v := ?_) 5 rfl (by kernel_rfl) (by kernel_rfl) (by kernel_rfl) (by kernel_rfl) (fun _ _ _ h => hp _ _ _ _ _ h) (Or.inl ⟨by rfl, ?_⟩) (by assumption) ?_; rotate_left
  · (intro w hSw; (try dsimp only at hSw); go_simp; try with_reducible rfl)
  try simp only [Act.put, zl, z0, z1]
  refine wpAnyT_ready (rs := [0, 6]) (by kernel_rfl) (by simp) ?_; refine consT 0 rfl (fun K hK => ?_) ?_
  (go_simp; (first | refine capA (K := K) (fun W0 hG hB hk hgr => ?_) | refine capAD (K := K) (fun W0 hG hB hk hgr => ?_)); have hSn := hSof _ (by first | exact hB _ _ hD0.1 hD0.1.size | exact hB _ _ HBR.out (Nat.le_refl _)); have HQ0 := hide hG; have HQ0L := hide hD0.1.size; (try have HNE := hide (Nat.ne_of_lt (blk_lt HQ6.out))); (try replace HQ6 := hide (hk _ _ HQ6.out)); clear hG hB hk hgr; (try dsimp only at hSn))
  refine hK.out _ _ ?_ (fun hD1 => ?_)
  · (try dsimp only); first | assumption | exact hSof _ (zbD HBR.out)
  clear hK K hD0; try simp only [Act.put, zl, z0, z1]
  refine wpAnyT_ready (rs := [3, 6]) (by kernel_rfl) (by simp) ?_; refine consT 3 rfl (fun K hK => ?_) ?_
  (refine step_app_Is rfl (.tmp 112) (.tmp 114) rfl W1.heap.size _ [] 0 rfl (ownsI_empty HQ0.out HQ0L.out) _ _ _ wl rfl HLN.out ((HRI.out.below hD1.1).mono hD1.1.size) HAN.out (by omega) (by omega) hD1.1.size n2 (Nat.zero_add _) (fun A4 c4 W4 ho4 hg4 => ?_); have hSn := hSof _ (below_own hD1.1 (ownsI_empty HQ0.out HQ0L.out) hg4); have HO4 := hide ho4; (try replace HQ6 := hide ((hg4.block _ (blk_lt HQ6.out) (fun e => HNE.out (Option.some.inj e))).trans HQ6.out)); clear ho4 hg4 HQ0 HQ0L; (try dsimp only [List.nil_append] at hSn HO4))
  refine hK.out _ _ ?_ (fun hD2 => ?_)
  · (try dsimp only); first | assumption | exact hSof _ (zbD HBR.out)
  clear hK K hD1; try simp only [Act.put, zl, z0, z1]
  refine wpAnyT_ready (rs := [6]) (by kernel_rfl) (by simp) ?_; refine consT 6 rfl (fun K hK => ?_) AllReadyT.nil
  (go_simp; (first | refine capA (K := K) (fun W0 hG hB hk hgr => ?_) | refine capAD (K := K) (fun W0 hG hB hk hgr => ?_)); have hSn := hSof _ (by first | exact hB _ _ hD2.1 hD2.1.size | exact hB _ _ HBR.out (Nat.le_refl _)); (try have HNE := hide (Nat.ne_of_gt (blk_lt HQ0.out))); have HQ6 := hide (show W0.heap[_]? = some (Obj.cells #[.int .i64 x.player] 3 (0, 0)) from hG); (try replace HQ0 := hide (hk _ _ HQ0.out)); (try replace HO4 := hide (HO4.out.kept hgr (Classical.em _))); clear hG hB hk hgr; (try dsimp only at hSn))
  refine hK.out _ _ ?_ (fun hD3 => ?_)
  · (try dsimp only); first | assumption | exact hSof _ (zbD HBR.out)
  clear hK K hD2; try simp only [Act.put, zl, z0, z1]
  refine wpAnyT_ready (rs := [7]) (by kernel_rfl) (by simp) ?_; refine consT 7 rfl (fun K hK => ?_) AllReadyT.nil
  (refine step_app_Is rfl (.tmp 115) (.tmp 118) rfl W1.heap.size _ wl _ rfl HO4.out _ _ _ [x.player] rfl rfl (rdI_one HQ6.out) (fun e => by cases e) (by omega) (by omega) hD3.1.size (n2 + 1) rfl (fun A5 c5 W5 ho5 hg5 => ?_); have hSn := hSof _ (below_own hD3.1 HO4.out hg5); have HO6 := hide ho5; clear ho5 hg5 HO4; (try dsimp only at hSn))
  refine hK.out _ _ ?_ (fun hD4 => ?_)
  · (try dsimp only); first | assumption | exact hSof _ (zbD HBR.out)
  clear hK K hD3; try simp only [Act.put, zl, z0, z1]
  refine takeT (v := ?_) 8 rfl (by kernel_rfl) (by kernel_rfl) (by kernel_rfl) (by kernel_rfl) (fun _ _ _ h => hp _ _ _ _ _ h) (Or.inl ⟨by rfl, ?_⟩) (by assumption) ?_; rotate_left
  · (intro w hSw; (try dsimp only at hSw); go_simp; try with_reducible rfl)
  try simp only [Act.put, zl, z0, z1]
  refine wpAnyT_ready (rs := [9]) (by kernel_rfl) (by simp) ?_
  refine lastT rfl (fun K hK => ?_)
  (try dsimp only at hD4)
  go_simp
  refine hK.out _ _ ?_
  clear hK K
  try simp only [Act.put, zl, z0, z1]
  refine wpAnyT_done (by kernel_rfl) ?_ _
  rotate_left 1
  refine consT 6 rfl (fun K hK => ?_) AllReadyT.nil
  (go_simp; (first | refine capA (K := K) (fun W0 hG hB hk hgr => ?_) | refine capAD (K := K) (fun W0 hG hB hk hgr => ?_)); have hSn := hSof _ (by first | exact hB _ _ hD1.1 hD1.1.size | exact hB _ _ HBR.out (Nat.le_refl _)); (try have HNE := hide (Nat.ne_of_gt (blk_lt HQ0.out))); have HQ6 := hide (show W0.heap[_]? = some (Obj.cells #[.int .i64 x.player] 3 (0, 0)) from hG); (try replace HQ0 := hide (hk _ _ HQ0.out)); (try replace HO4 := hide (HO4.out.kept hgr (Classical.em _))); clear hG hB hk hgr; (try dsimp only at hSn))
  refine hK.out _ _ ?_ (fun hD2 => ?_)
  · (try dsimp only); first | assumption | exact hSof _ (zbD HBR.out)
  clear hK K hD1; try simp only [Act.put, zl, z0, z1]
  refine wpAnyT_ready (rs := [3]) (by kernel_rfl) (by simp) ?_; refine consT 3 rfl (fun K hK => ?_) AllReadyT.nil
  (refine step_app_Is rfl (.tmp 112) (.tmp 114) rfl W1.heap.size _ [] 0 rfl (ownsI_empty HQ0.out HQ0L.out) _ _ _ wl rfl HLN.out ((HRI.out.below hD2.1).mono hD2.1.size) HAN.out (by omega) (by omega) hD2.1.size n2 (Nat.zero_add _) (fun A4 c4 W4 ho4 hg4 => ?_); have hSn := hSof _ (below_own hD2.1 (ownsI_empty HQ0.out HQ0L.out) hg4); have HO4 := hide ho4; (try replace HQ6 := hide ((hg4.block _ (blk_lt HQ6.out) (fun e => HNE.out (Option.some.inj e))).trans HQ6.out)); clear ho4 hg4 HQ0 HQ0L; (try dsimp only [List.nil_append] at hSn HO4))
  refine hK.out _ _ ?_ (fun hD3 => ?_)
  · (try dsimp only); first | assumption | exact hSof _ (zbD HBR.out)
  clear hK K hD2; try simp only [Act.put, zl, z0, z1]
  refine wpAnyT_ready (rs := [7]) (by kernel_rfl) (by simp) ?_; refine consT 7 rfl (fun K hK => ?_) AllReadyT.nil
  (refine step_app_Is rfl (.tmp 115) (.tmp 118) rfl W1.heap.size _ wl _ rfl HO4.out _ _ _ [x.player] rfl rfl (rdI_one HQ6.out) (fun e => by cases e) (by omega) (by omega) hD3.1.size (n2 + 1) rfl (fun A5 c5 W5 ho5 hg5 => ?_); have hSn := hSof _ (below_own hD3.1 HO4.out hg5); have HO6 := hide ho5; clear ho5 hg5 HO4; (try dsimp only at hSn))
  refine hK.out _ _ ?_ (fun hD4 => ?_)
  · (try dsimp only); first | assumption | exact hSof _ (zbD HBR.out)
  clear hK K hD3; try simp only [Act.put, zl, z0, z1]
  refine takeT (v := ?_) 8 rfl (by kernel_rfl) (by kernel_rfl) (by kernel_rfl) (by kernel_rfl) (fun _ _ _ h => hp _ _ _ _ _ h) (Or.inl ⟨by rfl, ?_⟩) (by assumption) ?_; rotate_left
  · (intro w hSw; (try dsimp only at hSw); go_simp; try with_reducible rfl)
  try simp only [Act.put, zl, z0, z1]
  refine wpAnyT_ready (rs := [9]) (by kernel_rfl) (by simp) ?_
  refine lastT rfl (fun K hK => ?_)
  (try dsimp only at hD4)
  go_simp
  refine hK.out _ _ ?_
  clear hK K
  try simp only [Act.put, zl, z0, z1]
  refine wpAnyT_done (by kernel_rfl) ?_ _
  rotate_left 1
  refine consT 6 rfl (fun K hK => ?_) AllReadyT.nil
  (go_simp; (first | refine capA (K := K) (fun W0 hG hB hk hgr => ?_) | refine capAD (K := K) (fun W0 hG hB hk hgr => ?_)); have hSn := hSof _ (by first | exact hB _ _ hD0.1 hD0.1.size | exact hB _ _ HBR.out (Nat.le_refl _)); (try have HNE := hide (Nat.ne_of_gt (blk_lt HQ0.out))); have HQ6 := hide (show W0.heap[_]? = some (Obj.cells #[.int .i64 x.player] 3 (0, 0)) from hG); (try replace HQ0 := hide (hk _ _ HQ0.out)); (try replace HO4 := hide (HO4.out.kept hgr (Classical.em _))); clear hG hB hk hgr; (try dsimp only at hSn))
  refine hK.out _ _ ?_ (fun hD1 => ?_)
  · (try dsimp only); first | assumption | exact hSof _ (zbD HBR.out)
  clear hK K hD0; try simp only [Act.put, zl, z0, z1]
  refine wpAnyT_ready (rs := [0]) (by kernel_rfl) (by simp) ?_; refine consT 0 rfl (fun K hK => ?_) AllReadyT.nil
  (go_simp; (first | refine capA (K := K) (fun W0 hG hB hk hgr => ?_) | refine capAD (K := K) (fun W0 hG hB hk hgr => ?_)); have hSn := hSof _ (by first | exact hB _ _ hD1.1 hD1.1.size | exact hB _ _ HBR.out (Nat.le_refl _)); have HQ0 := hide hG; have HQ0L := hide hD1.1.size; (try have HNE := hide (Nat.ne_of_lt (blk_lt HQ6.out))); (try replace HQ6 := hide (hk _ _ HQ6.out)); clear hG hB hk hgr; (try dsimp only at hSn))
  refine hK.out _ _ ?_ (fun hD2 => ?_)
  · (try dsimp only); first | assumption | exact hSof _ (zbD HBR.out)
  clear hK K hD1; try simp only [Act.put, zl, z0, z1]
  refine wpAnyT_ready (rs := [3]) (by kernel_rfl) (by simp) ?_; refine consT 3 rfl (fun K hK => ?_) AllReadyT.nil
  (refine step_app_Is rfl (.tmp 112) (.tmp 114) rfl W1.heap.size _ [] 0 rfl (ownsI_empty HQ0.out HQ0L.out) _ _ _ wl rfl HLN.out ((HRI.out.below hD2.1).mono hD2.1.size) HAN.out (by omega) (by omega) hD2.1.size n2 (Nat.zero_add _) (fun A4 c4 W4 ho4 hg4 => ?_); have hSn := hSof _ (below_own hD2.1 (ownsI_empty HQ0.out HQ0L.out) hg4); have HO4 := hide ho4; (try replace HQ6 := hide ((hg4.block _ (blk_lt HQ6.out) (fun e => HNE.out (Option.some.inj e))).trans HQ6.out)); clear ho4 hg4 HQ0 HQ0L; (try dsimp only [List.nil_append] at hSn HO4))
  refine hK.out _ _ ?_ (fun hD3 => ?_)
  · (try dsimp only); first | assumption | exact hSof _ (zbD HBR.out)
  clear hK K hD2; try simp only [Act.put, zl, z0, z1]
  refine wpAnyT_ready (rs := [7]) (by kernel_rfl) (by simp) ?_; refine consT 7 rfl (fun K hK => ?_) AllReadyT.nil
  (refine step_app_Is rfl (.tmp 115) (.tmp 118) rfl W1.heap.size _ wl _ rfl HO4.out _ _ _ [x.player] rfl rfl (rdI_one HQ6.out) (fun e => by cases e) (by omega) (by omega) hD3.1.size (n2 + 1) rfl (fun A5 c5 W5 ho5 hg5 => ?_); have hSn := hSof _ (below_own hD3.1 HO4.out hg5); have HO6 := hide ho5; clear ho5 hg5 HO4; (try dsimp only at hSn))
  refine hK.out _ _ ?_ (fun hD4 => ?_)
  · (try dsimp only); first | assumption | exact hSof _ (zbD HBR.out)
  clear hK K hD3; try simp only [Act.put, zl, z0, z1]
  refine takeT (v := ?_) 8 rfl (by kernel_rfl) (by kernel_rfl) (by kernel_rfl) (by kernel_rfl) (fun _ _ _ h => hp _ _ _ _ _ h) (Or.inl ⟨by rfl, ?_⟩) (by assumption) ?_; rotate_left
  · (intro w hSw; (try dsimp only at hSw); go_simp; try with_reducible rfl)
  try simp only [Act.put, zl, z0, z1]
  refine wpAnyT_ready (rs := [9]) (by kernel_rfl) (by simp) ?_
  refine lastT rfl (fun K hK => ?_)
  (try dsimp only at hD4)
  go_simp
  refine hK.out _ _ ?_
  clear hK K
  try simp only [Act.put, zl, z0, z1]
  refine wpAnyT_done (by kernel_rfl) ?_ _
  all_goals
    (try dsimp only [Act.put, List.getElem_toArray, List.getElem_cons_succ, List.getElem_cons_zero])
    (try simp only [zl, z0, z1])
    have HBL := hide hSn.1
    have HO7 := hide (HO6.out.kept (gr_set _ bo 1 (.slice A5 (n2 + 1) c5)) (.inr (row_ne HO6.out ((HBL.out.block bo (blk_lt HBO.out)).trans HBO.out) (by decide))))
    exact hK _ _ _ _ _ _ _ _ _ _ _ _ (hide (blk_set ((HBL.out.block bo (blk_lt HBO.out)).trans HBO.out) 1 _)) HO7 (hide (gr_trans (gr_wide (gr_of HBL.out)) (gr_set _ _ _ _)))

end Go.Proofs.YtobjahlmjcnfoaaGreat
