/-
  Part of a claim's texts: contracts of the program's functions and the plain functions that they compute, in build order.
-/
import Derived.Test.YtdhaalonnmajkaaZB08
namespace Go.Proofs.Ytdhaalonnmajkaa
open Go.RowKit Go.Sort
attribute [local go_sem ↓] Go.wp_at_zero Go.wp_at_succ

set_option maxRecDepth 100000 in
set_option maxHeartbeats 64000000 in
theorem rtake13 {K : Act → World → Prop} {Q : Exit → Act → World → Prop} (hp : ∀ c a d v w, Q (.panic c) (Act.put a d v) w → Q (.panic c) a w) (bo g n m c1 : Nat) (A1 : Option Addr) (ps : List E.Rp) (p : E.Rp) (wv iv : Value) (bk : Int) (base : Nat) (W1 : World) (hbo : W1.heap[bo]? = some (.cells #[.slice A1 m c1, wv, .int .i64 bk, iv] 78 (0, 0))) (hg : W1.heap[g]? = some (.cells #[.int .i64 p.player, .int .i64 p.rank, .bool p.grd, .bool p.ent, .bool p.quit, .bool p.sgn, .bool p.card] 99 (0, 0))) (hlen : ps.length = m) (hown : W1.ownsRow base 99 7 (.slice A1 m c1) m (flatP ps)) (hn : n < m) (hm : m ≤ 400) (f0 f1 f2 f3 f4 f5 f6 f10 f11 f12 f13 f14 f15 f16 f17 f18 f19 f20 f21 f22 f23 f24 f25 f26 f27 f28 f29 f30 f31 f32 f33 f34 f35 f36 f37 f38 f39 f40 f41 f42 f43 f44 f45 f46 f47 f48 f49 f50 f51 f52 f53 f54 f55 f56 f57 f58 f59 f60 f61 f62 f63 f64 f65 f66 f67 f68 f69 f70 f71 f72 f73 f74 f75 f76 f77 f78 f79 f80 f81 f82 f83 f84 f85 f86 f87 f88 f89 f90 f91 f92 f93 f94 f95 f96 f97 f98 f99 f100 f101 f102 f103 f104 f105 f106 f107 f108 f109 f110 f111 f112 f113 f114 f115 f116 f117 f118 f119 f120 f121 f122 f123 f124 f125 f126 f127 f128 f129 f130 f131 f132 f133 f134 f135 f136 f137 f138 f139 f140 f141 f142 f143 f144 f145 f146 f147 f148 f149 f150 f151 f152 f153 f154 : Value)
    (hK : ∀ (u67 u68 u69 u70 u71 u72 u73 u74 u75 u76 u77 u78 u79 u80 u81 u82 : Value) (A2 : Option Addr) (c2 : Nat) (W2 : World), Hid (W2.heap[bo]? = some (.cells #[.slice A2 m c2, wv, .int .i64 bk, iv] 78 (0, 0))) → Hid (W2.ownsRow W1.heap.size 99 7 (.slice A2 m c2) m (flatP (ps.take n ++ ps.drop (n + 1) ++ [p]))) → Hid (W1.grownBy W2 (some bo)) → K ⟨#[f0, f1, f2, f3, f4, f5, f6, .pointer (some ⟨bo, 0, none⟩), .int .i64 n, .pointer (some ⟨g, 0, none⟩), f10, f11, f12, f13, f14, f15, f16, f17, f18, f19, f20, f21, f22, f23, f24, f25, f26, f27, f28, f29, f30, f31, f32, f33, f34, f35, f36, f37, f38, f39, f40, f41, f42, f43, f44, f45, f46, f47, f48, f49, f50, f51, f52, f53, f54, f55, f56, f57, f58, f59, f60, f61, f62, f63, f64, f65, f66, u67, u68, u69, u70, u71, u72, u73, u74, u75, u76, u77, u78, u79, u80, u81, u82, f83, f84, f85, f86, f87, f88, f89, f90, f91, f92, f93, f94, f95, f96, f97, f98, f99, f100, f101, f102, f103, f104, f105, f106, f107, f108, f109, f110, f111, f112, f113, f114, f115, f116, f117, f118, f119, f120, f121, f122, f123, f124, f125, f126, f127, f128, f129, f130, f131, f132, f133, f134, f135, f136, f137, f138, f139, f140, f141, f142, f143, f144, f145, f146, f147, f148, f149, f150, f151, f152, f153, f154], []⟩ W2) :
    Code.wp Try.prog (rtakeReg 13) (Exit.then K Q) ⟨#[f0, f1, f2, f3, f4, f5, f6, .pointer (some ⟨bo, 0, none⟩), .int .i64 n, .pointer (some ⟨g, 0, none⟩), f10, f11, f12, f13, f14, f15, f16, f17, f18, f19, f20, f21, f22, f23, f24, f25, f26, f27, f28, f29, f30, f31, f32, f33, f34, f35, f36, f37, f38, f39, f40, f41, f42, f43, f44, f45, f46, f47, f48, f49, f50, f51, f52, f53, f54, f55, f56, f57, f58, f59, f60, f61, f62, f63, f64, f65, f66, f67, f68, f69, f70, f71, f72, f73, f74, f75, f76, f77, f78, f79, f80, f81, f82, f83, f84, f85, f86, f87, f88, f89, f90, f91, f92, f93, f94, f95, f96, f97, f98, f99, f100, f101, f102, f103, f104, f105, f106, f107, f108, f109, f110, f111, f112, f113, f114, f115, f116, f117, f118, f119, f120, f121, f122, f123, f124, f125, f126, f127, f128, f129, f130, f131, f132, f133, f134, f135, f136, f137, f138, f139, f140, f141, f142, f143, f144, f145, f146, f147, f148, f149, f150, f151, f152, f153, f154], []⟩ W1 := by
  conv => arg 2; whnf
  have hSof : ∀ w' : World, Below W1.heap.size W1 w' → (fun w' => Below W1.heap.size W1 w' ∧ w'.cell? ⟨bo, 0, none⟩ = some (.slice A1 m c1) ∧ w'.frozen? ⟨bo, 0, none⟩ = false ∧ w'.cell? ⟨g, 0, none⟩ = some (.int .i64 p.player) ∧ w'.cell? ⟨g, 1, none⟩ = some (.int .i64 p.rank) ∧ w'.cell? ⟨g, 2, none⟩ = some (.bool p.grd) ∧ w'.cell? ⟨g, 3, none⟩ = some (.bool p.ent) ∧ w'.cell? ⟨g, 4, none⟩ = some (.bool p.quit) ∧ w'.cell? ⟨g, 5, none⟩ = some (.bool p.sgn) ∧ w'.cell? ⟨g, 6, none⟩ = some (.bool p.card)) w' := fun w' hb => by have h := (hb.block bo (blk_lt hbo)).trans hbo; have h2 := (hb.block g (blk_lt hg)).trans hg; exact ⟨hb, (blk_cell h 0).trans rfl, blk_frozen h 0, (blk_cell h2 0).trans rfl, (blk_cell h2 1).trans rfl, (blk_cell h2 2).trans rfl, (blk_cell h2 3).trans rfl, (blk_cell h2 4).trans rfl, (blk_cell h2 5).trans rfl, (blk_cell h2 6).trans rfl⟩
  have hS : (fun w' => Below W1.heap.size W1 w' ∧ w'.cell? ⟨bo, 0, none⟩ = some (.slice A1 m c1) ∧ w'.frozen? ⟨bo, 0, none⟩ = false ∧ w'.cell? ⟨g, 0, none⟩ = some (.int .i64 p.player) ∧ w'.cell? ⟨g, 1, none⟩ = some (.int .i64 p.rank) ∧ w'.cell? ⟨g, 2, none⟩ = some (.bool p.grd) ∧ w'.cell? ⟨g, 3, none⟩ = some (.bool p.ent) ∧ w'.cell? ⟨g, 4, none⟩ = some (.bool p.quit) ∧ w'.cell? ⟨g, 5, none⟩ = some (.bool p.sgn) ∧ w'.cell? ⟨g, 6, none⟩ = some (.bool p.card)) W1 := hSof _ (zbR _ _)
  (try dsimp only at hS)
  have HBR := hide (show Below W1.heap.size W1 W1 from zbR _ _)
  have hmc : m ≤ c1 := own_cap hown
  have hn0 : (0 : Int) ≤ (n : Int) := by omega
  have hn1 : (n : Int) ≤ (m : Int) := by omega
  have hn2 : (n : Int) ≤ (c1 : Int) := by omega
  have hn3 : (n : Int) + 1 ≤ (m : Int) := by omega
  have hn4 : (n : Int) + 1 ≤ (c1 : Int) := by omega
  have hn5 : (0 : Int) ≤ (n : Int) + 1 := by omega
  have hnw : IntKind.i64.wrap ((n : Int) + 1) = (n : Int) + 1 := IntWalk.i64_in _ (by omega)
  have HLN := hide hlen
  have HLO := hide ((owns_RdP hown hlen).take n)
  have HHI := hide (sl_hi hown hlen (show n + 1 ≤ m by omega))
  have HHN := hide (sl_hi_nil (a := n + 1) hown)
  have HCN := hide (own_nil hown)
  have HBO := hide hbo
  clear hbo hg hlen hown
  refine wp_region_T_drew (S := (fun w' => Below W1.heap.size W1 w' ∧ w'.cell? ⟨bo, 0, none⟩ = some (.slice A1 m c1) ∧ w'.frozen? ⟨bo, 0, none⟩ = false ∧ w'.cell? ⟨g, 0, none⟩ = some (.int .i64 p.player) ∧ w'.cell? ⟨g, 1, none⟩ = some (.int .i64 p.rank) ∧ w'.cell? ⟨g, 2, none⟩ = some (.bool p.grd) ∧ w'.cell? ⟨g, 3, none⟩ = some (.bool p.ent) ∧ w'.cell? ⟨g, 4, none⟩ = some (.bool p.quit) ∧ w'.cell? ⟨g, 5, none⟩ = some (.bool p.sgn) ∧ w'.cell? ⟨g, 6, none⟩ = some (.bool p.card))) 16 (by kernel_rfl) ?_ (fun hD0 => ?_)
  · (try dsimp only); first | assumption | exact hSof _ (zbD HBR.out)
  refine takeT (v := ?_) 1 rfl (by kernel_rfl) (by kernel_rfl) (by kernel_rfl) (by kernel_rfl) (fun _ _ _ h => hp _ _ _ _ _ h) (Or.inl ⟨by rfl, ?_⟩) (by assumption) ?_; rotate_left
  · (intro w hSw; (try dsimp only at hSw); go_simp; try with_reducible rfl)
  try simp only [Act.put, zl, z0, z1]
  refine takeT (v := ?_) 2 rfl (by kernel_rfl) (by kernel_rfl) (by kernel_rfl) (by kernel_rfl) (fun _ _ _ h => hp _ _ _ _ _ h) (Or.inl ⟨by rfl, ?_⟩) (by assumption) ?_; rotate_left
  · (intro w hSw; (try dsimp only at hSw); go_simp; try with_reducible rfl)
  try simp only [Act.put, zl, z0, z1]
  refine takeT (v := ?_) 3 rfl (by kernel_rfl) (by kernel_rfl) (by kernel_rfl) (by kernel_rfl) (fun _ _ _ h => hp _ _ _ _ _ h) (Or.inl ⟨by rfl, ?_⟩) (by assumption) ?_; rotate_left
  · (intro w hSw; (try dsimp only at hSw); go_simp; try with_reducible rfl)
  try simp only [Act.put, zl, z0, z1]
  refine takeT (v := ?_) 4 rfl (by kernel_rfl) (by kernel_rfl) (by kernel_rfl) (by kernel_rfl) (fun _ _ _ h => hp _ _ _ _ _ h) (Or.inl ⟨by rfl, ?_⟩) (by assumption) ?_; rotate_left
  · (intro w hSw; (try dsimp only at hSw); go_simp; try with_reducible rfl)
  try simp only [Act.put, zl, z0, z1]
  refine takeT (v := ?_) 6 rfl (by kernel_rfl) (by kernel_rfl) (by kernel_rfl) (by kernel_rfl) (fun _ _ _ h => hp _ _ _ _ _ h) (Or.inl ⟨by rfl, ?_⟩) (by assumption) ?_; rotate_left
  · (intro w hSw; (try dsimp only at hSw); go_simp; try with_reducible rfl)
  try simp only [Act.put, zl, z0, z1]
  refine takeT (v := ?_) 7 rfl (by kernel_rfl) (by kernel_rfl) (by kernel_rfl) (by kernel_rfl) (fun _ _ _ h => hp _ _ _ _ _ h) (Or.inl ⟨by rfl, ?_⟩) (by assumption) ?_; rotate_left
  · (intro w hSw; (try dsimp only at hSw); go_simp; try with_reducible rfl)
  try simp only [Act.put, zl, z0, z1]
  refine takeT (v := ?_) 8 rfl (by kernel_rfl) (by kernel_rfl) (by kernel_rfl) (by kernel_rfl) (fun _ _ _ h => hp _ _ _ _ _ h) (Or.inl ⟨by rfl, ?_⟩) (by assumption) ?_; rotate_left
  · (intro w hSw; (try dsimp only at hSw); go_simp; try with_reducible rfl)
  try simp only [Act.put, zl, z0, z1]
  refine takeT (v := ?_) 9 rfl (by kernel_rfl) (by kernel_rfl) (by kernel_rfl) (by kernel_rfl) (fun _ _ _ h => hp _ _ _ _ _ h) (Or.inl ⟨by rfl, ?_⟩) (by assumption) ?_; rotate_left
  · (intro w hSw; (try dsimp only at hSw); go_simp; try with_reducible rfl)
  try simp only [Act.put, zl, z0, z1]
  refine takeT (v := ?_) 10 rfl (by kernel_rfl) (by kernel_rfl) (by kernel_rfl) (by kernel_rfl) (fun _ _ _ h => hp _ _ _ _ _ h) (Or.inl ⟨by rfl, ?_⟩) (by assumption) ?_; rotate_left
  · (intro w hSw; (try dsimp only at hSw); go_simp; try with_reducible rfl)
  try simp only [Act.put, zl, z0, z1]
  refine takeT (v := ?_) 12 rfl (by kernel_rfl) (by kernel_rfl) (by kernel_rfl) (by kernel_rfl) (fun _ _ _ h => hp _ _ _ _ _ h) (Or.inl ⟨by rfl, ?_⟩) (by assumption) ?_; rotate_left
  · (intro w hSw; (try dsimp only at hSw); go_simp; try with_reducible rfl)
  try simp only [Act.put, zl, z0, z1]
  refine wpAnyT_ready (rs := [0, 13]) (by kernel_rfl) (by simp) ?_; refine consT 0 rfl (fun K hK => ?_) ?_
  (go_simp; (first | refine capA (K := K) (fun W0 hG hB hk hgr => ?_) | refine capAD (K := K) (fun W0 hG hB hk hgr => ?_)); have hSn := hSof _ (by first | exact hB _ _ hD0.1 hD0.1.size | exact hB _ _ HBR.out (Nat.le_refl _)); have HQ0 := hide hG; have HQ0L := hide hD0.1.size; (try have HNE := hide (Nat.ne_of_lt (blk_lt HQ6.out))); (try replace HQ6 := hide (hk _ _ HQ6.out)); clear hG hB hk hgr; (try dsimp only at hSn))
  refine hK.out _ _ ?_ (fun hD1 => ?_)
  · (try dsimp only); first | assumption | exact hSof _ (zbD HBR.out)
  clear hK K hD0; try simp only [Act.put, zl, z0, z1]
  refine wpAnyT_ready (rs := [5, 13]) (by kernel_rfl) (by simp) ?_; refine consT 5 rfl (fun K hK => ?_) ?_
  (refine step_app_PsL rfl (.tmp 67) (.tmp 71) rfl W1.heap.size _ [] 0 rfl (ownsP_empty HQ0.out HQ0L.out) rfl _ _ _ (ps.take n) rfl (by rw [List.length_take, HLN.out]; omega) ((HLO.out.below hD1.1).mono hD1.1.size) HCN.out (by omega) (by omega) hD1.1.size n (Nat.zero_add _) (fun A4 c4 W4 ho4 hg4 hl4 => ?_); have hSn := hSof _ (below_own hD1.1 (ownsP_empty HQ0.out HQ0L.out) hg4); have HO4 := hide ho4; (try have HN4 := hide (loc_ne hl4 (fun e => HNE.out (Option.some.inj e).symm) (blk_lt HQ6.out))); (try replace HQ6 := hide ((hg4.block _ (blk_lt HQ6.out) (fun e => HNE.out (Option.some.inj e))).trans HQ6.out)); clear ho4 hg4 hl4 HQ0 HQ0L; (try dsimp only [List.nil_append] at hSn HO4))
  refine hK.out _ _ ?_ (fun hD2 => ?_)
  · (try dsimp only); first | assumption | exact hSof _ (zbD HBR.out)
  clear hK K hD1; try simp only [Act.put, zl, z0, z1]
  refine wpAnyT_ready (rs := [11, 13]) (by kernel_rfl) (by simp) ?_; refine consT 11 rfl (fun K hK => ?_) ?_
  (refine step_app_PsL rfl (.tmp 72) (.tmp 77) rfl W1.heap.size _ (ps.take n) _ rfl HO4.out (by rw [List.length_take, HLN.out]; omega) _ _ _ (ps.drop (n + 1)) rfl (by rw [List.length_drop, HLN.out]) ((HHI.out.below hD2.1).mono hD2.1.size) HHN.out (by omega) (by omega) hD2.1.size (m - 1) (by omega) (fun A5 c5 W5 ho5 hg5 hl5 => ?_); have hSn := hSof _ (below_own hD2.1 HO4.out hg5); have HO5 := hide ho5; (try have HN5 := hide (loc_ne hl5 HN4.out (blk_lt HQ6.out))); (try replace HQ6 := hide ((hg5.block _ (blk_lt HQ6.out) (fun e => HN4.out e.symm)).trans HQ6.out)); clear ho5 hg5 hl5 HO4; (try dsimp only at hSn))
  refine hK.out _ _ ?_ (fun hD3 => ?_)
  · (try dsimp only); first | assumption | exact hSof _ (zbD HBR.out)
  clear hK K hD2; try simp only [Act.put, zl, z0, z1]
  refine wpAnyT_ready (rs := [13]) (by kernel_rfl) (by simp) ?_; refine consT 13 rfl (fun K hK => ?_) AllReadyT.nil
  (go_simp; (first | refine capA (K := K) (fun W0 hG hB hk hgr => ?_) | refine capAD (K := K) (fun W0 hG hB hk hgr => ?_)); have hSn := hSof _ (by first | exact hB _ _ hD3.1 hD3.1.size | exact hB _ _ HBR.out (Nat.le_refl _)); (try have HNE := hide (Nat.ne_of_gt (blk_lt HQ0.out))); (try have HN4 := hide (own_fresh HO4.out)); (try have HN5 := hide (own_fresh HO5.out)); have HQ6 := hide (show W0.heap[_]? = some (Obj.cells (pc p).toArray 99 (0, 0)) from hG); (try replace HQ0 := hide (hk _ _ HQ0.out)); (try replace HO4 := hide (HO4.out.kept hgr (Classical.em _))); (try replace HO5 := hide (HO5.out.kept hgr (Classical.em _))); clear hG hB hk hgr; (try dsimp only at hSn))
  refine hK.out _ _ ?_ (fun hD4 => ?_)
  · (try dsimp only); first | assumption | exact hSof _ (zbD HBR.out)
  clear hK K hD3; try simp only [Act.put, zl, z0, z1]
  refine wpAnyT_ready (rs := [14]) (by kernel_rfl) (by simp) ?_; refine consT 14 rfl (fun K hK => ?_) AllReadyT.nil
  (refine step_app_PsL rfl (.tmp 78) (.tmp 80) rfl W1.heap.size _ (ps.take n ++ ps.drop (n + 1)) _ rfl HO5.out (by rw [List.length_append, List.length_take, List.length_drop, HLN.out]; omega) _ _ _ [p] rfl rfl (rdP_one HQ6.out) (fun e => by cases e) (by omega) (by omega) hD4.1.size m (by omega) (fun A6 c6 W6 ho6 hg6 _ => ?_); have hSn := hSof _ (below_own hD4.1 HO5.out hg6); have HO6 := hide ho6; clear ho6 hg6 HO5; (try dsimp only at hSn))
  refine hK.out _ _ ?_ (fun hD5 => ?_)
  · (try dsimp only); first | assumption | exact hSof _ (zbD HBR.out)
  clear hK K hD4; try simp only [Act.put, zl, z0, z1]
  refine takeT (v := ?_) 15 rfl (by kernel_rfl) (by kernel_rfl) (by kernel_rfl) (by kernel_rfl) (fun _ _ _ h => hp _ _ _ _ _ h) (Or.inl ⟨by rfl, ?_⟩) (by assumption) ?_; rotate_left
  · (intro w hSw; (try dsimp only at hSw); go_simp; try with_reducible rfl)
  try simp only [Act.put, zl, z0, z1]
  refine wpAnyT_ready (rs := [16]) (by kernel_rfl) (by simp) ?_
  refine lastT rfl (fun K hK => ?_)
  (try dsimp only at hD5)
  go_simp
  refine hK.out _ _ ?_
  clear hK K
  try simp only [Act.put, zl, z0, z1]
  refine wpAnyT_done (by kernel_rfl) ?_ _
  rotate_left 1
  refine consT 13 rfl (fun K hK => ?_) AllReadyT.nil
  (go_simp; (first | refine capA (K := K) (fun W0 hG hB hk hgr => ?_) | refine capAD (K := K) (fun W0 hG hB hk hgr => ?_)); have hSn := hSof _ (by first | exact hB _ _ hD2.1 hD2.1.size | exact hB _ _ HBR.out (Nat.le_refl _)); (try have HNE := hide (Nat.ne_of_gt (blk_lt HQ0.out))); (try have HN4 := hide (own_fresh HO4.out)); (try have HN5 := hide (own_fresh HO5.out)); have HQ6 := hide (show W0.heap[_]? = some (Obj.cells (pc p).toArray 99 (0, 0)) from hG); (try replace HQ0 := hide (hk _ _ HQ0.out)); (try replace HO4 := hide (HO4.out.kept hgr (Classical.em _))); (try replace HO5 := hide (HO5.out.kept hgr (Classical.em _))); clear hG hB hk hgr; (try dsimp only at hSn))
  refine hK.out _ _ ?_ (fun hD3 => ?_)
  · (try dsimp only); first | assumption | exact hSof _ (zbD HBR.out)
  clear hK K hD2; try simp only [Act.put, zl, z0, z1]
  refine wpAnyT_ready (rs := [11]) (by kernel_rfl) (by simp) ?_; refine consT 11 rfl (fun K hK => ?_) AllReadyT.nil
  (refine step_app_PsL rfl (.tmp 72) (.tmp 77) rfl W1.heap.size _ (ps.take n) _ rfl HO4.out (by rw [List.length_take, HLN.out]; omega) _ _ _ (ps.drop (n + 1)) rfl (by rw [List.length_drop, HLN.out]) ((HHI.out.below hD3.1).mono hD3.1.size) HHN.out (by omega) (by omega) hD3.1.size (m - 1) (by omega) (fun A5 c5 W5 ho5 hg5 hl5 => ?_); have hSn := hSof _ (below_own hD3.1 HO4.out hg5); have HO5 := hide ho5; (try have HN5 := hide (loc_ne hl5 HN4.out (blk_lt HQ6.out))); (try replace HQ6 := hide ((hg5.block _ (blk_lt HQ6.out) (fun e => HN4.out e.symm)).trans HQ6.out)); clear ho5 hg5 hl5 HO4; (try dsimp only at hSn))
  refine hK.out _ _ ?_ (fun hD4 => ?_)
  · (try dsimp only); first | assumption | exact hSof _ (zbD HBR.out)
  clear hK K hD3; try simp only [Act.put, zl, z0, z1]
  refine wpAnyT_ready (rs := [14]) (by kernel_rfl) (by simp) ?_; refine consT 14 rfl (fun K hK => ?_) AllReadyT.nil
  (refine step_app_PsL rfl (.tmp 78) (.tmp 80) rfl W1.heap.size _ (ps.take n ++ ps.drop (n + 1)) _ rfl HO5.out (by rw [List.length_append, List.length_take, List.length_drop, HLN.out]; omega) _ _ _ [p] rfl rfl (rdP_one HQ6.out) (fun e => by cases e) (by omega) (by omega) hD4.1.size m (by omega) (fun A6 c6 W6 ho6 hg6 _ => ?_); have hSn := hSof _ (below_own hD4.1 HO5.out hg6); have HO6 := hide ho6; clear ho6 hg6 HO5; (try dsimp only at hSn))
  refine hK.out _ _ ?_ (fun hD5 => ?_)
  · (try dsimp only); first | assumption | exact hSof _ (zbD HBR.out)
  clear hK K hD4; try simp only [Act.put, zl, z0, z1]
  refine takeT (v := ?_) 15 rfl (by kernel_rfl) (by kernel_rfl) (by kernel_rfl) (by kernel_rfl) (fun _ _ _ h => hp _ _ _ _ _ h) (Or.inl ⟨by rfl, ?_⟩) (by assumption) ?_; rotate_left
  · (intro w hSw; (try dsimp only at hSw); go_simp; try with_reducible rfl)
  try simp only [Act.put, zl, z0, z1]
  refine wpAnyT_ready (rs := [16]) (by kernel_rfl) (by simp) ?_
  refine lastT rfl (fun K hK => ?_)
  (try dsimp only at hD5)
  go_simp
  refine hK.out _ _ ?_
  clear hK K
  try simp only [Act.put, zl, z0, z1]
  refine wpAnyT_done (by kernel_rfl) ?_ _
  rotate_left 1
  refine consT 13 rfl (fun K hK => ?_) AllReadyT.nil
  (go_simp; (first | refine capA (K := K) (fun W0 hG hB hk hgr => ?_) | refine capAD (K := K) (fun W0 hG hB hk hgr => ?_)); have hSn := hSof _ (by first | exact hB _ _ hD1.1 hD1.1.size | exact hB _ _ HBR.out (Nat.le_refl _)); (try have HNE := hide (Nat.ne_of_gt (blk_lt HQ0.out))); (try have HN4 := hide (own_fresh HO4.out)); (try have HN5 := hide (own_fresh HO5.out)); have HQ6 := hide (show W0.heap[_]? = some (Obj.cells (pc p).toArray 99 (0, 0)) from hG); (try replace HQ0 := hide (hk _ _ HQ0.out)); (try replace HO4 := hide (HO4.out.kept hgr (Classical.em _))); (try replace HO5 := hide (HO5.out.kept hgr (Classical.em _))); clear hG hB hk hgr; (try dsimp only at hSn))
  refine hK.out _ _ ?_ (fun hD2 => ?_)
  · (try dsimp only); first | assumption | exact hSof _ (zbD HBR.out)
  clear hK K hD1; try simp only [Act.put, zl, z0, z1]
  refine wpAnyT_ready (rs := [5]) (by kernel_rfl) (by simp) ?_; refine consT 5 rfl (fun K hK => ?_) AllReadyT.nil
  (refine step_app_PsL rfl (.tmp 67) (.tmp 71) rfl W1.heap.size _ [] 0 rfl (ownsP_empty HQ0.out HQ0L.out) rfl _ _ _ (ps.take n) rfl (by rw [List.length_take, HLN.out]; omega) ((HLO.out.below hD2.1).mono hD2.1.size) HCN.out (by omega) (by omega) hD2.1.size n (Nat.zero_add _) (fun A4 c4 W4 ho4 hg4 hl4 => ?_); have hSn := hSof _ (below_own hD2.1 (ownsP_empty HQ0.out HQ0L.out) hg4); have HO4 := hide ho4; (try have HN4 := hide (loc_ne hl4 (fun e => HNE.out (Option.some.inj e).symm) (blk_lt HQ6.out))); (try replace HQ6 := hide ((hg4.block _ (blk_lt HQ6.out) (fun e => HNE.out (Option.some.inj e))).trans HQ6.out)); clear ho4 hg4 hl4 HQ0 HQ0L; (try dsimp only [List.nil_append] at hSn HO4))
  refine hK.out _ _ ?_ (fun hD3 => ?_)
  · (try dsimp only); first | assumption | exact hSof _ (zbD HBR.out)
  clear hK K hD2; try simp only [Act.put, zl, z0, z1]
  refine wpAnyT_ready (rs := [11]) (by kernel_rfl) (by simp) ?_; refine consT 11 rfl (fun K hK => ?_) AllReadyT.nil
  (refine step_app_PsL rfl (.tmp 72) (.tmp 77) rfl W1.heap.size _ (ps.take n) _ rfl HO4.out (by rw [List.length_take, HLN.out]; omega) _ _ _ (ps.drop (n + 1)) rfl (by rw [List.length_drop, HLN.out]) ((HHI.out.below hD3.1).mono hD3.1.size) HHN.out (by omega) (by omega) hD3.1.size (m - 1) (by omega) (fun A5 c5 W5 ho5 hg5 hl5 => ?_); have hSn := hSof _ (below_own hD3.1 HO4.out hg5); have HO5 := hide ho5; (try have HN5 := hide (loc_ne hl5 HN4.out (blk_lt HQ6.out))); (try replace HQ6 := hide ((hg5.block _ (blk_lt HQ6.out) (fun e => HN4.out e.symm)).trans HQ6.out)); clear ho5 hg5 hl5 HO4; (try dsimp only at hSn))
  refine hK.out _ _ ?_ (fun hD4 => ?_)
  · (try dsimp only); first | assumption | exact hSof _ (zbD HBR.out)
  clear hK K hD3; try simp only [Act.put, zl, z0, z1]
  refine wpAnyT_ready (rs := [14]) (by kernel_rfl) (by simp) ?_; refine consT 14 rfl (fun K hK => ?_) AllReadyT.nil
  (refine step_app_PsL rfl (.tmp 78) (.tmp 80) rfl W1.heap.size _ (ps.take n ++ ps.drop (n + 1)) _ rfl HO5.out (by rw [List.length_append, List.length_take, List.length_drop, HLN.out]; omega) _ _ _ [p] rfl rfl (rdP_one HQ6.out) (fun e => by cases e) (by omega) (by omega) hD4.1.size m (by omega) (fun A6 c6 W6 ho6 hg6 _ => ?_); have hSn := hSof _ (below_own hD4.1 HO5.out hg6); have HO6 := hide ho6; clear ho6 hg6 HO5; (try dsimp only at hSn))
  refine hK.out _ _ ?_ (fun hD5 => ?_)
  · (try dsimp only); first | assumption | exact hSof _ (zbD HBR.out)
  clear hK K hD4; try simp only [Act.put, zl, z0, z1]
  refine takeT (v := ?_) 15 rfl (by kernel_rfl) (by kernel_rfl) (by kernel_rfl) (by kernel_rfl) (fun _ _ _ h => hp _ _ _ _ _ h) (Or.inl ⟨by rfl, ?_⟩) (by assumption) ?_; rotate_left
  · (intro w hSw; (try dsimp only at hSw); go_simp; try with_reducible rfl)
  try simp only [Act.put, zl, z0, z1]
  refine wpAnyT_ready (rs := [16]) (by kernel_rfl) (by simp) ?_
  refine lastT rfl (fun K hK => ?_)
  (try dsimp only at hD5)
  go_simp
  refine hK.out _ _ ?_
  clear hK K
  try simp only [Act.put, zl, z0, z1]
  refine wpAnyT_done (by kernel_rfl) ?_ _
  rotate_left 1
  refine consT 13 rfl (fun K hK => ?_) AllReadyT.nil
  (go_simp; (first | refine capA (K := K) (fun W0 hG hB hk hgr => ?_) | refine capAD (K := K) (fun W0 hG hB hk hgr => ?_)); have hSn := hSof _ (by first | exact hB _ _ hD0.1 hD0.1.size | exact hB _ _ HBR.out (Nat.le_refl _)); (try have HNE := hide (Nat.ne_of_gt (blk_lt HQ0.out))); (try have HN4 := hide (own_fresh HO4.out)); (try have HN5 := hide (own_fresh HO5.out)); have HQ6 := hide (show W0.heap[_]? = some (Obj.cells (pc p).toArray 99 (0, 0)) from hG); (try replace HQ0 := hide (hk _ _ HQ0.out)); (try replace HO4 := hide (HO4.out.kept hgr (Classical.em _))); (try replace HO5 := hide (HO5.out.kept hgr (Classical.em _))); clear hG hB hk hgr; (try dsimp only at hSn))
  refine hK.out _ _ ?_ (fun hD1 => ?_)
  · (try dsimp only); first | assumption | exact hSof _ (zbD HBR.out)
  clear hK K hD0; try simp only [Act.put, zl, z0, z1]
  refine wpAnyT_ready (rs := [0]) (by kernel_rfl) (by simp) ?_; refine consT 0 rfl (fun K hK => ?_) AllReadyT.nil
  (go_simp; (first | refine capA (K := K) (fun W0 hG hB hk hgr => ?_) | refine capAD (K := K) (fun W0 hG hB hk hgr => ?_)); have hSn := hSof _ (by first | exact hB _ _ hD1.1 hD1.1.size | exact hB _ _ HBR.out (Nat.le_refl _)); have HQ0 := hide hG; have HQ0L := hide hD1.1.size; (try have HNE := hide (Nat.ne_of_lt (blk_lt HQ6.out))); (try replace HQ6 := hide (hk _ _ HQ6.out)); clear hG hB hk hgr; (try dsimp only at hSn))
  refine hK.out _ _ ?_ (fun hD2 => ?_)
  · (try dsimp only); first | assumption | exact hSof _ (zbD HBR.out)
  clear hK K hD1; try simp only [Act.put, zl, z0, z1]
  refine wpAnyT_ready (rs := [5]) (by kernel_rfl) (by simp) ?_; refine consT 5 rfl (fun K hK => ?_) AllReadyT.nil
  (refine step_app_PsL rfl (.tmp 67) (.tmp 71) rfl W1.heap.size _ [] 0 rfl (ownsP_empty HQ0.out HQ0L.out) rfl _ _ _ (ps.take n) rfl (by rw [List.length_take, HLN.out]; omega) ((HLO.out.below hD2.1).mono hD2.1.size) HCN.out (by omega) (by omega) hD2.1.size n (Nat.zero_add _) (fun A4 c4 W4 ho4 hg4 hl4 => ?_); have hSn := hSof _ (below_own hD2.1 (ownsP_empty HQ0.out HQ0L.out) hg4); have HO4 := hide ho4; (try have HN4 := hide (loc_ne hl4 (fun e => HNE.out (Option.some.inj e).symm) (blk_lt HQ6.out))); (try replace HQ6 := hide ((hg4.block _ (blk_lt HQ6.out) (fun e => HNE.out (Option.some.inj e))).trans HQ6.out)); clear ho4 hg4 hl4 HQ0 HQ0L; (try dsimp only [List.nil_append] at hSn HO4))
  refine hK.out _ _ ?_ (fun hD3 => ?_)
  · (try dsimp only); first | assumption | exact hSof _ (zbD HBR.out)
  clear hK K hD2; try simp only [Act.put, zl, z0, z1]
  refine wpAnyT_ready (rs := [11]) (by kernel_rfl) (by simp) ?_; refine consT 11 rfl (fun K hK => ?_) AllReadyT.nil
  (refine step_app_PsL rfl (.tmp 72) (.tmp 77) rfl W1.heap.size _ (ps.take n) _ rfl HO4.out (by rw [List.length_take, HLN.out]; omega) _ _ _ (ps.drop (n + 1)) rfl (by rw [List.length_drop, HLN.out]) ((HHI.out.below hD3.1).mono hD3.1.size) HHN.out (by omega) (by omega) hD3.1.size (m - 1) (by omega) (fun A5 c5 W5 ho5 hg5 hl5 => ?_); have hSn := hSof _ (below_own hD3.1 HO4.out hg5); have HO5 := hide ho5; (try have HN5 := hide (loc_ne hl5 HN4.out (blk_lt HQ6.out))); (try replace HQ6 := hide ((hg5.block _ (blk_lt HQ6.out) (fun e => HN4.out e.symm)).trans HQ6.out)); clear ho5 hg5 hl5 HO4; (try dsimp only at hSn))
  refine hK.out _ _ ?_ (fun hD4 => ?_)
  · (try dsimp only); first | assumption | exact hSof _ (zbD HBR.out)
  clear hK K hD3; try simp only [Act.put, zl, z0, z1]
  refine wpAnyT_ready (rs := [14]) (by kernel_rfl) (by simp) ?_; refine consT 14 rfl (fun K hK => ?_) AllReadyT.nil
  (refine step_app_PsL rfl (.tmp 78) (.tmp 80) rfl W1.heap.size _ (ps.take n ++ ps.drop (n + 1)) _ rfl HO5.out (by rw [List.length_append, List.length_take, List.length_drop, HLN.out]; omega) _ _ _ [p] rfl rfl (rdP_one HQ6.out) (fun e => by cases e) (by omega) (by omega) hD4.1.size m (by omega) (fun A6 c6 W6 ho6 hg6 _ => ?_); have hSn := hSof _ (below_own hD4.1 HO5.out hg6); have HO6 := hide ho6; clear ho6 hg6 HO5; (try dsimp only at hSn))
  refine hK.out _ _ ?_ (fun hD5 => ?_)
  · (try dsimp only); first | assumption | exact hSof _ (zbD HBR.out)
  clear hK K hD4; try simp only [Act.put, zl, z0, z1]
  refine takeT (v := ?_) 15 rfl (by kernel_rfl) (by kernel_rfl) (by kernel_rfl) (by kernel_rfl) (fun _ _ _ h => hp _ _ _ _ _ h) (Or.inl ⟨by rfl, ?_⟩) (by assumption) ?_; rotate_left
  · (intro w hSw; (try dsimp only at hSw); go_simp; try with_reducible rfl)
  try simp only [Act.put, zl, z0, z1]
  refine wpAnyT_ready (rs := [16]) (by kernel_rfl) (by simp) ?_
  refine lastT rfl (fun K hK => ?_)
  (try dsimp only at hD5)
  go_simp
  refine hK.out _ _ ?_
  clear hK K
  try simp only [Act.put, zl, z0, z1]
  refine wpAnyT_done (by kernel_rfl) ?_ _
  all_goals
    (try dsimp only [Act.put, List.getElem_toArray, List.getElem_cons_succ, List.getElem_cons_zero])
    (try simp only [zl, z0, z1])
    have HBL := hide hSn.1
    have HO7 := hide (HO6.out.kept (gr_set _ bo 0 (.slice A6 m c6)) (.inr (row_ne HO6.out ((HBL.out.block bo (blk_lt HBO.out)).trans HBO.out) (by decide))))
    exact hK _ _ _ _ _ _ _ _ _ _ _ _ _ _ _ _ _ _ _ (hide (blk_set ((HBL.out.block bo (blk_lt HBO.out)).trans HBO.out) 0 _)) HO7 (hide (gr_trans (gr_wide (gr_of HBL.out)) (gr_set _ _ _ _)))

set_option maxRecDepth 100000 in
set_option maxHeartbeats 64000000 in
theorem rtake19 {K : Act → World → Prop} {Q : Exit → Act → World → Prop} (hp : ∀ c a d v w, Q (.panic c) (Act.put a d v) w → Q (.panic c) a w) (bo bx n2 c2 : Nat) (A2 : Option Addr) (wl : List Int) (x : E.Nt) (pv iv : Value) (bk : Int) (W1 : World) (hbo : W1.heap[bo]? = some (.cells #[pv, .slice A2 n2 c2, .int .i64 bk, iv] 78 (0, 0))) (hbx : W1.heap[bx]? = some (.cells #[.int .i64 x.id, .int .i64 x.hour, .int .i64 x.kind, .int .i64 x.player, .int .i64 x.rank] 40 (0, 0))) (hlen : wl.length = n2) (hr : RdI W1 W1.heap.size A2 wl) (hA : A2 = none → c2 = 0) (hm : n2 ≤ 400) (f0 f1 f2 f3 f4 f6 f8 f9 f10 f11 f12 f13 f14 f15 f16 f17 f18 f19 f20 f21 f22 f23 f24 f25 f26 f27 f28 f29 f30 f31 f32 f33 f34 f35 f36 f37 f38 f39 f40 f41 f42 f43 f44 f45 f46 f47 f48 f49 f50 f51 f52 f53 f54 f55 f56 f57 f58 f59 f60 f61 f62 f63 f64 f65 f66 f67 f68 f69 f70 f71 f72 f73 f74 f75 f76 f77 f78 f79 f80 f81 f82 f83 f84 f85 f86 f87 f88 f89 f90 f91 f92 f93 f94 f95 f96 f97 f98 f99 f100 f101 f102 f103 f104 f105 f106 f107 f108 f109 f110 f111 f112 f113 f114 f115 f116 f117 f118 f119 f120 f121 f122 f123 f124 f125 f126 f127 f128 f129 f130 f131 f132 f133 f134 f135 f136 f137 f138 f139 f140 f141 f142 f143 f144 f145 f146 f147 f148 f149 f150 f151 f152 f153 f154 : Value)
    (hK : ∀ (u112 u113 u114 u115 u116 u117 u118 u119 u120 : Value) (A5 : Option Addr) (c5 : Nat) (W2 : World), Hid (W2.heap[bo]? = some (.cells #[pv, .slice A5 (n2 + 1) c5, .int .i64 bk, iv] 78 (0, 0))) → Hid (W2.ownsRow W1.heap.size 3 1 (.slice A5 (n2 + 1) c5) (n2 + 1) (flatI (wl ++ [x.player]))) → Hid (W1.grownBy W2 (some bo)) → K ⟨#[f0, f1, f2, f3, f4, .pointer (some ⟨bx, 0, none⟩), f6, .pointer (some ⟨bo, 0, none⟩), f8, f9, f10, f11, f12, f13, f14, f15, f16, f17, f18, f19, f20, f21, f22, f23, f24, f25, f26, f27, f28, f29, f30, f31, f32, f33, f34, f35, f36, f37, f38, f39, f40, f41, f42, f43, f44, f45, f46, f47, f48, f49, f50, f51, f52, f53, f54, f55, f56, f57, f58, f59, f60, f61, f62, f63, f64, f65, f66, f67, f68, f69, f70, f71, f72, f73, f74, f75, f76, f77, f78, f79, f80, f81, f82, f83, f84, f85, f86, f87, f88, f89, f90, f91, f92, f93, f94, f95, f96, f97, f98, f99, f100, f101, f102, f103, f104, f105, f106, f107, f108, f109, f110, f111, u112, u113, u114, u115, u116, u117, u118, u119, u120, f121, f122, f123, f124, f125, f126, f127, f128, f129, f130, f131, f132, f133, f134, f135, f136, f137, f138, f139, f140, f141, f142, f143, f144, f145, f146, f147, f148, f149, f150, f151, f152, f153, f154], []⟩ W2) :
    Code.wp Try.prog (rtakeReg 19) (Exit.then K Q) ⟨#[f0, f1, f2, f3, f4, .pointer (some ⟨bx, 0, none⟩), f6, .pointer (some ⟨bo, 0, none⟩), f8, f9, f10, f11, f12, f13, f14, f15, f16, f17, f18, f19, f20, f21, f22, f23, f24, f25, f26, f27, f28, f29, f30, f31, f32, f33, f34, f35, f36, f37, f38, f39, f40, f41, f42, f43, f44, f45, f46, f47, f48, f49, f50, f51, f52, f53, f54, f55, f56, f57, f58, f59, f60, f61, f62, f63, f64, f65, f66, f67, f68, f69, f70, f71, f72, f73, f74, f75, f76, f77, f78, f79, f80, f81, f82, f83, f84, f85, f86, f87, f88, f89, f90, f91, f92, f93, f94, f95, f96, f97, f98, f99, f100, f101, f102, f103, f104, f105, f106, f107, f108, f109, f110, f111, f112, f113, f114, f115, f116, f117, f118, f119, f120, f121, f122, f123, f124, f125, f126, f127, f128, f129, f130, f131, f132, f133, f134, f135, f136, f137, f138, f139, f140, f141, f142, f143, f144, f145, f146, f147, f148, f149, f150, f151, f152, f153, f154], []⟩ W1 := by
  conv => arg 2; whnf
  have hSof : ∀ w' : World, Below W1.heap.size W1 w' → (fun w' => Below W1.heap.size W1 w' ∧ w'.cell? ⟨bo, 1, none⟩ = some (.slice A2 n2 c2) ∧ w'.frozen? ⟨bo, 1, none⟩ = false ∧ w'.cell? ⟨bx, 3, none⟩ = some (.int .i64 x.player)) w' := fun w' hb => by have h := (hb.block bo (blk_lt hbo)).trans hbo; have h2 := (hb.block bx (blk_lt hbx)).trans hbx; exact ⟨hb, (blk_cell h 1).trans rfl, blk_frozen h 1, (blk_cell h2 3).trans rfl⟩
  have hS : (fun w' => Below W1.heap.size W1 w' ∧ w'.cell? ⟨bo, 1, none⟩ = some (.slice A2 n2 c2) ∧ w'.frozen? ⟨bo, 1, none⟩ = false ∧ w'.cell? ⟨bx, 3, none⟩ = some (.int .i64 x.player)) W1 := hSof _ (zbR _ _)
  (try dsimp only at hS)
  have HBR := hide (show Below W1.heap.size W1 W1 from zbR _ _)
  have HLN := hide hlen
  have HRI := hide hr
  have HAN := hide hA
  have HBO := hide hbo
  clear hbo hbx hlen hr hA
  refine wp_region_T_drew (S := (fun w' => Below W1.heap.size W1 w' ∧ w'.cell? ⟨bo, 1, none⟩ = some (.slice A2 n2 c2) ∧ w'.frozen? ⟨bo, 1, none⟩ = false ∧ w'.cell? ⟨bx, 3, none⟩ = some (.int .i64 x.player))) 9 (by kernel_rfl) ?_ (fun hD0 => ?_)
  · (try dsimp only); first | assumption | exact hSof _ (zbD HBR.out)
  refine takeT (v := ?_) 1 rfl (by kernel_rfl) (by kernel_rfl) (by kernel_rfl) (by kernel_rfl) (fun _ _ _ h => hp _ _ _ _ _ h) (Or.inl ⟨by rfl, ?_⟩) (by assumption) ?_; rotate_left
  · (intro w hSw; (try dsimp only at hSw); go_simp; try with_reducible rfl)
  try simp only [Act.put, zl, z0, z1]
  refine takeT (v := ?_) 2 rfl (by kernel_rfl) (by kernel_rfl) (by kernel_rfl) (by kernel_rfl) (fun _ _ _ h => hp _ _ _ _ _ h) (Or.inl ⟨by rfl, ?_⟩) (by assumption) ?_; rotate_left
  · (intro w hSw; (try dsimp only at hSw); go_simp; try with_reducible rfl)
  try simp only [Act.put, zl, z0, z1]
  refine takeT (v := ?_) 4 rfl (by kernel_rfl) (by kernel_rfl) (by kernel_rfl) (by kernel_rfl) (fun _ _ _ h => hp _ _ _ _ _ h) (Or.inl ⟨by rfl, ?_⟩) (by assumption) ?_; rotate_left
  · (intro w hSw; (try dsimp only at hSw); go_simp; try with_reducible rfl)
  try simp only [Act.put, zl, z0, z1]
  refine takeT (v := ?_) 5 rfl (by kernel_rfl) (by kernel_rfl) (by kernel_rfl) (by kernel_rfl) (fun _ _ _ h => hp _ _ _ _ _ h) (Or.inl ⟨by rfl, ?_⟩) (by assumption) ?_; rotate_left
  · (intro w hSw; (try dsimp only at hSw); go_simp; try with_reducible rfl)
  try simp only [Act.put, zl, z0, z1]
  refine wpAnyT_ready (rs := [0, 6]) (by kernel_rfl) (by simp) ?_; refine consT 0 rfl (fun K hK => ?_) ?_
  (go_simp; (first | refine capA (K := K) (fun W0 hG hB hk hgr => ?_) | refine capAD (K := K) (fun W0 hG hB hk hgr => ?_)); have hSn := hSof _ (by first | exact hB _ _ hD0.1 hD0.1.size | exact hB _ _ HBR.out (Nat.le_refl _)); have HQ0 := hide hG; have HQ0L := hide hD0.1.size; (try have HNE := hide (Nat.ne_of_lt (blk_lt HQ6.out))); (try replace HQ6 := hide (hk _ _ HQ6.out)); clear hG hB hk hgr; (try dsimp only at hSn))
  refine hK.out _ _ ?_ (fun hD1 => ?_)
  · (try dsimp only); first | assumption | exact hSof _ (zbD HBR.out)
  clear hK K hD0; try simp only [Act.put, zl, z0, z1]
  refine wpAnyT_ready (rs := [3, 6]) (by kernel_rfl) (by simp) ?_; refine consT 3 rfl (fun K hK => ?_) ?_
  (refine step_app_Is rfl (.tmp 112) (.tmp 114) rfl W1.heap.size _ [] 0 rfl (ownsI_empty HQ0.out HQ0L.out) _ _ _ wl rfl HLN.out ((HRI.out.below hD1.1).mono hD1.1.size) HAN.out (by omega) (by omega) hD1.1.size n2 (Nat.zero_add _) (fun A4 c4 W4 ho4 hg4 => ?_); have hSn := hSof _ (below_own hD1.1 (ownsI_empty HQ0.out HQ0L.out) hg4); have HO4 := hide ho4; (try replace HQ6 := hide ((hg4.block _ (blk_lt HQ6.out) (fun e => HNE.out (Option.some.inj e))).trans HQ6.out)); clear ho4 hg4 HQ0 HQ0L; (try dsimp only [List.nil_append] at hSn HO4))
  refine hK.out _ _ ?_ (fun hD2 => ?_)
  · (try dsimp only); first | assumption | exact hSof _ (zbD HBR.out)
  clear hK K hD1; try simp only [Act.put, zl, z0, z1]
  refine wpAnyT_ready (rs := [6]) (by kernel_rfl) (by simp) ?_; refine consT 6 rfl (fun K hK => ?_) AllReadyT.nil
  (go_simp; (first | refine capA (K := K) (fun W0 hG hB hk hgr => ?_) | refine capAD (K := K) (fun W0 hG hB hk hgr => ?_)); have hSn := hSof _ (by first | exact hB _ _ hD2.1 hD2.1.size | exact hB _ _ HBR.out (Nat.le_refl _)); (try have HNE := hide (Nat.ne_of_gt (blk_lt HQ0.out))); have HQ6 := hide (show W0.heap[_]? = some (Obj.cells #[.int .i64 x.player] 3 (0, 0)) from hG); (try replace HQ0 := hide (hk _ _ HQ0.out)); (try replace HO4 := hide (HO4.out.kept hgr (Classical.em _))); clear hG hB hk hgr; (try dsimp only at hSn))
  refine hK.out _ _ ?_ (fun hD3 => ?_)
  · (try dsimp only); first | assumption | exact hSof _ (zbD HBR.out)
  clear hK K hD2; try simp only [Act.put, zl, z0, z1]
  refine wpAnyT_ready (rs := [7]) (by kernel_rfl) (by simp) ?_; refine consT 7 rfl (fun K hK => ?_) AllReadyT.nil
  (refine step_app_Is rfl (.tmp 115) (.tmp 118) rfl W1.heap.size _ wl _ rfl HO4.out _ _ _ [x.player] rfl rfl (rdI_one HQ6.out) (fun e => by cases e) (by omega) (by omega) hD3.1.size (n2 + 1) rfl (fun A5 c5 W5 ho5 hg5 => ?_); have hSn := hSof _ (below_own hD3.1 HO4.out hg5); have HO6 := hide ho5; clear ho5 hg5 HO4; (try dsimp only at hSn))
  refine hK.out _ _ ?_ (fun hD4 => ?_)
  · (try dsimp only); first | assumption | exact hSof _ (zbD HBR.out)
  clear hK K hD3; try simp only [Act.put, zl, z0, z1]
  refine takeT (v := ?_) 8 rfl (by kernel_rfl) (by kernel_rfl) (by kernel_rfl) (by kernel_rfl) (fun _ _ _ h => hp _ _ _ _ _ h) (Or.inl ⟨by rfl, ?_⟩) (by assumption) ?_; rotate_left
  · (intro w hSw; (try dsimp only at hSw); go_simp; try with_reducible rfl)
  try simp only [Act.put, zl, z0, z1]
  refine wpAnyT_ready (rs := [9]) (by kernel_rfl) (by simp) ?_
  refine lastT rfl (fun K hK => ?_)
  (try dsimp only at hD4)
  go_simp
  refine hK.out _ _ ?_
  clear hK K
  try simp only [Act.put, zl, z0, z1]
  refine wpAnyT_done (by kernel_rfl) ?_ _
  rotate_left 1
  refine consT 6 rfl (fun K hK => ?_) AllReadyT.nil
  (go_simp; (first | refine capA (K := K) (fun W0 hG hB hk hgr => ?_) | refine capAD (K := K) (fun W0 hG hB hk hgr => ?_)); have hSn := hSof _ (by first | exact hB _ _ hD1.1 hD1.1.size | exact hB _ _ HBR.out (Nat.le_refl _)); (try have HNE := hide (Nat.ne_of_gt (blk_lt HQ0.out))); have HQ6 := hide (show W0.heap[_]? = some (Obj.cells #[.int .i64 x.player] 3 (0, 0)) from hG); (try replace HQ0 := hide (hk _ _ HQ0.out)); (try replace HO4 := hide (HO4.out.kept hgr (Classical.em _))); clear hG hB hk hgr; (try dsimp only at hSn))
  refine hK.out _ _ ?_ (fun hD2 => ?_)
  · (try dsimp only); first | assumption | exact hSof _ (zbD HBR.out)
  clear hK K hD1; try simp only [Act.put, zl, z0, z1]
  refine wpAnyT_ready (rs := [3]) (by kernel_rfl) (by simp) ?_; refine consT 3 rfl (fun K hK => ?_) AllReadyT.nil
  (refine step_app_Is rfl (.tmp 112) (.tmp 114) rfl W1.heap.size _ [] 0 rfl (ownsI_empty HQ0.out HQ0L.out) _ _ _ wl rfl HLN.out ((HRI.out.below hD2.1).mono hD2.1.size) HAN.out (by omega) (by omega) hD2.1.size n2 (Nat.zero_add _) (fun A4 c4 W4 ho4 hg4 => ?_); have hSn := hSof _ (below_own hD2.1 (ownsI_empty HQ0.out HQ0L.out) hg4); have HO4 := hide ho4; (try replace HQ6 := hide ((hg4.block _ (blk_lt HQ6.out) (fun e => HNE.out (Option.some.inj e))).trans HQ6.out)); clear ho4 hg4 HQ0 HQ0L; (try dsimp only [List.nil_append] at hSn HO4))
  refine hK.out _ _ ?_ (fun hD3 => ?_)
  · (try dsimp only); first | assumption | exact hSof _ (zbD HBR.out)
  clear hK K hD2; try simp only [Act.put, zl, z0, z1]
  refine wpAnyT_ready (rs := [7]) (by kernel_rfl) (by simp) ?_; refine consT 7 rfl (fun K hK => ?_) AllReadyT.nil
  (refine step_app_Is rfl (.tmp 115) (.tmp 118) rfl W1.heap.size _ wl _ rfl HO4.out _ _ _ [x.player] rfl rfl (rdI_one HQ6.out) (fun e => by cases e) (by omega) (by omega) hD3.1.size (n2 + 1) rfl (fun A5 c5 W5 ho5 hg5 => ?_); have hSn := hSof _ (below_own hD3.1 HO4.out hg5); have HO6 := hide ho5; clear ho5 hg5 HO4; (try dsimp only at hSn))
  refine hK.out _ _ ?_ (fun hD4 => ?_)
  · (try dsimp only); first | assumption | exact hSof _ (zbD HBR.out)
  clear hK K hD3; try simp only [Act.put, zl, z0, z1]
  refine takeT (v := ?_) 8 rfl (by kernel_rfl) (by kernel_rfl) (by kernel_rfl) (by kernel_rfl) (fun _ _ _ h => hp _ _ _ _ _ h) (Or.inl ⟨by rfl, ?_⟩) (by assumption) ?_; rotate_left
  · (intro w hSw; (try dsimp only at hSw); go_simp; try with_reducible rfl)
  try simp only [Act.put, zl, z0, z1]
  refine wpAnyT_ready (rs := [9]) (by kernel_rfl) (by simp) ?_
  refine lastT rfl (fun K hK => ?_)
  (try dsimp only at hD4)
  go_simp
  refine hK.out _ _ ?_
  clear hK K
  try simp only [Act.put, zl, z0, z1]
  refine wpAnyT_done (by kernel_rfl) ?_ _
  rotate_left 1
  refine consT 6 rfl (fun K hK => ?_) AllReadyT.nil
  (go_simp; (first | refine capA (K := K) (fun W0 hG hB hk hgr => ?_) | refine capAD (K := K) (fun W0 hG hB hk hgr => ?_)); have hSn := hSof _ (by first | exact hB _ _ hD0.1 hD0.1.size | exact hB _ _ HBR.out (Nat.le_refl _)); (try have HNE := hide (Nat.ne_of_gt (blk_lt HQ0.out))); have HQ6 := hide (show W0.heap[_]? = some (Obj.cells #[.int .i64 x.player] 3 (0, 0)) from hG); (try replace HQ0 := hide (hk _ _ HQ0.out)); (try replace HO4 := hide (HO4.out.kept hgr (Classical.em _))); clear hG hB hk hgr; (try dsimp only at hSn))
  refine hK.out _ _ ?_ (fun hD1 => ?_)
  · (try dsimp only); first | assumption | exact hSof _ (zbD HBR.out)
  clear hK K hD0; try simp only [Act.put, zl, z0, z1]
  refine wpAnyT_ready (rs := [0]) (by kernel_rfl) (by simp) ?_; refine consT 0 rfl (fun K hK => ?_) AllReadyT.nil
  (go_simp; (first | refine capA (K := K) (fun W0 hG hB hk hgr => ?_) | refine capAD (K := K) (fun W0 hG hB hk hgr => ?_)); have hSn := hSof _ (by first | exact hB _ _ hD1.1 hD1.1.size | exact hB _ _ HBR.out (Nat.le_refl _)); have HQ0 := hide hG; have HQ0L := hide hD1.1.size; (try have HNE := hide (Nat.ne_of_lt (blk_lt HQ6.out))); (try replace HQ6 := hide (hk _ _ HQ6.out)); clear hG hB hk hgr; (try dsimp only at hSn))
  refine hK.out _ _ ?_ (fun hD2 => ?_)
  · (try dsimp only); first | assumption | exact hSof _ (zbD HBR.out)
  clear hK K hD1; try simp only [Act.put, zl, z0, z1]
  refine wpAnyT_ready (rs := [3]) (by kernel_rfl) (by simp) ?_; refine consT 3 rfl (fun K hK => ?_) AllReadyT.nil
  (refine step_app_Is rfl (.tmp 112) (.tmp 114) rfl W1.heap.size _ [] 0 rfl (ownsI_empty HQ0.out HQ0L.out) _ _ _ wl rfl HLN.out ((HRI.out.below hD2.1).mono hD2.1.size) HAN.out (by omega) (by omega) hD2.1.size n2 (Nat.zero_add _) (fun A4 c4 W4 ho4 hg4 => ?_); have hSn := hSof _ (below_own hD2.1 (ownsI_empty HQ0.out HQ0L.out) hg4); have HO4 := hide ho4; (try replace HQ6 := hide ((hg4.block _ (blk_lt HQ6.out) (fun e => HNE.out (Option.some.inj e))).trans HQ6.out)); clear ho4 hg4 HQ0 HQ0L; (try dsimp only [List.nil_append] at hSn HO4))
  refine hK.out _ _ ?_ (fun hD3 => ?_)
  · (try dsimp only); first | assumption | exact hSof _ (zbD HBR.out)
  clear hK K hD2; try simp only [Act.put, zl, z0, z1]
  refine wpAnyT_ready (rs := [7]) (by kernel_rfl) (by simp) ?_; refine consT 7 rfl (fun K hK => ?_) AllReadyT.nil
  (refine step_app_Is rfl (.tmp 115) (.tmp 118) rfl W1.heap.size _ wl _ rfl HO4.out _ _ _ [x.player] rfl rfl (rdI_one HQ6.out) (fun e => by cases e) (by omega) (by omega) hD3.1.size (n2 + 1) rfl (fun A5 c5 W5 ho5 hg5 => ?_); have hSn := hSof _ (below_own hD3.1 HO4.out hg5); have HO6 := hide ho5; clear ho5 hg5 HO4; (try dsimp only at hSn))
  refine hK.out _ _ ?_ (fun hD4 => ?_)
  · (try dsimp only); first | assumption | exact hSof _ (zbD HBR.out)
  clear hK K hD3; try simp only [Act.put, zl, z0, z1]
  refine takeT (v := ?_) 8 rfl (by kernel_rfl) (by kernel_rfl) (by kernel_rfl) (by kernel_rfl) (fun _ _ _ h => hp _ _ _ _ _ h) (Or.inl ⟨by rfl, ?_⟩) (by assumption) ?_; rotate_left
  · (intro w hSw; (try dsimp only at hSw); go_simp; try with_reducible rfl)
  try simp only [Act.put, zl, z0, z1]
  refine wpAnyT_ready (rs := [9]) (by kernel_rfl) (by simp) ?_
  refine lastT rfl (fun K hK => ?_)
  (try dsimp only at hD4)
  go_simp
  refine hK.out _ _ ?_
  clear hK K
  try simp only [Act.put, zl, z0, z1]
  refine wpAnyT_done (by kernel_rfl) ?_ _
  all_goals
    (try dsimp only [Act.put, List.getElem_toArray, List.getElem_cons_succ, List.getElem_cons_zero])
    (try simp only [zl, z0, z1])
    have HBL := hide hSn.1
    have HO7 := hide (HO6.out.kept (gr_set _ bo 1 (.slice A5 (n2 + 1) c5)) (.inr (row_ne HO6.out ((HBL.out.block bo (blk_lt HBO.out)).trans HBO.out) (by decide))))
    exact hK _ _ _ _ _ _ _ _ _ _ _ _ (hide (blk_set ((HBL.out.block bo (blk_lt HBO.out)).trans HBO.out) 1 _)) HO7 (hide (gr_trans (gr_wide (gr_of HBL.out)) (gr_set _ _ _ _)))

end Go.Proofs.Ytdhaalonnmajkaa
