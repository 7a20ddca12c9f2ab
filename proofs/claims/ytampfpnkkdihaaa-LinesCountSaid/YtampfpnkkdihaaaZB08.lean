/-
  Part of a claim's texts: contracts of the program's functions and the plain functions that they compute, in build order.
-/
import Derived.Test.YtampfpnkkdihaaaZB05
namespace Go.Proofs.Ytampfpnkkdihaaa
open Go.RowKit
attribute [local go_sem ↓] Go.wp_at_zero Go.wp_at_succ
attribute [local go_sem] run_eqA
set_option maxRecDepth 100000 in
set_option maxHeartbeats 64000000 in
theorem cnt20 {K : Act → World → Prop} {Q : Exit → Act → World → Prop} (hp : ∀ c a d v w, Q (.panic c) (Act.put a d v) w → Q (.panic c) a w) (each more : Int) (l : List L.Ap) (s : L.Rs) (A : Option Addr) (n c p : Nat) (W1 : World) (hn8 : (n : Int) ≤ 8) (lp : p < W1.heap.size) (HN : Hid (l.length = n)) (HA : Hid (A = none → c = 0)) (HCF : Hid (L.CountFin each more l s)) (HRL : Hid (RdA W1 W1.heap.size A l)) (HPB : Hid (W1.heap[p]? = some (.cells #[.int .i64 each, .int .i64 more] 62 (0, 0)))) (f0 f3 f4 f5 f6 f7 f8 f9 f10 f11 f12 f13 f14 f15 f16 f17 f18 f19 f20 f21 f22 f23 f24 f25 f26 f27 f28 f29 f30 f31 f32 f33 f34 f35 f36 f37 f38 f39 f40 f41 f42 f43 f44 f45 f46 f47 f48 f49 f50 f51 f52 f53 f54 f55 f56 f57 f58 f59 f60 f61 f62 f63 f64 f65 f66 f67 f68 f69 f70 f71 f72 f73 f74 f75 f76 f77 f78 f79 f80 f81 f82 f83 f84 f85 f86 f87 f88 f89 f90 f91 f92 f93 f94 f95 f96 f97 f98 f99 f100 f101 f102 f103 f104 f105 f106 f107 f108 f109 f110 f111 f112 f113 f114 f115 f116 f117 f118 f119 f120 f121 f122 f123 f124 f125 f126 f127 f128 f129 f130 f131 f132 f133 f134 f135 f136 f137 f138 f139 f140 f141 f142 f143 f144 f145 f146 f147 f148 f149 f150 f151 f152 f153 f154 f155 f156 f157 f158 f159 f160 f161 f162 f163 f164 f165 f166 f167 f168 f169 f170 f171 f172 f173 f174 f175 f176 f177 f178 f179 f180 f181 f182 f183 f184 f185 f186 f187 f188 f189 f190 f191 f192 f193 f194 f195 f196 f197 f198 f199 f200 f201 f202 f203 f204 f205 f206 f207 f208 f209 f210 f211 f212 f213 f214 f215 f216 f217 f218 f219 f220 f221 f222 f223 f224 f225 f226 f227 f228 f229 f230 f231 f232 f233 f234 f235 f236 f237 f238 f239 f240 f241 f242 f243 f244 f245 f246 f247 f248 f249 f250 f251 f252 f253 f254 f255 f256 f257 f258 f259 f260 f261 f262 f263 f264 f265 f266 f267 f268 f269 f270 f271 f272 f273 f274 f275 f276 f277 f278 f279 f280 f281 : Value)
    (hK : ∀ (u230 u231 u232 u233 u234 u235 u236 u237 u238 u239 u240 u241 u242 : Value) (sv2 : Option Addr) (c2 g : Nat) (wx : World), Hid (wx.ownsRow W1.heap.size 3 1 (.slice sv2 s.ds.length c2) s.ds.length (flatI s.ds)) → Hid (wx.heap[g]? = some (.cells #[.int .i64 (s.l0 + more), .int .i64 (s.l1 + more)] 64 (0, 0))) → Hid (W1.heap.size ≤ g) → Hid (Below W1.heap.size W1 wx) → K ⟨#[f0, .slice A n c, .pointer (some ⟨p, 0, none⟩), f3, f4, f5, f6, f7, f8, f9, f10, f11, f12, f13, f14, f15, .slice sv2 s.ds.length c2, .pointer (some ⟨g, 0, none⟩), .int .i64 0, f19, f20, f21, f22, f23, f24, f25, f26, f27, f28, f29, f30, f31, f32, f33, f34, f35, f36, f37, f38, f39, f40, f41, f42, f43, f44, f45, f46, f47, f48, f49, f50, f51, f52, f53, f54, f55, f56, f57, f58, f59, f60, f61, f62, f63, f64, f65, f66, f67, f68, f69, f70, f71, f72, f73, f74, f75, f76, f77, f78, f79, f80, f81, f82, f83, f84, f85, f86, f87, f88, f89, f90, f91, f92, f93, f94, f95, f96, f97, f98, f99, f100, f101, f102, f103, f104, f105, f106, f107, f108, f109, f110, f111, f112, f113, f114, f115, f116, f117, f118, f119, f120, f121, f122, f123, f124, f125, f126, f127, f128, f129, f130, f131, f132, f133, f134, f135, f136, f137, f138, f139, f140, f141, f142, f143, f144, f145, f146, f147, f148, f149, f150, f151, f152, f153, f154, f155, f156, f157, f158, f159, f160, f161, f162, f163, f164, f165, f166, f167, f168, f169, f170, f171, f172, f173, f174, f175, f176, f177, f178, f179, f180, f181, f182, f183, f184, f185, f186, f187, f188, f189, f190, f191, f192, f193, f194, f195, f196, f197, f198, f199, f200, f201, f202, f203, f204, f205, f206, f207, f208, f209, f210, f211, f212, f213, f214, f215, f216, f217, f218, f219, f220, f221, f222, f223, f224, f225, f226, f227, f228, f229, u230, u231, u232, u233, u234, u235, u236, u237, u238, u239, u240, u241, u242, f243, f244, f245, f246, f247, f248, f249, f250, f251, f252, f253, f254, f255, f256, f257, f258, f259, f260, f261, f262, f263, f264, f265, f266, f267, f268, f269, f270, f271, f272, f273, f274, f275, f276, f277, f278, f279, f280, f281], []⟩ wx) :
    Code.wp Try.prog (cntReg 20) (Exit.then K Q) ⟨#[f0, .slice A n c, .pointer (some ⟨p, 0, none⟩), f3, f4, f5, f6, f7, f8, f9, f10, f11, f12, f13, f14, f15, f16, f17, f18, f19, f20, f21, f22, f23, f24, f25, f26, f27, f28, f29, f30, f31, f32, f33, f34, f35, f36, f37, f38, f39, f40, f41, f42, f43, f44, f45, f46, f47, f48, f49, f50, f51, f52, f53, f54, f55, f56, f57, f58, f59, f60, f61, f62, f63, f64, f65, f66, f67, f68, f69, f70, f71, f72, f73, f74, f75, f76, f77, f78, f79, f80, f81, f82, f83, f84, f85, f86, f87, f88, f89, f90, f91, f92, f93, f94, f95, f96, f97, f98, f99, f100, f101, f102, f103, f104, f105, f106, f107, f108, f109, f110, f111, f112, f113, f114, f115, f116, f117, f118, f119, f120, f121, f122, f123, f124, f125, f126, f127, f128, f129, f130, f131, f132, f133, f134, f135, f136, f137, f138, f139, f140, f141, f142, f143, f144, f145, f146, f147, f148, f149, f150, f151, f152, f153, f154, f155, f156, f157, f158, f159, f160, f161, f162, f163, f164, f165, f166, f167, f168, f169, f170, f171, f172, f173, f174, f175, f176, f177, f178, f179, f180, f181, f182, f183, f184, f185, f186, f187, f188, f189, f190, f191, f192, f193, f194, f195, f196, f197, f198, f199, f200, f201, f202, f203, f204, f205, f206, f207, f208, f209, f210, f211, f212, f213, f214, f215, f216, f217, f218, f219, f220, f221, f222, f223, f224, f225, f226, f227, f228, f229, f230, f231, f232, f233, f234, f235, f236, f237, f238, f239, f240, f241, f242, f243, f244, f245, f246, f247, f248, f249, f250, f251, f252, f253, f254, f255, f256, f257, f258, f259, f260, f261, f262, f263, f264, f265, f266, f267, f268, f269, f270, f271, f272, f273, f274, f275, f276, f277, f278, f279, f280, f281], []⟩ W1 := by
  conv => arg 2; whnf
  have hSof : ∀ v, Below W1.heap.size W1 v → (fun w' => Below W1.heap.size W1 w' ∧ p < w'.heap.size ∧ w'.cell? ⟨p, 0, none⟩ = some (.int .i64 each) ∧ w'.cell? ⟨p, 1, none⟩ = some (.int .i64 more)) v := by
    intro v hb
    have hx := (hb.block p (by first | assumption | omega)).trans HPB.out
    exact ⟨hb, blk_lt hx, (blk_cell hx 0).trans rfl, (blk_cell hx 1).trans rfl⟩
  have hS : (fun w' => Below W1.heap.size W1 w' ∧ p < w'.heap.size ∧ w'.cell? ⟨p, 0, none⟩ = some (.int .i64 each) ∧ w'.cell? ⟨p, 1, none⟩ = some (.int .i64 more)) W1 := hSof _ (Below.refl _ _)
  (try dsimp only at hS)
  refine wp_region_held_drew (S := (fun w' => Below W1.heap.size W1 w' ∧ p < w'.heap.size ∧ w'.cell? ⟨p, 0, none⟩ = some (.int .i64 each) ∧ w'.cell? ⟨p, 1, none⟩ = some (.int .i64 more))) (by kernel_rfl) ?_ (fun hHeld0 => ?_)
  · (try dsimp only); first | assumption | exact hSof _ (zbA hHeld0.1 hHeld0.1.size _) | exact hSof _ (zbD (zbR _ _))
  refine tL (v := ?_) 0 rfl (by kernel_rfl) (fun _ _ _ h => hp _ _ _ _ _ h) (Or.inl ⟨by rfl, ?_⟩) (by assumption) ?_; rotate_left
  · (intro w hSw; (try dsimp only at hSw); go_simp; try with_reducible rfl)
  try simp only [Act.put, zl, z0, z1]
  refine tL (v := ?_) 1 rfl (by kernel_rfl) (fun _ _ _ h => hp _ _ _ _ _ h) (Or.inl ⟨by rfl, ?_⟩) (by assumption) ?_; rotate_left
  · (intro w hSw; (try dsimp only at hSw); go_simp; try with_reducible rfl)
  try simp only [Act.put, zl, z0, z1]
  refine tL (v := ?_) 3 rfl (by kernel_rfl) (fun _ _ _ h => hp _ _ _ _ _ h) (Or.inl ⟨by rfl, ?_⟩) (by assumption) ?_; rotate_left
  · (intro w hSw; (try dsimp only at hSw); go_simp; try with_reducible rfl)
  try simp only [Act.put, zl, z0, z1]
  refine tL (v := ?_) 5 rfl (by kernel_rfl) (fun _ _ _ h => hp _ _ _ _ _ h) (Or.inl ⟨by rfl, ?_⟩) (by assumption) ?_; rotate_left
  · (intro w hSw; (try dsimp only at hSw); go_simp; try with_reducible rfl)
  try simp only [Act.put, zl, z0, z1]
  refine wpAnyH_ready (rs := [2, 6, 13]) (by kernel_rfl) (by simp) ?_
  refine consL 2 rfl (fun K hK => ?_) ?_
  · skip
    (go_simp; (first | refine cap_alloc (K := K) (O := (.cells #[.int .i64 1, .int .i64 0, .int .i64 0, .int .i64 0, .slice none 0 0, .int .i64 0, .int .i64 0, .int .i64 0, .int .i64 0, .int .i64 0, .int .i64 0, .int .i64 0, .int .i64 0, .int .i64 0] 66 (0, 0))) (fun hG hb hle => ?_) | refine cap_allocD (K := K) (O := (.cells #[.int .i64 1, .int .i64 0, .int .i64 0, .int .i64 0, .slice none 0 0, .int .i64 0, .int .i64 0, .int .i64 0, .int .i64 0, .int .i64 0, .int .i64 0, .int .i64 0, .int .i64 0, .int .i64 0] 66 (0, 0))) (fun hG hb hle => ?_)); (try replace HG := hide ((hb.block _ (blk_lt HG.out)).trans HG.out)); (try replace HN1 := hide ((hb.block _ (blk_lt HN1.out)).trans HN1.out)); (try replace HT1 := hide ((hb.block _ (blk_lt HT1.out)).trans HT1.out)); (try replace HO2 := hide (owns_below HO2.out hb)); (try replace HO3 := hide (owns_below HO3.out hb)); (try replace HO9 := hide (owns_below HO9.out hb)); replace hle := Nat.le_trans (show W1.heap.size ≤ _ from hHeld0.1.size) hle; (try simp only [World.size_alloc, drew_size] at hG); (try simp only [World.size_alloc, drew_size] at hle); have HN1 := hide hG; have HN1L := hide hle; clear hG hle hb)
    refine hK.out _ _ ?_ (fun hHeld1 => ?_)
    · (try dsimp only); first | assumption | exact hSof _ (zbA hHeld0.1 hHeld0.1.size _) | exact hSof _ (zbD (zbR _ _))
    clear hK K hHeld0
    try simp only [Act.put, zl, z0, z1]
    refine wpAnyH_ready (rs := [4, 6, 13]) (by kernel_rfl) (by simp) ?_
    refine consL 4 rfl (fun K hK => ?_) ?_
    · skip
      (refine step_app_aps rfl (.tmp 233) (.tmp 234) rfl W1.heap.size _ [L.apNew] 1 rfl (own_new HN1.out HN1L.out) A n c l rfl HN.out ((HRL.out.below (show Below W1.heap.size W1 _ from hHeld1.1)).mono (show W1.heap.size ≤ _ from hHeld1.1.size)) HA.out (by omega) (by omega) (show W1.heap.size ≤ _ from hHeld1.1.size) (n + 1) (by omega) ?_; intro A2 c2 w9 hown2 hgrow; have hBn := (show Below W1.heap.size W1 _ from hHeld1.1).trans (grown_below (B := W1.heap.size) hgrow (show W1.heap.size ≤ _ from hHeld1.1.size) (fun g hg => by have h := Option.some.inj hg; subst h; exact HN1L.out)); (try replace HG := hide ((hgrow.block _ (blk_lt HG.out) (Ne.symm (row_ne (own_new HN1.out HN1L.out) HG.out (by decide)))).trans HG.out)); (try replace HT1 := hide ((hgrow.block _ (blk_lt HT1.out) (fun e => by have h := Option.some.inj e; (try dsimp only at h); first | omega | (simp at h; done) | (simp at h; omega))).trans HT1.out)); have HO2 := hide hown2; have hSn := hSof _ hBn; (try dsimp only at hSn); clear hown2 hgrow hBn)
      refine hK.out _ _ ?_ (fun hHeld2 => ?_)
      · (try dsimp only); first | assumption | exact hSof _ (zbA hHeld1.1 hHeld1.1.size _) | exact hSof _ (zbD (zbR _ _))
      clear hK K hHeld1
      try simp only [Act.put, zl, z0, z1]
      refine wpAnyH_ready (rs := [6, 13]) (by kernel_rfl) (by simp) ?_
      refine consL 6 rfl (fun K hK => ?_) ?_
      · skip
        (go_simp; (first | refine cap_alloc (K := K) (O := (.cells #[.int .i64 2, .int .i64 0, .int .i64 0, .int .i64 0, .slice none 0 0, .int .i64 0, .int .i64 0, .int .i64 0, .int .i64 0, .int .i64 0, .int .i64 0, .int .i64 0, .int .i64 0, .int .i64 0] 66 (0, 0))) (fun hG hb hle => ?_) | refine cap_allocD (K := K) (O := (.cells #[.int .i64 2, .int .i64 0, .int .i64 0, .int .i64 0, .slice none 0 0, .int .i64 0, .int .i64 0, .int .i64 0, .int .i64 0, .int .i64 0, .int .i64 0, .int .i64 0, .int .i64 0, .int .i64 0] 66 (0, 0))) (fun hG hb hle => ?_)); (try replace HG := hide ((hb.block _ (blk_lt HG.out)).trans HG.out)); (try replace HN1 := hide ((hb.block _ (blk_lt HN1.out)).trans HN1.out)); (try replace HT1 := hide ((hb.block _ (blk_lt HT1.out)).trans HT1.out)); (try replace HO2 := hide (owns_below HO2.out hb)); (try replace HO3 := hide (owns_below HO3.out hb)); (try replace HO9 := hide (owns_below HO9.out hb)); replace hle := Nat.le_trans (show W1.heap.size ≤ _ from hHeld2.1.size) hle; (try simp only [World.size_alloc, drew_size] at hG); (try simp only [World.size_alloc, drew_size] at hle); have HT1 := hide hG; have HT1L := hide hle; clear hG hle hb)
        refine hK.out _ _ ?_ (fun hHeld3 => ?_)
        · (try dsimp only); first | assumption | exact hSof _ (zbA hHeld2.1 hHeld2.1.size _) | exact hSof _ (zbD (zbR _ _))
        clear hK K hHeld2
        try simp only [Act.put, zl, z0, z1]
        refine wpAnyH_ready (rs := [7, 13]) (by kernel_rfl) (by simp) ?_
        refine consL 7 rfl (fun K hK => ?_) ?_
        · skip
          (refine step_app_aps rfl (.tmp 235) (.tmp 237) rfl W1.heap.size _ ([L.apNew] ++ l) (n + 1) rfl HO2.out (some ⟨_, 0, none⟩) 1 1 [L.apTie] rfl rfl (rdA_one HT1.out rfl (apTie_rd _ _) (fun _ => rfl)) (fun e => by cases e) (by omega) (by omega) (show W1.heap.size ≤ _ from hHeld3.1.size) (n + 2) (by omega) ?_; intro A3 c3 w11 hown2 hgrow; have hBn := (show Below W1.heap.size W1 _ from hHeld3.1).trans (grown_below (B := W1.heap.size) hgrow (show W1.heap.size ≤ _ from hHeld3.1.size) (fun g hg => (HO2.out.lt g hg).1)); (try replace HG := hide ((hgrow.block _ (blk_lt HG.out) (Ne.symm (row_ne HO2.out HG.out (by decide)))).trans HG.out)); have HO3 := hide hown2; have hSn := hSof _ hBn; (try dsimp only at hSn); clear hown2 hgrow hBn)
          refine hK.out _ _ ?_ (fun hHeld4 => ?_)
          · (try dsimp only); first | assumption | exact hSof _ (zbA hHeld3.1 hHeld3.1.size _) | exact hSof _ (zbD (zbR _ _))
          clear hK K hHeld3
          try simp only [Act.put, zl, z0, z1]
          refine wpAnyH_ready (rs := [8, 13]) (by kernel_rfl) (by simp) ?_
          refine consL 8 rfl (fun K hK => ?_) ?_
          · skip
            go_simp
            ((go_at_call 33; refine (run_cnt2 each more l s HCF.out A3 n c3 W1.heap.size _ HN.out HO3.out ((HRL.out.below (show Below W1.heap.size W1 _ from hHeld4.1)).mono (show W1.heap.size ≤ _ from hHeld4.1.size)).ins).mono ?_; rintro e w10 ⟨sv10, c10, rfl, ho10, hb⟩; have hBn := (show Below W1.heap.size W1 _ from hHeld4.1).trans (hb.mono (show W1.heap.size ≤ _ from hHeld4.1.size)); (try replace HG := hide ((hb.block _ (blk_lt HG.out)).trans HG.out)); have HO9 := hide (owns_mono (base' := W1.heap.size) ho10 (show W1.heap.size ≤ _ from hHeld4.1.size)); have hSn := hSof _ hBn; (try dsimp only at hSn); clear ho10 hBn))
            refine hK.out _ _ ?_ (fun hHeld5 => ?_)
            · (try dsimp only); first | assumption | exact hSof _ (zbA hHeld4.1 hHeld4.1.size _) | exact hSof _ (zbD (zbR _ _))
            clear hK K hHeld4
            try simp only [Act.put, zl, z0, z1]
            refine tL (v := ?_) 9 rfl (by kernel_rfl) (fun _ _ _ h => hp _ _ _ _ _ h) (Or.inl ⟨by rfl, ?_⟩) (by assumption) ?_; rotate_left
            · (intro w hSw; (try dsimp only at hSw); go_simp; try with_reducible rfl)
            try simp only [Act.put, zl, z0, z1]
            refine tL (v := ?_) 10 rfl (by kernel_rfl) (fun _ _ _ h => hp _ _ _ _ _ h) (Or.inl ⟨by rfl, ?_⟩) (by assumption) ?_; rotate_left
            · (intro w hSw; (try dsimp only at hSw); go_simp; try with_reducible rfl)
            try simp only [Act.put, zl, z0, z1]
            refine tL (v := ?_) 11 rfl (by kernel_rfl) (fun _ _ _ h => hp _ _ _ _ _ h) (Or.inl ⟨by rfl, ?_⟩) (by assumption) ?_; rotate_left
            · (intro w hSw; (try dsimp only at hSw); go_simp; try with_reducible rfl)
            try simp only [Act.put, zl, z0, z1]
            refine tL (v := ?_) 12 rfl (by kernel_rfl) (fun _ _ _ h => hp _ _ _ _ _ h) (Or.inl ⟨by rfl, ?_⟩) (by assumption) ?_; rotate_left
            · (intro w hSw; (try dsimp only at hSw); go_simp; try with_reducible rfl)
            try simp only [Act.put, zl, z0, z1]
            refine wpAnyH_ready (rs := [13]) (by kernel_rfl) (by simp) ?_
            refine consL 13 rfl (fun K hK => ?_) AllReadyH.nil
            (go_simp; (first | refine cap_alloc (K := K) (O := (.cells #[.int .i64 0, .int .i64 0] 64 (0, 0))) (fun hG hb hle => ?_) | refine cap_allocD (K := K) (O := (.cells #[.int .i64 0, .int .i64 0] 64 (0, 0))) (fun hG hb hle => ?_)); (try replace HG := hide ((hb.block _ (blk_lt HG.out)).trans HG.out)); (try replace HN1 := hide ((hb.block _ (blk_lt HN1.out)).trans HN1.out)); (try replace HT1 := hide ((hb.block _ (blk_lt HT1.out)).trans HT1.out)); (try replace HO2 := hide (owns_below HO2.out hb)); (try replace HO3 := hide (owns_below HO3.out hb)); (try replace HO9 := hide (owns_below HO9.out hb)); replace hle := Nat.le_trans (show W1.heap.size ≤ _ from hHeld5.1.size) hle; (try simp only [World.size_alloc, drew_size] at hG); (try simp only [World.size_alloc, drew_size] at hle); have HG := hide hG; have HGL := hide hle; clear hG hle hb)
            refine hK.out _ _ ?_ (fun hHeld6 => ?_)
            · (try dsimp only); first | assumption | exact hSof _ (zbA hHeld5.1 hHeld5.1.size _) | exact hSof _ (zbD (zbR _ _))
            clear hK K hHeld5
            try simp only [Act.put, zl, z0, z1]
            refine tL (v := ?_) 14 rfl (by kernel_rfl) (fun _ _ _ h => hp _ _ _ _ _ h) (Or.inl ⟨by rfl, ?_⟩) (by assumption) ?_; rotate_left
            · (intro w hSw; (try dsimp only at hSw); go_simp; try with_reducible rfl)
            try simp only [Act.put, zl, z0, z1]
            refine wpAnyH_ready (rs := [15]) (by kernel_rfl) (by simp) ?_
            refine consL 15 rfl (fun K hK => ?_) AllReadyH.nil
            (refine step_row_count rfl 64 (.tmp 17) (.tmp 241) rfl _ _ rfl rfl 64 _ HG.out arrRow rfl (by simp [Value.oneCell']) ?_; have hr := setRow_heap _ _ _ (#[.int .i64 (s.l0 + more), .int .i64 (s.l1 + more)]) _ _ HG.out; have ho := HO9.out.kept (setRow_grown _ _ (#[.int .i64 (s.l0 + more), .int .i64 (s.l1 + more)])) (.inr (row_ne HO9.out HG.out (by decide))); have hSn := hSof _ (below_row (show Below W1.heap.size W1 _ from hHeld6.1) HGL.out (#[.int .i64 (s.l0 + more), .int .i64 (s.l1 + more)])); refine cap_gen (K := K) (fun W9 hW9 => ?_); rw [← hW9] at hr ho hSn; have HR9 := hide hr; have HO10 := hide ho; clear hr ho hW9; (try dsimp only at hSn))
            refine hK.out _ _ ?_ (fun hHeld7 => ?_)
            · (try dsimp only); first | assumption | exact hSof _ (zbA hHeld6.1 hHeld6.1.size _) | exact hSof _ (zbD (zbR _ _))
            clear hK K hHeld6
            try simp only [Act.put, zl, z0, z1]
            refine tL (v := ?_) 16 rfl (by kernel_rfl) (fun _ _ _ h => hp _ _ _ _ _ h) (Or.inl ⟨by rfl, ?_⟩) (by assumption) ?_; rotate_left
            · (intro w hSw; (try dsimp only at hSw); go_simp; try with_reducible rfl)
            try simp only [Act.put, zl, z0, z1]
            refine wpAnyH_done (by kernel_rfl) ?_ _
            have hBf := hSn.1
            (try dsimp only [Act.put, List.getElem_toArray, List.getElem_cons_succ, List.getElem_cons_zero])
            (try simp only [zl, z0, z1])
            exact hK _ _ _ _ _ _ _ _ _ _ _ _ _  _ _ _ _ HO10 HR9 HGL (hide hBf)
          refine consL 13 rfl (fun K hK => ?_) AllReadyH.nil
          focus
            (go_simp; (first | refine cap_alloc (K := K) (O := (.cells #[.int .i64 0, .int .i64 0] 64 (0, 0))) (fun hG hb hle => ?_) | refine cap_allocD (K := K) (O := (.cells #[.int .i64 0, .int .i64 0] 64 (0, 0))) (fun hG hb hle => ?_)); (try replace HG := hide ((hb.block _ (blk_lt HG.out)).trans HG.out)); (try replace HN1 := hide ((hb.block _ (blk_lt HN1.out)).trans HN1.out)); (try replace HT1 := hide ((hb.block _ (blk_lt HT1.out)).trans HT1.out)); (try replace HO2 := hide (owns_below HO2.out hb)); (try replace HO3 := hide (owns_below HO3.out hb)); (try replace HO9 := hide (owns_below HO9.out hb)); replace hle := Nat.le_trans (show W1.heap.size ≤ _ from hHeld4.1.size) hle; (try simp only [World.size_alloc, drew_size] at hG); (try simp only [World.size_alloc, drew_size] at hle); have HG := hide hG; have HGL := hide hle; clear hG hle hb)
            refine hK.out _ _ ?_ (fun hHeld5 => ?_)
            · (try dsimp only); first | assumption | exact hSof _ (zbA hHeld4.1 hHeld4.1.size _) | exact hSof _ (zbD (zbR _ _))
            clear hK K hHeld4
            try simp only [Act.put, zl, z0, z1]
            refine wpAnyH_ready (rs := [8]) (by kernel_rfl) (by simp) ?_
            refine consL 8 rfl (fun K hK => ?_) AllReadyH.nil
            go_simp
            ((go_at_call 33; refine (run_cnt2 each more l s HCF.out A3 n c3 W1.heap.size _ HN.out HO3.out ((HRL.out.below (show Below W1.heap.size W1 _ from hHeld5.1)).mono (show W1.heap.size ≤ _ from hHeld5.1.size)).ins).mono ?_; rintro e w10 ⟨sv10, c10, rfl, ho10, hb⟩; have hBn := (show Below W1.heap.size W1 _ from hHeld5.1).trans (hb.mono (show W1.heap.size ≤ _ from hHeld5.1.size)); (try replace HG := hide ((hb.block _ (blk_lt HG.out)).trans HG.out)); have HO9 := hide (owns_mono (base' := W1.heap.size) ho10 (show W1.heap.size ≤ _ from hHeld5.1.size)); have hSn := hSof _ hBn; (try dsimp only at hSn); clear ho10 hBn))
            refine hK.out _ _ ?_ (fun hHeld6 => ?_)
            · (try dsimp only); first | assumption | exact hSof _ (zbA hHeld5.1 hHeld5.1.size _) | exact hSof _ (zbD (zbR _ _))
            clear hK K hHeld5
            try simp only [Act.put, zl, z0, z1]
            refine tL (v := ?_) 9 rfl (by kernel_rfl) (fun _ _ _ h => hp _ _ _ _ _ h) (Or.inl ⟨by rfl, ?_⟩) (by assumption) ?_; rotate_left
            · (intro w hSw; (try dsimp only at hSw); go_simp; try with_reducible rfl)
            try simp only [Act.put, zl, z0, z1]
            refine tL (v := ?_) 10 rfl (by kernel_rfl) (fun _ _ _ h => hp _ _ _ _ _ h) (Or.inl ⟨by rfl, ?_⟩) (by assumption) ?_; rotate_left
            · (intro w hSw; (try dsimp only at hSw); go_simp; try with_reducible rfl)
            try simp only [Act.put, zl, z0, z1]
            refine tL (v := ?_) 11 rfl (by kernel_rfl) (fun _ _ _ h => hp _ _ _ _ _ h) (Or.inl ⟨by rfl, ?_⟩) (by assumption) ?_; rotate_left
            · (intro w hSw; (try dsimp only at hSw); go_simp; try with_reducible rfl)
            try simp only [Act.put, zl, z0, z1]
            refine tL (v := ?_) 12 rfl (by kernel_rfl) (fun _ _ _ h => hp _ _ _ _ _ h) (Or.inl ⟨by rfl, ?_⟩) (by assumption) ?_; rotate_left
            · (intro w hSw; (try dsimp only at hSw); go_simp; try with_reducible rfl)
            try simp only [Act.put, zl, z0, z1]
            refine tL (v := ?_) 14 rfl (by kernel_rfl) (fun _ _ _ h => hp _ _ _ _ _ h) (Or.inl ⟨by rfl, ?_⟩) (by assumption) ?_; rotate_left
            · (intro w hSw; (try dsimp only at hSw); go_simp; try with_reducible rfl)
            try simp only [Act.put, zl, z0, z1]
            refine wpAnyH_ready (rs := [15]) (by kernel_rfl) (by simp) ?_
            refine consL 15 rfl (fun K hK => ?_) AllReadyH.nil
            (refine step_row_count rfl 64 (.tmp 17) (.tmp 241) rfl _ _ rfl rfl 64 _ HG.out arrRow rfl (by simp [Value.oneCell']) ?_; have hr := setRow_heap _ _ _ (#[.int .i64 (s.l0 + more), .int .i64 (s.l1 + more)]) _ _ HG.out; have ho := HO9.out.kept (setRow_grown _ _ (#[.int .i64 (s.l0 + more), .int .i64 (s.l1 + more)])) (.inr (row_ne HO9.out HG.out (by decide))); have hSn := hSof _ (below_row (show Below W1.heap.size W1 _ from hHeld6.1) HGL.out (#[.int .i64 (s.l0 + more), .int .i64 (s.l1 + more)])); refine cap_gen (K := K) (fun W9 hW9 => ?_); rw [← hW9] at hr ho hSn; have HR9 := hide hr; have HO10 := hide ho; clear hr ho hW9; (try dsimp only at hSn))
            refine hK.out _ _ ?_ (fun hHeld7 => ?_)
            · (try dsimp only); first | assumption | exact hSof _ (zbA hHeld6.1 hHeld6.1.size _) | exact hSof _ (zbD (zbR _ _))
            clear hK K hHeld6
            try simp only [Act.put, zl, z0, z1]
            refine tL (v := ?_) 16 rfl (by kernel_rfl) (fun _ _ _ h => hp _ _ _ _ _ h) (Or.inl ⟨by rfl, ?_⟩) (by assumption) ?_; rotate_left
            · (intro w hSw; (try dsimp only at hSw); go_simp; try with_reducible rfl)
            try simp only [Act.put, zl, z0, z1]
            refine wpAnyH_done (by kernel_rfl) ?_ _
            have hBf := hSn.1
            (try dsimp only [Act.put, List.getElem_toArray, List.getElem_cons_succ, List.getElem_cons_zero])
            (try simp only [zl, z0, z1])
            exact hK _ _ _ _ _ _ _ _ _ _ _ _ _  _ _ _ _ HO10 HR9 HGL (hide hBf)
        refine consL 13 rfl (fun K hK => ?_) AllReadyH.nil
        focus
          (go_simp; (first | refine cap_alloc (K := K) (O := (.cells #[.int .i64 0, .int .i64 0] 64 (0, 0))) (fun hG hb hle => ?_) | refine cap_allocD (K := K) (O := (.cells #[.int .i64 0, .int .i64 0] 64 (0, 0))) (fun hG hb hle => ?_)); (try replace HG := hide ((hb.block _ (blk_lt HG.out)).trans HG.out)); (try replace HN1 := hide ((hb.block _ (blk_lt HN1.out)).trans HN1.out)); (try replace HT1 := hide ((hb.block _ (blk_lt HT1.out)).trans HT1.out)); (try replace HO2 := hide (owns_below HO2.out hb)); (try replace HO3 := hide (owns_below HO3.out hb)); (try replace HO9 := hide (owns_below HO9.out hb)); replace hle := Nat.le_trans (show W1.heap.size ≤ _ from hHeld3.1.size) hle; (try simp only [World.size_alloc, drew_size] at hG); (try simp only [World.size_alloc, drew_size] at hle); have HG := hide hG; have HGL := hide hle; clear hG hle hb)
          refine hK.out _ _ ?_ (fun hHeld4 => ?_)
          · (try dsimp only); first | assumption | exact hSof _ (zbA hHeld3.1 hHeld3.1.size _) | exact hSof _ (zbD (zbR _ _))
          clear hK K hHeld3
          try simp only [Act.put, zl, z0, z1]
          refine wpAnyH_ready (rs := [7]) (by kernel_rfl) (by simp) ?_
          refine consL 7 rfl (fun K hK => ?_) AllReadyH.nil
          (refine step_app_aps rfl (.tmp 235) (.tmp 237) rfl W1.heap.size _ ([L.apNew] ++ l) (n + 1) rfl HO2.out (some ⟨_, 0, none⟩) 1 1 [L.apTie] rfl rfl (rdA_one HT1.out rfl (apTie_rd _ _) (fun _ => rfl)) (fun e => by cases e) (by omega) (by omega) (show W1.heap.size ≤ _ from hHeld4.1.size) (n + 2) (by omega) ?_; intro A3 c3 w11 hown2 hgrow; have hBn := (show Below W1.heap.size W1 _ from hHeld4.1).trans (grown_below (B := W1.heap.size) hgrow (show W1.heap.size ≤ _ from hHeld4.1.size) (fun g hg => (HO2.out.lt g hg).1)); (try replace HG := hide ((hgrow.block _ (blk_lt HG.out) (Ne.symm (row_ne HO2.out HG.out (by decide)))).trans HG.out)); have HO3 := hide hown2; have hSn := hSof _ hBn; (try dsimp only at hSn); clear hown2 hgrow hBn)
          refine hK.out _ _ ?_ (fun hHeld5 => ?_)
          · (try dsimp only); first | assumption | exact hSof _ (zbA hHeld4.1 hHeld4.1.size _) | exact hSof _ (zbD (zbR _ _))
          clear hK K hHeld4
          try simp only [Act.put, zl, z0, z1]
          refine wpAnyH_ready (rs := [8]) (by kernel_rfl) (by simp) ?_
          refine consL 8 rfl (fun K hK => ?_) AllReadyH.nil
          go_simp
          ((go_at_call 33; refine (run_cnt2 each more l s HCF.out A3 n c3 W1.heap.size _ HN.out HO3.out ((HRL.out.below (show Below W1.heap.size W1 _ from hHeld5.1)).mono (show W1.heap.size ≤ _ from hHeld5.1.size)).ins).mono ?_; rintro e w10 ⟨sv10, c10, rfl, ho10, hb⟩; have hBn := (show Below W1.heap.size W1 _ from hHeld5.1).trans (hb.mono (show W1.heap.size ≤ _ from hHeld5.1.size)); (try replace HG := hide ((hb.block _ (blk_lt HG.out)).trans HG.out)); have HO9 := hide (owns_mono (base' := W1.heap.size) ho10 (show W1.heap.size ≤ _ from hHeld5.1.size)); have hSn := hSof _ hBn; (try dsimp only at hSn); clear ho10 hBn))
          refine hK.out _ _ ?_ (fun hHeld6 => ?_)
          · (try dsimp only); first | assumption | exact hSof _ (zbA hHeld5.1 hHeld5.1.size _) | exact hSof _ (zbD (zbR _ _))
          clear hK K hHeld5
          try simp only [Act.put, zl, z0, z1]
          refine tL (v := ?_) 9 rfl (by kernel_rfl) (fun _ _ _ h => hp _ _ _ _ _ h) (Or.inl ⟨by rfl, ?_⟩) (by assumption) ?_; rotate_left
          · (intro w hSw; (try dsimp only at hSw); go_simp; try with_reducible rfl)
          try simp only [Act.put, zl, z0, z1]
          refine tL (v := ?_) 10 rfl (by kernel_rfl) (fun _ _ _ h => hp _ _ _ _ _ h) (Or.inl ⟨by rfl, ?_⟩) (by assumption) ?_; rotate_left
          · (intro w hSw; (try dsimp only at hSw); go_simp; try with_reducible rfl)
          try simp only [Act.put, zl, z0, z1]
          refine tL (v := ?_) 11 rfl (by kernel_rfl) (fun _ _ _ h => hp _ _ _ _ _ h) (Or.inl ⟨by rfl, ?_⟩) (by assumption) ?_; rotate_left
          · (intro w hSw; (try dsimp only at hSw); go_simp; try with_reducible rfl)
          try simp only [Act.put, zl, z0, z1]
          refine tL (v := ?_) 12 rfl (by kernel_rfl) (fun _ _ _ h => hp _ _ _ _ _ h) (Or.inl ⟨by rfl, ?_⟩) (by assumption) ?_; rotate_left
          · (intro w hSw; (try dsimp only at hSw); go_simp; try with_reducible rfl)
          try simp only [Act.put, zl, z0, z1]
          refine tL (v := ?_) 14 rfl (by kernel_rfl) (fun _ _ _ h => hp _ _ _ _ _ h) (Or.inl ⟨by rfl, ?_⟩) (by assumption) ?_; rotate_left
          · (intro w hSw; (try dsimp only at hSw); go_simp; try with_reducible rfl)
          try simp only [Act.put, zl, z0, z1]
          refine wpAnyH_ready (rs := [15]) (by kernel_rfl) (by simp) ?_
          refine consL 15 rfl (fun K hK => ?_) AllReadyH.nil
          (refine step_row_count rfl 64 (.tmp 17) (.tmp 241) rfl _ _ rfl rfl 64 _ HG.out arrRow rfl (by simp [Value.oneCell']) ?_; have hr := setRow_heap _ _ _ (#[.int .i64 (s.l0 + more), .int .i64 (s.l1 + more)]) _ _ HG.out; have ho := HO9.out.kept (setRow_grown _ _ (#[.int .i64 (s.l0 + more), .int .i64 (s.l1 + more)])) (.inr (row_ne HO9.out HG.out (by decide))); have hSn := hSof _ (below_row (show Below W1.heap.size W1 _ from hHeld6.1) HGL.out (#[.int .i64 (s.l0 + more), .int .i64 (s.l1 + more)])); refine cap_gen (K := K) (fun W9 hW9 => ?_); rw [← hW9] at hr ho hSn; have HR9 := hide hr; have HO10 := hide ho; clear hr ho hW9; (try dsimp only at hSn))
          refine hK.out _ _ ?_ (fun hHeld7 => ?_)
          · (try dsimp only); first | assumption | exact hSof _ (zbA hHeld6.1 hHeld6.1.size _) | exact hSof _ (zbD (zbR _ _))
          clear hK K hHeld6
          try simp only [Act.put, zl, z0, z1]
          refine tL (v := ?_) 16 rfl (by kernel_rfl) (fun _ _ _ h => hp _ _ _ _ _ h) (Or.inl ⟨by rfl, ?_⟩) (by assumption) ?_; rotate_left
          · (intro w hSw; (try dsimp only at hSw); go_simp; try with_reducible rfl)
          try simp only [Act.put, zl, z0, z1]
          refine wpAnyH_done (by kernel_rfl) ?_ _
          have hBf := hSn.1
          (try dsimp only [Act.put, List.getElem_toArray, List.getElem_cons_succ, List.getElem_cons_zero])
          (try simp only [zl, z0, z1])
          exact hK _ _ _ _ _ _ _ _ _ _ _ _ _  _ _ _ _ HO10 HR9 HGL (hide hBf)
      refine consL 13 rfl (fun K hK => ?_) AllReadyH.nil
      focus
        (go_simp; (first | refine cap_alloc (K := K) (O := (.cells #[.int .i64 0, .int .i64 0] 64 (0, 0))) (fun hG hb hle => ?_) | refine cap_allocD (K := K) (O := (.cells #[.int .i64 0, .int .i64 0] 64 (0, 0))) (fun hG hb hle => ?_)); (try replace HG := hide ((hb.block _ (blk_lt HG.out)).trans HG.out)); (try replace HN1 := hide ((hb.block _ (blk_lt HN1.out)).trans HN1.out)); (try replace HT1 := hide ((hb.block _ (blk_lt HT1.out)).trans HT1.out)); (try replace HO2 := hide (owns_below HO2.out hb)); (try replace HO3 := hide (owns_below HO3.out hb)); (try replace HO9 := hide (owns_below HO9.out hb)); replace hle := Nat.le_trans (show W1.heap.size ≤ _ from hHeld2.1.size) hle; (try simp only [World.size_alloc, drew_size] at hG); (try simp only [World.size_alloc, drew_size] at hle); have HG := hide hG; have HGL := hide hle; clear hG hle hb)
        refine hK.out _ _ ?_ (fun hHeld3 => ?_)
        · (try dsimp only); first | assumption | exact hSof _ (zbA hHeld2.1 hHeld2.1.size _) | exact hSof _ (zbD (zbR _ _))
        clear hK K hHeld2
        try simp only [Act.put, zl, z0, z1]
        refine wpAnyH_ready (rs := [6]) (by kernel_rfl) (by simp) ?_
        refine consL 6 rfl (fun K hK => ?_) AllReadyH.nil
        (go_simp; (first | refine cap_alloc (K := K) (O := (.cells #[.int .i64 2, .int .i64 0, .int .i64 0, .int .i64 0, .slice none 0 0, .int .i64 0, .int .i64 0, .int .i64 0, .int .i64 0, .int .i64 0, .int .i64 0, .int .i64 0, .int .i64 0, .int .i64 0] 66 (0, 0))) (fun hG hb hle => ?_) | refine cap_allocD (K := K) (O := (.cells #[.int .i64 2, .int .i64 0, .int .i64 0, .int .i64 0, .slice none 0 0, .int .i64 0, .int .i64 0, .int .i64 0, .int .i64 0, .int .i64 0, .int .i64 0, .int .i64 0, .int .i64 0, .int .i64 0] 66 (0, 0))) (fun hG hb hle => ?_)); (try replace HG := hide ((hb.block _ (blk_lt HG.out)).trans HG.out)); (try replace HN1 := hide ((hb.block _ (blk_lt HN1.out)).trans HN1.out)); (try replace HT1 := hide ((hb.block _ (blk_lt HT1.out)).trans HT1.out)); (try replace HO2 := hide (owns_below HO2.out hb)); (try replace HO3 := hide (owns_below HO3.out hb)); (try replace HO9 := hide (owns_below HO9.out hb)); replace hle := Nat.le_trans (show W1.heap.size ≤ _ from hHeld3.1.size) hle; (try simp only [World.size_alloc, drew_size] at hG); (try simp only [World.size_alloc, drew_size] at hle); have HT1 := hide hG; have HT1L := hide hle; clear hG hle hb)
        refine hK.out _ _ ?_ (fun hHeld4 => ?_)
        · (try dsimp only); first | assumption | exact hSof _ (zbA hHeld3.1 hHeld3.1.size _) | exact hSof _ (zbD (zbR _ _))
        clear hK K hHeld3
        try simp only [Act.put, zl, z0, z1]
        refine wpAnyH_ready (rs := [7]) (by kernel_rfl) (by simp) ?_
        refine consL 7 rfl (fun K hK => ?_) AllReadyH.nil
        (refine step_app_aps rfl (.tmp 235) (.tmp 237) rfl W1.heap.size _ ([L.apNew] ++ l) (n + 1) rfl HO2.out (some ⟨_, 0, none⟩) 1 1 [L.apTie] rfl rfl (rdA_one HT1.out rfl (apTie_rd _ _) (fun _ => rfl)) (fun e => by cases e) (by omega) (by omega) (show W1.heap.size ≤ _ from hHeld4.1.size) (n + 2) (by omega) ?_; intro A3 c3 w11 hown2 hgrow; have hBn := (show Below W1.heap.size W1 _ from hHeld4.1).trans (grown_below (B := W1.heap.size) hgrow (show W1.heap.size ≤ _ from hHeld4.1.size) (fun g hg => (HO2.out.lt g hg).1)); (try replace HG := hide ((hgrow.block _ (blk_lt HG.out) (Ne.symm (row_ne HO2.out HG.out (by decide)))).trans HG.out)); have HO3 := hide hown2; have hSn := hSof _ hBn; (try dsimp only at hSn); clear hown2 hgrow hBn)
        refine hK.out _ _ ?_ (fun hHeld5 => ?_)
        · (try dsimp only); first | assumption | exact hSof _ (zbA hHeld4.1 hHeld4.1.size _) | exact hSof _ (zbD (zbR _ _))
        clear hK K hHeld4
        try simp only [Act.put, zl, z0, z1]
        refine wpAnyH_ready (rs := [8]) (by kernel_rfl) (by simp) ?_
        refine consL 8 rfl (fun K hK => ?_) AllReadyH.nil
        go_simp
        ((go_at_call 33; refine (run_cnt2 each more l s HCF.out A3 n c3 W1.heap.size _ HN.out HO3.out ((HRL.out.below (show Below W1.heap.size W1 _ from hHeld5.1)).mono (show W1.heap.size ≤ _ from hHeld5.1.size)).ins).mono ?_; rintro e w10 ⟨sv10, c10, rfl, ho10, hb⟩; have hBn := (show Below W1.heap.size W1 _ from hHeld5.1).trans (hb.mono (show W1.heap.size ≤ _ from hHeld5.1.size)); (try replace HG := hide ((hb.block _ (blk_lt HG.out)).trans HG.out)); have HO9 := hide (owns_mono (base' := W1.heap.size) ho10 (show W1.heap.size ≤ _ from hHeld5.1.size)); have hSn := hSof _ hBn; (try dsimp only at hSn); clear ho10 hBn))
        refine hK.out _ _ ?_ (fun hHeld6 => ?_)
        · (try dsimp only); first | assumption | exact hSof _ (zbA hHeld5.1 hHeld5.1.size _) | exact hSof _ (zbD (zbR _ _))
        clear hK K hHeld5
        try simp only [Act.put, zl, z0, z1]
        refine tL (v := ?_) 9 rfl (by kernel_rfl) (fun _ _ _ h => hp _ _ _ _ _ h) (Or.inl ⟨by rfl, ?_⟩) (by assumption) ?_; rotate_left
        · (intro w hSw; (try dsimp only at hSw); go_simp; try with_reducible rfl)
        try simp only [Act.put, zl, z0, z1]
        refine tL (v := ?_) 10 rfl (by kernel_rfl) (fun _ _ _ h => hp _ _ _ _ _ h) (Or.inl ⟨by rfl, ?_⟩) (by assumption) ?_; rotate_left
        · (intro w hSw; (try dsimp only at hSw); go_simp; try with_reducible rfl)
        try simp only [Act.put, zl, z0, z1]
        refine tL (v := ?_) 11 rfl (by kernel_rfl) (fun _ _ _ h => hp _ _ _ _ _ h) (Or.inl ⟨by rfl, ?_⟩) (by assumption) ?_; rotate_left
        · (intro w hSw; (try dsimp only at hSw); go_simp; try with_reducible rfl)
        try simp only [Act.put, zl, z0, z1]
        refine tL (v := ?_) 12 rfl (by kernel_rfl) (fun _ _ _ h => hp _ _ _ _ _ h) (Or.inl ⟨by rfl, ?_⟩) (by assumption) ?_; rotate_left
        · (intro w hSw; (try dsimp only at hSw); go_simp; try with_reducible rfl)
        try simp only [Act.put, zl, z0, z1]
        refine tL (v := ?_) 14 rfl (by kernel_rfl) (fun _ _ _ h => hp _ _ _ _ _ h) (Or.inl ⟨by rfl, ?_⟩) (by assumption) ?_; rotate_left
        · (intro w hSw; (try dsimp only at hSw); go_simp; try with_reducible rfl)
        try simp only [Act.put, zl, z0, z1]
        refine wpAnyH_ready (rs := [15]) (by kernel_rfl) (by simp) ?_
        refine consL 15 rfl (fun K hK => ?_) AllReadyH.nil
        (refine step_row_count rfl 64 (.tmp 17) (.tmp 241) rfl _ _ rfl rfl 64 _ HG.out arrRow rfl (by simp [Value.oneCell']) ?_; have hr := setRow_heap _ _ _ (#[.int .i64 (s.l0 + more), .int .i64 (s.l1 + more)]) _ _ HG.out; have ho := HO9.out.kept (setRow_grown _ _ (#[.int .i64 (s.l0 + more), .int .i64 (s.l1 + more)])) (.inr (row_ne HO9.out HG.out (by decide))); have hSn := hSof _ (below_row (show Below W1.heap.size W1 _ from hHeld6.1) HGL.out (#[.int .i64 (s.l0 + more), .int .i64 (s.l1 + more)])); refine cap_gen (K := K) (fun W9 hW9 => ?_); rw [← hW9] at hr ho hSn; have HR9 := hide hr; have HO10 := hide ho; clear hr ho hW9; (try dsimp only at hSn))
        refine hK.out _ _ ?_ (fun hHeld7 => ?_)
        · (try dsimp only); first | assumption | exact hSof _ (zbA hHeld6.1 hHeld6.1.size _) | exact hSof _ (zbD (zbR _ _))
        clear hK K hHeld6
        try simp only [Act.put, zl, z0, z1]
        refine tL (v := ?_) 16 rfl (by kernel_rfl) (fun _ _ _ h => hp _ _ _ _ _ h) (Or.inl ⟨by rfl, ?_⟩) (by assumption) ?_; rotate_left
        · (intro w hSw; (try dsimp only at hSw); go_simp; try with_reducible rfl)
        try simp only [Act.put, zl, z0, z1]
        refine wpAnyH_done (by kernel_rfl) ?_ _
        have hBf := hSn.1
        (try dsimp only [Act.put, List.getElem_toArray, List.getElem_cons_succ, List.getElem_cons_zero])
        (try simp only [zl, z0, z1])
        exact hK _ _ _ _ _ _ _ _ _ _ _ _ _  _ _ _ _ HO10 HR9 HGL (hide hBf)
    refine consL 6 rfl (fun K hK => ?_) ?_
    · skip
      (go_simp; (first | refine cap_alloc (K := K) (O := (.cells #[.int .i64 2, .int .i64 0, .int .i64 0, .int .i64 0, .slice none 0 0, .int .i64 0, .int .i64 0, .int .i64 0, .int .i64 0, .int .i64 0, .int .i64 0, .int .i64 0, .int .i64 0, .int .i64 0] 66 (0, 0))) (fun hG hb hle => ?_) | refine cap_allocD (K := K) (O := (.cells #[.int .i64 2, .int .i64 0, .int .i64 0, .int .i64 0, .slice none 0 0, .int .i64 0, .int .i64 0, .int .i64 0, .int .i64 0, .int .i64 0, .int .i64 0, .int .i64 0, .int .i64 0, .int .i64 0] 66 (0, 0))) (fun hG hb hle => ?_)); (try replace HG := hide ((hb.block _ (blk_lt HG.out)).trans HG.out)); (try replace HN1 := hide ((hb.block _ (blk_lt HN1.out)).trans HN1.out)); (try replace HT1 := hide ((hb.block _ (blk_lt HT1.out)).trans HT1.out)); (try replace HO2 := hide (owns_below HO2.out hb)); (try replace HO3 := hide (owns_below HO3.out hb)); (try replace HO9 := hide (owns_below HO9.out hb)); replace hle := Nat.le_trans (show W1.heap.size ≤ _ from hHeld1.1.size) hle; (try simp only [World.size_alloc, drew_size] at hG); (try simp only [World.size_alloc, drew_size] at hle); have HT1 := hide hG; have HT1L := hide hle; clear hG hle hb)
      refine hK.out _ _ ?_ (fun hHeld2 => ?_)
      · (try dsimp only); first | assumption | exact hSof _ (zbA hHeld1.1 hHeld1.1.size _) | exact hSof _ (zbD (zbR _ _))
      clear hK K hHeld1
      try simp only [Act.put, zl, z0, z1]
      refine wpAnyH_ready (rs := [4, 13]) (by kernel_rfl) (by simp) ?_
      refine consL 4 rfl (fun K hK => ?_) ?_
      · skip
        (refine step_app_aps rfl (.tmp 233) (.tmp 234) rfl W1.heap.size _ [L.apNew] 1 rfl (own_new HN1.out HN1L.out) A n c l rfl HN.out ((HRL.out.below (show Below W1.heap.size W1 _ from hHeld2.1)).mono (show W1.heap.size ≤ _ from hHeld2.1.size)) HA.out (by omega) (by omega) (show W1.heap.size ≤ _ from hHeld2.1.size) (n + 1) (by omega) ?_; intro A2 c2 w9 hown2 hgrow; have hBn := (show Below W1.heap.size W1 _ from hHeld2.1).trans (grown_below (B := W1.heap.size) hgrow (show W1.heap.size ≤ _ from hHeld2.1.size) (fun g hg => by have h := Option.some.inj hg; subst h; exact HN1L.out)); (try replace HG := hide ((hgrow.block _ (blk_lt HG.out) (Ne.symm (row_ne (own_new HN1.out HN1L.out) HG.out (by decide)))).trans HG.out)); (try replace HT1 := hide ((hgrow.block _ (blk_lt HT1.out) (fun e => by have h := Option.some.inj e; (try dsimp only at h); first | omega | (simp at h; done) | (simp at h; omega))).trans HT1.out)); have HO2 := hide hown2; have hSn := hSof _ hBn; (try dsimp only at hSn); clear hown2 hgrow hBn)
        refine hK.out _ _ ?_ (fun hHeld3 => ?_)
        · (try dsimp only); first | assumption | exact hSof _ (zbA hHeld2.1 hHeld2.1.size _) | exact hSof _ (zbD (zbR _ _))
        clear hK K hHeld2
        try simp only [Act.put, zl, z0, z1]
        refine wpAnyH_ready (rs := [7, 13]) (by kernel_rfl) (by simp) ?_
        refine consL 7 rfl (fun K hK => ?_) ?_
        · skip
          (refine step_app_aps rfl (.tmp 235) (.tmp 237) rfl W1.heap.size _ ([L.apNew] ++ l) (n + 1) rfl HO2.out (some ⟨_, 0, none⟩) 1 1 [L.apTie] rfl rfl (rdA_one HT1.out rfl (apTie_rd _ _) (fun _ => rfl)) (fun e => by cases e) (by omega) (by omega) (show W1.heap.size ≤ _ from hHeld3.1.size) (n + 2) (by omega) ?_; intro A3 c3 w11 hown2 hgrow; have hBn := (show Below W1.heap.size W1 _ from hHeld3.1).trans (grown_below (B := W1.heap.size) hgrow (show W1.heap.size ≤ _ from hHeld3.1.size) (fun g hg => (HO2.out.lt g hg).1)); (try replace HG := hide ((hgrow.block _ (blk_lt HG.out) (Ne.symm (row_ne HO2.out HG.out (by decide)))).trans HG.out)); have HO3 := hide hown2; have hSn := hSof _ hBn; (try dsimp only at hSn); clear hown2 hgrow hBn)
          refine hK.out _ _ ?_ (fun hHeld4 => ?_)
          · (try dsimp only); first | assumption | exact hSof _ (zbA hHeld3.1 hHeld3.1.size _) | exact hSof _ (zbD (zbR _ _))
          clear hK K hHeld3
          try simp only [Act.put, zl, z0, z1]
          refine wpAnyH_ready (rs := [8, 13]) (by kernel_rfl) (by simp) ?_
          refine consL 8 rfl (fun K hK => ?_) ?_
          · skip
            go_simp
            ((go_at_call 33; refine (run_cnt2 each more l s HCF.out A3 n c3 W1.heap.size _ HN.out HO3.out ((HRL.out.below (show Below W1.heap.size W1 _ from hHeld4.1)).mono (show W1.heap.size ≤ _ from hHeld4.1.size)).ins).mono ?_; rintro e w10 ⟨sv10, c10, rfl, ho10, hb⟩; have hBn := (show Below W1.heap.size W1 _ from hHeld4.1).trans (hb.mono (show W1.heap.size ≤ _ from hHeld4.1.size)); (try replace HG := hide ((hb.block _ (blk_lt HG.out)).trans HG.out)); have HO9 := hide (owns_mono (base' := W1.heap.size) ho10 (show W1.heap.size ≤ _ from hHeld4.1.size)); have hSn := hSof _ hBn; (try dsimp only at hSn); clear ho10 hBn))
            refine hK.out _ _ ?_ (fun hHeld5 => ?_)
            · (try dsimp only); first | assumption | exact hSof _ (zbA hHeld4.1 hHeld4.1.size _) | exact hSof _ (zbD (zbR _ _))
            clear hK K hHeld4
            try simp only [Act.put, zl, z0, z1]
            refine tL (v := ?_) 9 rfl (by kernel_rfl) (fun _ _ _ h => hp _ _ _ _ _ h) (Or.inl ⟨by rfl, ?_⟩) (by assumption) ?_; rotate_left
            · (intro w hSw; (try dsimp only at hSw); go_simp; try with_reducible rfl)
            try simp only [Act.put, zl, z0, z1]
            refine tL (v := ?_) 10 rfl (by kernel_rfl) (fun _ _ _ h => hp _ _ _ _ _ h) (Or.inl ⟨by rfl, ?_⟩) (by assumption) ?_; rotate_left
            · (intro w hSw; (try dsimp only at hSw); go_simp; try with_reducible rfl)
            try simp only [Act.put, zl, z0, z1]
            refine tL (v := ?_) 11 rfl (by kernel_rfl) (fun _ _ _ h => hp _ _ _ _ _ h) (Or.inl ⟨by rfl, ?_⟩) (by assumption) ?_; rotate_left
            · (intro w hSw; (try dsimp only at hSw); go_simp; try with_reducible rfl)
            try simp only [Act.put, zl, z0, z1]
            refine tL (v := ?_) 12 rfl (by kernel_rfl) (fun _ _ _ h => hp _ _ _ _ _ h) (Or.inl ⟨by rfl, ?_⟩) (by assumption) ?_; rotate_left
            · (intro w hSw; (try dsimp only at hSw); go_simp; try with_reducible rfl)
            try simp only [Act.put, zl, z0, z1]
            refine wpAnyH_ready (rs := [13]) (by kernel_rfl) (by simp) ?_
            refine consL 13 rfl (fun K hK => ?_) AllReadyH.nil
            (go_simp; (first | refine cap_alloc (K := K) (O := (.cells #[.int .i64 0, .int .i64 0] 64 (0, 0))) (fun hG hb hle => ?_) | refine cap_allocD (K := K) (O := (.cells #[.int .i64 0, .int .i64 0] 64 (0, 0))) (fun hG hb hle => ?_)); (try replace HG := hide ((hb.block _ (blk_lt HG.out)).trans HG.out)); (try replace HN1 := hide ((hb.block _ (blk_lt HN1.out)).trans HN1.out)); (try replace HT1 := hide ((hb.block _ (blk_lt HT1.out)).trans HT1.out)); (try replace HO2 := hide (owns_below HO2.out hb)); (try replace HO3 := hide (owns_below HO3.out hb)); (try replace HO9 := hide (owns_below HO9.out hb)); replace hle := Nat.le_trans (show W1.heap.size ≤ _ from hHeld5.1.size) hle; (try simp only [World.size_alloc, drew_size] at hG); (try simp only [World.size_alloc, drew_size] at hle); have HG := hide hG; have HGL := hide hle; clear hG hle hb)
            refine hK.out _ _ ?_ (fun hHeld6 => ?_)
            · (try dsimp only); first | assumption | exact hSof _ (zbA hHeld5.1 hHeld5.1.size _) | exact hSof _ (zbD (zbR _ _))
            clear hK K hHeld5
            try simp only [Act.put, zl, z0, z1]
            refine tL (v := ?_) 14 rfl (by kernel_rfl) (fun _ _ _ h => hp _ _ _ _ _ h) (Or.inl ⟨by rfl, ?_⟩) (by assumption) ?_; rotate_left
            · (intro w hSw; (try dsimp only at hSw); go_simp; try with_reducible rfl)
            try simp only [Act.put, zl, z0, z1]
            refine wpAnyH_ready (rs := [15]) (by kernel_rfl) (by simp) ?_
            refine consL 15 rfl (fun K hK => ?_) AllReadyH.nil
            (refine step_row_count rfl 64 (.tmp 17) (.tmp 241) rfl _ _ rfl rfl 64 _ HG.out arrRow rfl (by simp [Value.oneCell']) ?_; have hr := setRow_heap _ _ _ (#[.int .i64 (s.l0 + more), .int .i64 (s.l1 + more)]) _ _ HG.out; have ho := HO9.out.kept (setRow_grown _ _ (#[.int .i64 (s.l0 + more), .int .i64 (s.l1 + more)])) (.inr (row_ne HO9.out HG.out (by decide))); have hSn := hSof _ (below_row (show Below W1.heap.size W1 _ from hHeld6.1) HGL.out (#[.int .i64 (s.l0 + more), .int .i64 (s.l1 + more)])); refine cap_gen (K := K) (fun W9 hW9 => ?_); rw [← hW9] at hr ho hSn; have HR9 := hide hr; have HO10 := hide ho; clear hr ho hW9; (try dsimp only at hSn))
            refine hK.out _ _ ?_ (fun hHeld7 => ?_)
            · (try dsimp only); first | assumption | exact hSof _ (zbA hHeld6.1 hHeld6.1.size _) | exact hSof _ (zbD (zbR _ _))
            clear hK K hHeld6
            try simp only [Act.put, zl, z0, z1]
            refine tL (v := ?_) 16 rfl (by kernel_rfl) (fun _ _ _ h => hp _ _ _ _ _ h) (Or.inl ⟨by rfl, ?_⟩) (by assumption) ?_; rotate_left
            · (intro w hSw; (try dsimp only at hSw); go_simp; try with_reducible rfl)
            try simp only [Act.put, zl, z0, z1]
            refine wpAnyH_done (by kernel_rfl) ?_ _
            have hBf := hSn.1
            (try dsimp only [Act.put, List.getElem_toArray, List.getElem_cons_succ, List.getElem_cons_zero])
            (try simp only [zl, z0, z1])
            exact hK _ _ _ _ _ _ _ _ _ _ _ _ _  _ _ _ _ HO10 HR9 HGL (hide hBf)
          refine consL 13 rfl (fun K hK => ?_) AllReadyH.nil
          focus
            (go_simp; (first | refine cap_alloc (K := K) (O := (.cells #[.int .i64 0, .int .i64 0] 64 (0, 0))) (fun hG hb hle => ?_) | refine cap_allocD (K := K) (O := (.cells #[.int .i64 0, .int .i64 0] 64 (0, 0))) (fun hG hb hle => ?_)); (try replace HG := hide ((hb.block _ (blk_lt HG.out)).trans HG.out)); (try replace HN1 := hide ((hb.block _ (blk_lt HN1.out)).trans HN1.out)); (try replace HT1 := hide ((hb.block _ (blk_lt HT1.out)).trans HT1.out)); (try replace HO2 := hide (owns_below HO2.out hb)); (try replace HO3 := hide (owns_below HO3.out hb)); (try replace HO9 := hide (owns_below HO9.out hb)); replace hle := Nat.le_trans (show W1.heap.size ≤ _ from hHeld4.1.size) hle; (try simp only [World.size_alloc, drew_size] at hG); (try simp only [World.size_alloc, drew_size] at hle); have HG := hide hG; have HGL := hide hle; clear hG hle hb)
            refine hK.out _ _ ?_ (fun hHeld5 => ?_)
            · (try dsimp only); first | assumption | exact hSof _ (zbA hHeld4.1 hHeld4.1.size _) | exact hSof _ (zbD (zbR _ _))
            clear hK K hHeld4
            try simp only [Act.put, zl, z0, z1]
            refine wpAnyH_ready (rs := [8]) (by kernel_rfl) (by simp) ?_
            refine consL 8 rfl (fun K hK => ?_) AllReadyH.nil
            go_simp
            ((go_at_call 33; refine (run_cnt2 each more l s HCF.out A3 n c3 W1.heap.size _ HN.out HO3.out ((HRL.out.below (show Below W1.heap.size W1 _ from hHeld5.1)).mono (show W1.heap.size ≤ _ from hHeld5.1.size)).ins).mono ?_; rintro e w10 ⟨sv10, c10, rfl, ho10, hb⟩; have hBn := (show Below W1.heap.size W1 _ from hHeld5.1).trans (hb.mono (show W1.heap.size ≤ _ from hHeld5.1.size)); (try replace HG := hide ((hb.block _ (blk_lt HG.out)).trans HG.out)); have HO9 := hide (owns_mono (base' := W1.heap.size) ho10 (show W1.heap.size ≤ _ from hHeld5.1.size)); have hSn := hSof _ hBn; (try dsimp only at hSn); clear ho10 hBn))
            refine hK.out _ _ ?_ (fun hHeld6 => ?_)
            · (try dsimp only); first | assumption | exact hSof _ (zbA hHeld5.1 hHeld5.1.size _) | exact hSof _ (zbD (zbR _ _))
            clear hK K hHeld5
            try simp only [Act.put, zl, z0, z1]
            refine tL (v := ?_) 9 rfl (by kernel_rfl) (fun _ _ _ h => hp _ _ _ _ _ h) (Or.inl ⟨by rfl, ?_⟩) (by assumption) ?_; rotate_left
            · (intro w hSw; (try dsimp only at hSw); go_simp; try with_reducible rfl)
            try simp only [Act.put, zl, z0, z1]
            refine tL (v := ?_) 10 rfl (by kernel_rfl) (fun _ _ _ h => hp _ _ _ _ _ h) (Or.inl ⟨by rfl, ?_⟩) (by assumption) ?_; rotate_left
            · (intro w hSw; (try dsimp only at hSw); go_simp; try with_reducible rfl)
            try simp only [Act.put, zl, z0, z1]
            refine tL (v := ?_) 11 rfl (by kernel_rfl) (fun _ _ _ h => hp _ _ _ _ _ h) (Or.inl ⟨by rfl, ?_⟩) (by assumption) ?_; rotate_left
            · (intro w hSw; (try dsimp only at hSw); go_simp; try with_reducible rfl)
            try simp only [Act.put, zl, z0, z1]
            refine tL (v := ?_) 12 rfl (by kernel_rfl) (fun _ _ _ h => hp _ _ _ _ _ h) (Or.inl ⟨by rfl, ?_⟩) (by assumption) ?_; rotate_left
            · (intro w hSw; (try dsimp only at hSw); go_simp; try with_reducible rfl)
            try simp only [Act.put, zl, z0, z1]
            refine tL (v := ?_) 14 rfl (by kernel_rfl) (fun _ _ _ h => hp _ _ _ _ _ h) (Or.inl ⟨by rfl, ?_⟩) (by assumption) ?_; rotate_left
            · (intro w hSw; (try dsimp only at hSw); go_simp; try with_reducible rfl)
            try simp only [Act.put, zl, z0, z1]
            refine wpAnyH_ready (rs := [15]) (by kernel_rfl) (by simp) ?_
            refine consL 15 rfl (fun K hK => ?_) AllReadyH.nil
            (refine step_row_count rfl 64 (.tmp 17) (.tmp 241) rfl _ _ rfl rfl 64 _ HG.out arrRow rfl (by simp [Value.oneCell']) ?_; have hr := setRow_heap _ _ _ (#[.int .i64 (s.l0 + more), .int .i64 (s.l1 + more)]) _ _ HG.out; have ho := HO9.out.kept (setRow_grown _ _ (#[.int .i64 (s.l0 + more), .int .i64 (s.l1 + more)])) (.inr (row_ne HO9.out HG.out (by decide))); have hSn := hSof _ (below_row (show Below W1.heap.size W1 _ from hHeld6.1) HGL.out (#[.int .i64 (s.l0 + more), .int .i64 (s.l1 + more)])); refine cap_gen (K := K) (fun W9 hW9 => ?_); rw [← hW9] at hr ho hSn; have HR9 := hide hr; have HO10 := hide ho; clear hr ho hW9; (try dsimp only at hSn))
            refine hK.out _ _ ?_ (fun hHeld7 => ?_)
            · (try dsimp only); first | assumption | exact hSof _ (zbA hHeld6.1 hHeld6.1.size _) | exact hSof _ (zbD (zbR _ _))
            clear hK K hHeld6
            try simp only [Act.put, zl, z0, z1]
            refine tL (v := ?_) 16 rfl (by kernel_rfl) (fun _ _ _ h => hp _ _ _ _ _ h) (Or.inl ⟨by rfl, ?_⟩) (by assumption) ?_; rotate_left
            · (intro w hSw; (try dsimp only at hSw); go_simp; try with_reducible rfl)
            try simp only [Act.put, zl, z0, z1]
            refine wpAnyH_done (by kernel_rfl) ?_ _
            have hBf := hSn.1
            (try dsimp only [Act.put, List.getElem_toArray, List.getElem_cons_succ, List.getElem_cons_zero])
            (try simp only [zl, z0, z1])
            exact hK _ _ _ _ _ _ _ _ _ _ _ _ _  _ _ _ _ HO10 HR9 HGL (hide hBf)
        refine consL 13 rfl (fun K hK => ?_) AllReadyH.nil
        focus
          (go_simp; (first | refine cap_alloc (K := K) (O := (.cells #[.int .i64 0, .int .i64 0] 64 (0, 0))) (fun hG hb hle => ?_) | refine cap_allocD (K := K) (O := (.cells #[.int .i64 0, .int .i64 0] 64 (0, 0))) (fun hG hb hle => ?_)); (try replace HG := hide ((hb.block _ (blk_lt HG.out)).trans HG.out)); (try replace HN1 := hide ((hb.block _ (blk_lt HN1.out)).trans HN1.out)); (try replace HT1 := hide ((hb.block _ (blk_lt HT1.out)).trans HT1.out)); (try replace HO2 := hide (owns_below HO2.out hb)); (try replace HO3 := hide (owns_below HO3.out hb)); (try replace HO9 := hide (owns_below HO9.out hb)); replace hle := Nat.le_trans (show W1.heap.size ≤ _ from hHeld3.1.size) hle; (try simp only [World.size_alloc, drew_size] at hG); (try simp only [World.size_alloc, drew_size] at hle); have HG := hide hG; have HGL := hide hle; clear hG hle hb)
          refine hK.out _ _ ?_ (fun hHeld4 => ?_)
          · (try dsimp only); first | assumption | exact hSof _ (zbA hHeld3.1 hHeld3.1.size _) | exact hSof _ (zbD (zbR _ _))
          clear hK K hHeld3
          try simp only [Act.put, zl, z0, z1]
          refine wpAnyH_ready (rs := [7]) (by kernel_rfl) (by simp) ?_
          refine consL 7 rfl (fun K hK => ?_) AllReadyH.nil
          (refine step_app_aps rfl (.tmp 235) (.tmp 237) rfl W1.heap.size _ ([L.apNew] ++ l) (n + 1) rfl HO2.out (some ⟨_, 0, none⟩) 1 1 [L.apTie] rfl rfl (rdA_one HT1.out rfl (apTie_rd _ _) (fun _ => rfl)) (fun e => by cases e) (by omega) (by omega) (show W1.heap.size ≤ _ from hHeld4.1.size) (n + 2) (by omega) ?_; intro A3 c3 w11 hown2 hgrow; have hBn := (show Below W1.heap.size W1 _ from hHeld4.1).trans (grown_below (B := W1.heap.size) hgrow (show W1.heap.size ≤ _ from hHeld4.1.size) (fun g hg => (HO2.out.lt g hg).1)); (try replace HG := hide ((hgrow.block _ (blk_lt HG.out) (Ne.symm (row_ne HO2.out HG.out (by decide)))).trans HG.out)); have HO3 := hide hown2; have hSn := hSof _ hBn; (try dsimp only at hSn); clear hown2 hgrow hBn)
          refine hK.out _ _ ?_ (fun hHeld5 => ?_)
          · (try dsimp only); first | assumption | exact hSof _ (zbA hHeld4.1 hHeld4.1.size _) | exact hSof _ (zbD (zbR _ _))
          clear hK K hHeld4
          try simp only [Act.put, zl, z0, z1]
          refine wpAnyH_ready (rs := [8]) (by kernel_rfl) (by simp) ?_
          refine consL 8 rfl (fun K hK => ?_) AllReadyH.nil
          go_simp
          ((go_at_call 33; refine (run_cnt2 each more l s HCF.out A3 n c3 W1.heap.size _ HN.out HO3.out ((HRL.out.below (show Below W1.heap.size W1 _ from hHeld5.1)).mono (show W1.heap.size ≤ _ from hHeld5.1.size)).ins).mono ?_; rintro e w10 ⟨sv10, c10, rfl, ho10, hb⟩; have hBn := (show Below W1.heap.size W1 _ from hHeld5.1).trans (hb.mono (show W1.heap.size ≤ _ from hHeld5.1.size)); (try replace HG := hide ((hb.block _ (blk_lt HG.out)).trans HG.out)); have HO9 := hide (owns_mono (base' := W1.heap.size) ho10 (show W1.heap.size ≤ _ from hHeld5.1.size)); have hSn := hSof _ hBn; (try dsimp only at hSn); clear ho10 hBn))
          refine hK.out _ _ ?_ (fun hHeld6 => ?_)
          · (try dsimp only); first | assumption | exact hSof _ (zbA hHeld5.1 hHeld5.1.size _) | exact hSof _ (zbD (zbR _ _))
          clear hK K hHeld5
          try simp only [Act.put, zl, z0, z1]
          refine tL (v := ?_) 9 rfl (by kernel_rfl) (fun _ _ _ h => hp _ _ _ _ _ h) (Or.inl ⟨by rfl, ?_⟩) (by assumption) ?_; rotate_left
          · (intro w hSw; (try dsimp only at hSw); go_simp; try with_reducible rfl)
          try simp only [Act.put, zl, z0, z1]
          refine tL (v := ?_) 10 rfl (by kernel_rfl) (fun _ _ _ h => hp _ _ _ _ _ h) (Or.inl ⟨by rfl, ?_⟩) (by assumption) ?_; rotate_left
          · (intro w hSw; (try dsimp only at hSw); go_simp; try with_reducible rfl)
          try simp only [Act.put, zl, z0, z1]
          refine tL (v := ?_) 11 rfl (by kernel_rfl) (fun _ _ _ h => hp _ _ _ _ _ h) (Or.inl ⟨by rfl, ?_⟩) (by assumption) ?_; rotate_left
          · (intro w hSw; (try dsimp only at hSw); go_simp; try with_reducible rfl)
          try simp only [Act.put, zl, z0, z1]
          refine tL (v := ?_) 12 rfl (by kernel_rfl) (fun _ _ _ h => hp _ _ _ _ _ h) (Or.inl ⟨by rfl, ?_⟩) (by assumption) ?_; rotate_left
          · (intro w hSw; (try dsimp only at hSw); go_simp; try with_reducible rfl)
          try simp only [Act.put, zl, z0, z1]
          refine tL (v := ?_) 14 rfl (by kernel_rfl) (fun _ _ _ h => hp _ _ _ _ _ h) (Or.inl ⟨by rfl, ?_⟩) (by assumption) ?_; rotate_left
          · (intro w hSw; (try dsimp only at hSw); go_simp; try with_reducible rfl)
          try simp only [Act.put, zl, z0, z1]
          refine wpAnyH_ready (rs := [15]) (by kernel_rfl) (by simp) ?_
          refine consL 15 rfl (fun K hK => ?_) AllReadyH.nil
          (refine step_row_count rfl 64 (.tmp 17) (.tmp 241) rfl _ _ rfl rfl 64 _ HG.out arrRow rfl (by simp [Value.oneCell']) ?_; have hr := setRow_heap _ _ _ (#[.int .i64 (s.l0 + more), .int .i64 (s.l1 + more)]) _ _ HG.out; have ho := HO9.out.kept (setRow_grown _ _ (#[.int .i64 (s.l0 + more), .int .i64 (s.l1 + more)])) (.inr (row_ne HO9.out HG.out (by decide))); have hSn := hSof _ (below_row (show Below W1.heap.size W1 _ from hHeld6.1) HGL.out (#[.int .i64 (s.l0 + more), .int .i64 (s.l1 + more)])); refine cap_gen (K := K) (fun W9 hW9 => ?_); rw [← hW9] at hr ho hSn; have HR9 := hide hr; have HO10 := hide ho; clear hr ho hW9; (try dsimp only at hSn))
          refine hK.out _ _ ?_ (fun hHeld7 => ?_)
          · (try dsimp only); first | assumption | exact hSof _ (zbA hHeld6.1 hHeld6.1.size _) | exact hSof _ (zbD (zbR _ _))
          clear hK K hHeld6
          try simp only [Act.put, zl, z0, z1]
          refine tL (v := ?_) 16 rfl (by kernel_rfl) (fun _ _ _ h => hp _ _ _ _ _ h) (Or.inl ⟨by rfl, ?_⟩) (by assumption) ?_; rotate_left
          · (intro w hSw; (try dsimp only at hSw); go_simp; try with_reducible rfl)
          try simp only [Act.put, zl, z0, z1]
          refine wpAnyH_done (by kernel_rfl) ?_ _
          have hBf := hSn.1
          (try dsimp only [Act.put, List.getElem_toArray, List.getElem_cons_succ, List.getElem_cons_zero])
          (try simp only [zl, z0, z1])
          exact hK _ _ _ _ _ _ _ _ _ _ _ _ _  _ _ _ _ HO10 HR9 HGL (hide hBf)
      refine consL 13 rfl (fun K hK => ?_) AllReadyH.nil
      focus
        (go_simp; (first | refine cap_alloc (K := K) (O := (.cells #[.int .i64 0, .int .i64 0] 64 (0, 0))) (fun hG hb hle => ?_) | refine cap_allocD (K := K) (O := (.cells #[.int .i64 0, .int .i64 0] 64 (0, 0))) (fun hG hb hle => ?_)); (try replace HG := hide ((hb.block _ (blk_lt HG.out)).trans HG.out)); (try replace HN1 := hide ((hb.block _ (blk_lt HN1.out)).trans HN1.out)); (try replace HT1 := hide ((hb.block _ (blk_lt HT1.out)).trans HT1.out)); (try replace HO2 := hide (owns_below HO2.out hb)); (try replace HO3 := hide (owns_below HO3.out hb)); (try replace HO9 := hide (owns_below HO9.out hb)); replace hle := Nat.le_trans (show W1.heap.size ≤ _ from hHeld2.1.size) hle; (try simp only [World.size_alloc, drew_size] at hG); (try simp only [World.size_alloc, drew_size] at hle); have HG := hide hG; have HGL := hide hle; clear hG hle hb)
        refine hK.out _ _ ?_ (fun hHeld3 => ?_)
        · (try dsimp only); first | assumption | exact hSof _ (zbA hHeld2.1 hHeld2.1.size _) | exact hSof _ (zbD (zbR _ _))
        clear hK K hHeld2
        try simp only [Act.put, zl, z0, z1]
        refine wpAnyH_ready (rs := [4]) (by kernel_rfl) (by simp) ?_
        refine consL 4 rfl (fun K hK => ?_) AllReadyH.nil
        (refine step_app_aps rfl (.tmp 233) (.tmp 234) rfl W1.heap.size _ [L.apNew] 1 rfl (own_new HN1.out HN1L.out) A n c l rfl HN.out ((HRL.out.below (show Below W1.heap.size W1 _ from hHeld3.1)).mono (show W1.heap.size ≤ _ from hHeld3.1.size)) HA.out (by omega) (by omega) (show W1.heap.size ≤ _ from hHeld3.1.size) (n + 1) (by omega) ?_; intro A2 c2 w9 hown2 hgrow; have hBn := (show Below W1.heap.size W1 _ from hHeld3.1).trans (grown_below (B := W1.heap.size) hgrow (show W1.heap.size ≤ _ from hHeld3.1.size) (fun g hg => by have h := Option.some.inj hg; subst h; exact HN1L.out)); (try replace HG := hide ((hgrow.block _ (blk_lt HG.out) (Ne.symm (row_ne (own_new HN1.out HN1L.out) HG.out (by decide)))).trans HG.out)); (try replace HT1 := hide ((hgrow.block _ (blk_lt HT1.out) (fun e => by have h := Option.some.inj e; (try dsimp only at h); first | omega | (simp at h; done) | (simp at h; omega))).trans HT1.out)); have HO2 := hide hown2; have hSn := hSof _ hBn; (try dsimp only at hSn); clear hown2 hgrow hBn)
        refine hK.out _ _ ?_ (fun hHeld4 => ?_)
        · (try dsimp only); first | assumption | exact hSof _ (zbA hHeld3.1 hHeld3.1.size _) | exact hSof _ (zbD (zbR _ _))
        clear hK K hHeld3
        try simp only [Act.put, zl, z0, z1]
        refine wpAnyH_ready (rs := [7]) (by kernel_rfl) (by simp) ?_
        refine consL 7 rfl (fun K hK => ?_) AllReadyH.nil
        (refine step_app_aps rfl (.tmp 235) (.tmp 237) rfl W1.heap.size _ ([L.apNew] ++ l) (n + 1) rfl HO2.out (some ⟨_, 0, none⟩) 1 1 [L.apTie] rfl rfl (rdA_one HT1.out rfl (apTie_rd _ _) (fun _ => rfl)) (fun e => by cases e) (by omega) (by omega) (show W1.heap.size ≤ _ from hHeld4.1.size) (n + 2) (by omega) ?_; intro A3 c3 w11 hown2 hgrow; have hBn := (show Below W1.heap.size W1 _ from hHeld4.1).trans (grown_below (B := W1.heap.size) hgrow (show W1.heap.size ≤ _ from hHeld4.1.size) (fun g hg => (HO2.out.lt g hg).1)); (try replace HG := hide ((hgrow.block _ (blk_lt HG.out) (Ne.symm (row_ne HO2.out HG.out (by decide)))).trans HG.out)); have HO3 := hide hown2; have hSn := hSof _ hBn; (try dsimp only at hSn); clear hown2 hgrow hBn)
        refine hK.out _ _ ?_ (fun hHeld5 => ?_)
        · (try dsimp only); first | assumption | exact hSof _ (zbA hHeld4.1 hHeld4.1.size _) | exact hSof _ (zbD (zbR _ _))
        clear hK K hHeld4
        try simp only [Act.put, zl, z0, z1]
        refine wpAnyH_ready (rs := [8]) (by kernel_rfl) (by simp) ?_
        refine consL 8 rfl (fun K hK => ?_) AllReadyH.nil
        go_simp
        ((go_at_call 33; refine (run_cnt2 each more l s HCF.out A3 n c3 W1.heap.size _ HN.out HO3.out ((HRL.out.below (show Below W1.heap.size W1 _ from hHeld5.1)).mono (show W1.heap.size ≤ _ from hHeld5.1.size)).ins).mono ?_; rintro e w10 ⟨sv10, c10, rfl, ho10, hb⟩; have hBn := (show Below W1.heap.size W1 _ from hHeld5.1).trans (hb.mono (show W1.heap.size ≤ _ from hHeld5.1.size)); (try replace HG := hide ((hb.block _ (blk_lt HG.out)).trans HG.out)); have HO9 := hide (owns_mono (base' := W1.heap.size) ho10 (show W1.heap.size ≤ _ from hHeld5.1.size)); have hSn := hSof _ hBn; (try dsimp only at hSn); clear ho10 hBn))
        refine hK.out _ _ ?_ (fun hHeld6 => ?_)
        · (try dsimp only); first | assumption | exact hSof _ (zbA hHeld5.1 hHeld5.1.size _) | exact hSof _ (zbD (zbR _ _))
        clear hK K hHeld5
        try simp only [Act.put, zl, z0, z1]
        refine tL (v := ?_) 9 rfl (by kernel_rfl) (fun _ _ _ h => hp _ _ _ _ _ h) (Or.inl ⟨by rfl, ?_⟩) (by assumption) ?_; rotate_left
        · (intro w hSw; (try dsimp only at hSw); go_simp; try with_reducible rfl)
        try simp only [Act.put, zl, z0, z1]
        refine tL (v := ?_) 10 rfl (by kernel_rfl) (fun _ _ _ h => hp _ _ _ _ _ h) (Or.inl ⟨by rfl, ?_⟩) (by assumption) ?_; rotate_left
        · (intro w hSw; (try dsimp only at hSw); go_simp; try with_reducible rfl)
        try simp only [Act.put, zl, z0, z1]
        refine tL (v := ?_) 11 rfl (by kernel_rfl) (fun _ _ _ h => hp _ _ _ _ _ h) (Or.inl ⟨by rfl, ?_⟩) (by assumption) ?_; rotate_left
        · (intro w hSw; (try dsimp only at hSw); go_simp; try with_reducible rfl)
        try simp only [Act.put, zl, z0, z1]
        refine tL (v := ?_) 12 rfl (by kernel_rfl) (fun _ _ _ h => hp _ _ _ _ _ h) (Or.inl ⟨by rfl, ?_⟩) (by assumption) ?_; rotate_left
        · (intro w hSw; (try dsimp only at hSw); go_simp; try with_reducible rfl)
        try simp only [Act.put, zl, z0, z1]
        refine tL (v := ?_) 14 rfl (by kernel_rfl) (fun _ _ _ h => hp _ _ _ _ _ h) (Or.inl ⟨by rfl, ?_⟩) (by assumption) ?_; rotate_left
        · (intro w hSw; (try dsimp only at hSw); go_simp; try with_reducible rfl)
        try simp only [Act.put, zl, z0, z1]
        refine wpAnyH_ready (rs := [15]) (by kernel_rfl) (by simp) ?_
        refine consL 15 rfl (fun K hK => ?_) AllReadyH.nil
        (refine step_row_count rfl 64 (.tmp 17) (.tmp 241) rfl _ _ rfl rfl 64 _ HG.out arrRow rfl (by simp [Value.oneCell']) ?_; have hr := setRow_heap _ _ _ (#[.int .i64 (s.l0 + more), .int .i64 (s.l1 + more)]) _ _ HG.out; have ho := HO9.out.kept (setRow_grown _ _ (#[.int .i64 (s.l0 + more), .int .i64 (s.l1 + more)])) (.inr (row_ne HO9.out HG.out (by decide))); have hSn := hSof _ (below_row (show Below W1.heap.size W1 _ from hHeld6.1) HGL.out (#[.int .i64 (s.l0 + more), .int .i64 (s.l1 + more)])); refine cap_gen (K := K) (fun W9 hW9 => ?_); rw [← hW9] at hr ho hSn; have HR9 := hide hr; have HO10 := hide ho; clear hr ho hW9; (try dsimp only at hSn))
        refine hK.out _ _ ?_ (fun hHeld7 => ?_)
        · (try dsimp only); first | assumption | exact hSof _ (zbA hHeld6.1 hHeld6.1.size _) | exact hSof _ (zbD (zbR _ _))
        clear hK K hHeld6
        try simp only [Act.put, zl, z0, z1]
        refine tL (v := ?_) 16 rfl (by kernel_rfl) (fun _ _ _ h => hp _ _ _ _ _ h) (Or.inl ⟨by rfl, ?_⟩) (by assumption) ?_; rotate_left
        · (intro w hSw; (try dsimp only at hSw); go_simp; try with_reducible rfl)
        try simp only [Act.put, zl, z0, z1]
        refine wpAnyH_done (by kernel_rfl) ?_ _
        have hBf := hSn.1
        (try dsimp only [Act.put, List.getElem_toArray, List.getElem_cons_succ, List.getElem_cons_zero])
        (try simp only [zl, z0, z1])
        exact hK _ _ _ _ _ _ _ _ _ _ _ _ _  _ _ _ _ HO10 HR9 HGL (hide hBf)
    refine consL 13 rfl (fun K hK => ?_) AllReadyH.nil
    focus
      (go_simp; (first | refine cap_alloc (K := K) (O := (.cells #[.int .i64 0, .int .i64 0] 64 (0, 0))) (fun hG hb hle => ?_) | refine cap_allocD (K := K) (O := (.cells #[.int .i64 0, .int .i64 0] 64 (0, 0))) (fun hG hb hle => ?_)); (try replace HG := hide ((hb.block _ (blk_lt HG.out)).trans HG.out)); (try replace HN1 := hide ((hb.block _ (blk_lt HN1.out)).trans HN1.out)); (try replace HT1 := hide ((hb.block _ (blk_lt HT1.out)).trans HT1.out)); (try replace HO2 := hide (owns_below HO2.out hb)); (try replace HO3 := hide (owns_below HO3.out hb)); (try replace HO9 := hide (owns_below HO9.out hb)); replace hle := Nat.le_trans (show W1.heap.size ≤ _ from hHeld1.1.size) hle; (try simp only [World.size_alloc, drew_size] at hG); (try simp only [World.size_alloc, drew_size] at hle); have HG := hide hG; have HGL := hide hle; clear hG hle hb)
      refine hK.out _ _ ?_ (fun hHeld2 => ?_)
      · (try dsimp only); first | assumption | exact hSof _ (zbA hHeld1.1 hHeld1.1.size _) | exact hSof _ (zbD (zbR _ _))
      clear hK K hHeld1
      try simp only [Act.put, zl, z0, z1]
      refine wpAnyH_ready (rs := [4, 6]) (by kernel_rfl) (by simp) ?_
      refine consL 4 rfl (fun K hK => ?_) ?_
      · skip
        (refine step_app_aps rfl (.tmp 233) (.tmp 234) rfl W1.heap.size _ [L.apNew] 1 rfl (own_new HN1.out HN1L.out) A n c l rfl HN.out ((HRL.out.below (show Below W1.heap.size W1 _ from hHeld2.1)).mono (show W1.heap.size ≤ _ from hHeld2.1.size)) HA.out (by omega) (by omega) (show W1.heap.size ≤ _ from hHeld2.1.size) (n + 1) (by omega) ?_; intro A2 c2 w9 hown2 hgrow; have hBn := (show Below W1.heap.size W1 _ from hHeld2.1).trans (grown_below (B := W1.heap.size) hgrow (show W1.heap.size ≤ _ from hHeld2.1.size) (fun g hg => by have h := Option.some.inj hg; subst h; exact HN1L.out)); (try replace HG := hide ((hgrow.block _ (blk_lt HG.out) (Ne.symm (row_ne (own_new HN1.out HN1L.out) HG.out (by decide)))).trans HG.out)); (try replace HT1 := hide ((hgrow.block _ (blk_lt HT1.out) (fun e => by have h := Option.some.inj e; (try dsimp only at h); first | omega | (simp at h; done) | (simp at h; omega))).trans HT1.out)); have HO2 := hide hown2; have hSn := hSof _ hBn; (try dsimp only at hSn); clear hown2 hgrow hBn)
        refine hK.out _ _ ?_ (fun hHeld3 => ?_)
        · (try dsimp only); first | assumption | exact hSof _ (zbA hHeld2.1 hHeld2.1.size _) | exact hSof _ (zbD (zbR _ _))
        clear hK K hHeld2
        try simp only [Act.put, zl, z0, z1]
        refine wpAnyH_ready (rs := [6]) (by kernel_rfl) (by simp) ?_
        refine consL 6 rfl (fun K hK => ?_) AllReadyH.nil
        (go_simp; (first | refine cap_alloc (K := K) (O := (.cells #[.int .i64 2, .int .i64 0, .int .i64 0, .int .i64 0, .slice none 0 0, .int .i64 0, .int .i64 0, .int .i64 0, .int .i64 0, .int .i64 0, .int .i64 0, .int .i64 0, .int .i64 0, .int .i64 0] 66 (0, 0))) (fun hG hb hle => ?_) | refine cap_allocD (K := K) (O := (.cells #[.int .i64 2, .int .i64 0, .int .i64 0, .int .i64 0, .slice none 0 0, .int .i64 0, .int .i64 0, .int .i64 0, .int .i64 0, .int .i64 0, .int .i64 0, .int .i64 0, .int .i64 0, .int .i64 0] 66 (0, 0))) (fun hG hb hle => ?_)); (try replace HG := hide ((hb.block _ (blk_lt HG.out)).trans HG.out)); (try replace HN1 := hide ((hb.block _ (blk_lt HN1.out)).trans HN1.out)); (try replace HT1 := hide ((hb.block _ (blk_lt HT1.out)).trans HT1.out)); (try replace HO2 := hide (owns_below HO2.out hb)); (try replace HO3 := hide (owns_below HO3.out hb)); (try replace HO9 := hide (owns_below HO9.out hb)); replace hle := Nat.le_trans (show W1.heap.size ≤ _ from hHeld3.1.size) hle; (try simp only [World.size_alloc, drew_size] at hG); (try simp only [World.size_alloc, drew_size] at hle); have HT1 := hide hG; have HT1L := hide hle; clear hG hle hb)
        refine hK.out _ _ ?_ (fun hHeld4 => ?_)
        · (try dsimp only); first | assumption | exact hSof _ (zbA hHeld3.1 hHeld3.1.size _) | exact hSof _ (zbD (zbR _ _))
        clear hK K hHeld3
        try simp only [Act.put, zl, z0, z1]
        refine wpAnyH_ready (rs := [7]) (by kernel_rfl) (by simp) ?_
        refine consL 7 rfl (fun K hK => ?_) AllReadyH.nil
        (refine step_app_aps rfl (.tmp 235) (.tmp 237) rfl W1.heap.size _ ([L.apNew] ++ l) (n + 1) rfl HO2.out (some ⟨_, 0, none⟩) 1 1 [L.apTie] rfl rfl (rdA_one HT1.out rfl (apTie_rd _ _) (fun _ => rfl)) (fun e => by cases e) (by omega) (by omega) (show W1.heap.size ≤ _ from hHeld4.1.size) (n + 2) (by omega) ?_; intro A3 c3 w11 hown2 hgrow; have hBn := (show Below W1.heap.size W1 _ from hHeld4.1).trans (grown_below (B := W1.heap.size) hgrow (show W1.heap.size ≤ _ from hHeld4.1.size) (fun g hg => (HO2.out.lt g hg).1)); (try replace HG := hide ((hgrow.block _ (blk_lt HG.out) (Ne.symm (row_ne HO2.out HG.out (by decide)))).trans HG.out)); have HO3 := hide hown2; have hSn := hSof _ hBn; (try dsimp only at hSn); clear hown2 hgrow hBn)
        refine hK.out _ _ ?_ (fun hHeld5 => ?_)
        · (try dsimp only); first | assumption | exact hSof _ (zbA hHeld4.1 hHeld4.1.size _) | exact hSof _ (zbD (zbR _ _))
        clear hK K hHeld4
        try simp only [Act.put, zl, z0, z1]
        refine wpAnyH_ready (rs := [8]) (by kernel_rfl) (by simp) ?_
        refine consL 8 rfl (fun K hK => ?_) AllReadyH.nil
        go_simp
        ((go_at_call 33; refine (run_cnt2 each more l s HCF.out A3 n c3 W1.heap.size _ HN.out HO3.out ((HRL.out.below (show Below W1.heap.size W1 _ from hHeld5.1)).mono (show W1.heap.size ≤ _ from hHeld5.1.size)).ins).mono ?_; rintro e w10 ⟨sv10, c10, rfl, ho10, hb⟩; have hBn := (show Below W1.heap.size W1 _ from hHeld5.1).trans (hb.mono (show W1.heap.size ≤ _ from hHeld5.1.size)); (try replace HG := hide ((hb.block _ (blk_lt HG.out)).trans HG.out)); have HO9 := hide (owns_mono (base' := W1.heap.size) ho10 (show W1.heap.size ≤ _ from hHeld5.1.size)); have hSn := hSof _ hBn; (try dsimp only at hSn); clear ho10 hBn))
        refine hK.out _ _ ?_ (fun hHeld6 => ?_)
        · (try dsimp only); first | assumption | exact hSof _ (zbA hHeld5.1 hHeld5.1.size _) | exact hSof _ (zbD (zbR _ _))
        clear hK K hHeld5
        try simp only [Act.put, zl, z0, z1]
        refine tL (v := ?_) 9 rfl (by kernel_rfl) (fun _ _ _ h => hp _ _ _ _ _ h) (Or.inl ⟨by rfl, ?_⟩) (by assumption) ?_; rotate_left
        · (intro w hSw; (try dsimp only at hSw); go_simp; try with_reducible rfl)
        try simp only [Act.put, zl, z0, z1]
        refine tL (v := ?_) 10 rfl (by kernel_rfl) (fun _ _ _ h => hp _ _ _ _ _ h) (Or.inl ⟨by rfl, ?_⟩) (by assumption) ?_; rotate_left
        · (intro w hSw; (try dsimp only at hSw); go_simp; try with_reducible rfl)
        try simp only [Act.put, zl, z0, z1]
        refine tL (v := ?_) 11 rfl (by kernel_rfl) (fun _ _ _ h => hp _ _ _ _ _ h) (Or.inl ⟨by rfl, ?_⟩) (by assumption) ?_; rotate_left
        · (intro w hSw; (try dsimp only at hSw); go_simp; try with_reducible rfl)
        try simp only [Act.put, zl, z0, z1]
        refine tL (v := ?_) 12 rfl (by kernel_rfl) (fun _ _ _ h => hp _ _ _ _ _ h) (Or.inl ⟨by rfl, ?_⟩) (by assumption) ?_; rotate_left
        · (intro w hSw; (try dsimp only at hSw); go_simp; try with_reducible rfl)
        try simp only [Act.put, zl, z0, z1]
        refine tL (v := ?_) 14 rfl (by kernel_rfl) (fun _ _ _ h => hp _ _ _ _ _ h) (Or.inl ⟨by rfl, ?_⟩) (by assumption) ?_; rotate_left
        · (intro w hSw; (try dsimp only at hSw); go_simp; try with_reducible rfl)
        try simp only [Act.put, zl, z0, z1]
        refine wpAnyH_ready (rs := [15]) (by kernel_rfl) (by simp) ?_
        refine consL 15 rfl (fun K hK => ?_) AllReadyH.nil
        (refine step_row_count rfl 64 (.tmp 17) (.tmp 241) rfl _ _ rfl rfl 64 _ HG.out arrRow rfl (by simp [Value.oneCell']) ?_; have hr := setRow_heap _ _ _ (#[.int .i64 (s.l0 + more), .int .i64 (s.l1 + more)]) _ _ HG.out; have ho := HO9.out.kept (setRow_grown _ _ (#[.int .i64 (s.l0 + more), .int .i64 (s.l1 + more)])) (.inr (row_ne HO9.out HG.out (by decide))); have hSn := hSof _ (below_row (show Below W1.heap.size W1 _ from hHeld6.1) HGL.out (#[.int .i64 (s.l0 + more), .int .i64 (s.l1 + more)])); refine cap_gen (K := K) (fun W9 hW9 => ?_); rw [← hW9] at hr ho hSn; have HR9 := hide hr; have HO10 := hide ho; clear hr ho hW9; (try dsimp only at hSn))
        refine hK.out _ _ ?_ (fun hHeld7 => ?_)
        · (try dsimp only); first | assumption | exact hSof _ (zbA hHeld6.1 hHeld6.1.size _) | exact hSof _ (zbD (zbR _ _))
        clear hK K hHeld6
        try simp only [Act.put, zl, z0, z1]
        refine tL (v := ?_) 16 rfl (by kernel_rfl) (fun _ _ _ h => hp _ _ _ _ _ h) (Or.inl ⟨by rfl, ?_⟩) (by assumption) ?_; rotate_left
        · (intro w hSw; (try dsimp only at hSw); go_simp; try with_reducible rfl)
        try simp only [Act.put, zl, z0, z1]
        refine wpAnyH_done (by kernel_rfl) ?_ _
        have hBf := hSn.1
        (try dsimp only [Act.put, List.getElem_toArray, List.getElem_cons_succ, List.getElem_cons_zero])
        (try simp only [zl, z0, z1])
        exact hK _ _ _ _ _ _ _ _ _ _ _ _ _  _ _ _ _ HO10 HR9 HGL (hide hBf)
      refine consL 6 rfl (fun K hK => ?_) AllReadyH.nil
      focus
        (go_simp; (first | refine cap_alloc (K := K) (O := (.cells #[.int .i64 2, .int .i64 0, .int .i64 0, .int .i64 0, .slice none 0 0, .int .i64 0, .int .i64 0, .int .i64 0, .int .i64 0, .int .i64 0, .int .i64 0, .int .i64 0, .int .i64 0, .int .i64 0] 66 (0, 0))) (fun hG hb hle => ?_) | refine cap_allocD (K := K) (O := (.cells #[.int .i64 2, .int .i64 0, .int .i64 0, .int .i64 0, .slice none 0 0, .int .i64 0, .int .i64 0, .int .i64 0, .int .i64 0, .int .i64 0, .int .i64 0, .int .i64 0, .int .i64 0, .int .i64 0] 66 (0, 0))) (fun hG hb hle => ?_)); (try replace HG := hide ((hb.block _ (blk_lt HG.out)).trans HG.out)); (try replace HN1 := hide ((hb.block _ (blk_lt HN1.out)).trans HN1.out)); (try replace HT1 := hide ((hb.block _ (blk_lt HT1.out)).trans HT1.out)); (try replace HO2 := hide (owns_below HO2.out hb)); (try replace HO3 := hide (owns_below HO3.out hb)); (try replace HO9 := hide (owns_below HO9.out hb)); replace hle := Nat.le_trans (show W1.heap.size ≤ _ from hHeld2.1.size) hle; (try simp only [World.size_alloc, drew_size] at hG); (try simp only [World.size_alloc, drew_size] at hle); have HT1 := hide hG; have HT1L := hide hle; clear hG hle hb)
        refine hK.out _ _ ?_ (fun hHeld3 => ?_)
        · (try dsimp only); first | assumption | exact hSof _ (zbA hHeld2.1 hHeld2.1.size _) | exact hSof _ (zbD (zbR _ _))
        clear hK K hHeld2
        try simp only [Act.put, zl, z0, z1]
        refine wpAnyH_ready (rs := [4]) (by kernel_rfl) (by simp) ?_
        refine consL 4 rfl (fun K hK => ?_) AllReadyH.nil
        (refine step_app_aps rfl (.tmp 233) (.tmp 234) rfl W1.heap.size _ [L.apNew] 1 rfl (own_new HN1.out HN1L.out) A n c l rfl HN.out ((HRL.out.below (show Below W1.heap.size W1 _ from hHeld3.1)).mono (show W1.heap.size ≤ _ from hHeld3.1.size)) HA.out (by omega) (by omega) (show W1.heap.size ≤ _ from hHeld3.1.size) (n + 1) (by omega) ?_; intro A2 c2 w9 hown2 hgrow; have hBn := (show Below W1.heap.size W1 _ from hHeld3.1).trans (grown_below (B := W1.heap.size) hgrow (show W1.heap.size ≤ _ from hHeld3.1.size) (fun g hg => by have h := Option.some.inj hg; subst h; exact HN1L.out)); (try replace HG := hide ((hgrow.block _ (blk_lt HG.out) (Ne.symm (row_ne (own_new HN1.out HN1L.out) HG.out (by decide)))).trans HG.out)); (try replace HT1 := hide ((hgrow.block _ (blk_lt HT1.out) (fun e => by have h := Option.some.inj e; (try dsimp only at h); first | omega | (simp at h; done) | (simp at h; omega))).trans HT1.out)); have HO2 := hide hown2; have hSn := hSof _ hBn; (try dsimp only at hSn); clear hown2 hgrow hBn)
        refine hK.out _ _ ?_ (fun hHeld4 => ?_)
        · (try dsimp only); first | assumption | exact hSof _ (zbA hHeld3.1 hHeld3.1.size _) | exact hSof _ (zbD (zbR _ _))
        clear hK K hHeld3
        try simp only [Act.put, zl, z0, z1]
        refine wpAnyH_ready (rs := [7]) (by kernel_rfl) (by simp) ?_
        refine consL 7 rfl (fun K hK => ?_) AllReadyH.nil
        (refine step_app_aps rfl (.tmp 235) (.tmp 237) rfl W1.heap.size _ ([L.apNew] ++ l) (n + 1) rfl HO2.out (some ⟨_, 0, none⟩) 1 1 [L.apTie] rfl rfl (rdA_one HT1.out rfl (apTie_rd _ _) (fun _ => rfl)) (fun e => by cases e) (by omega) (by omega) (show W1.heap.size ≤ _ from hHeld4.1.size) (n + 2) (by omega) ?_; intro A3 c3 w11 hown2 hgrow; have hBn := (show Below W1.heap.size W1 _ from hHeld4.1).trans (grown_below (B := W1.heap.size) hgrow (show W1.heap.size ≤ _ from hHeld4.1.size) (fun g hg => (HO2.out.lt g hg).1)); (try replace HG := hide ((hgrow.block _ (blk_lt HG.out) (Ne.symm (row_ne HO2.out HG.out (by decide)))).trans HG.out)); have HO3 := hide hown2; have hSn := hSof _ hBn; (try dsimp only at hSn); clear hown2 hgrow hBn)
        refine hK.out _ _ ?_ (fun hHeld5 => ?_)
        · (try dsimp only); first | assumption | exact hSof _ (zbA hHeld4.1 hHeld4.1.size _) | exact hSof _ (zbD (zbR _ _))
        clear hK K hHeld4
        try simp only [Act.put, zl, z0, z1]
        refine wpAnyH_ready (rs := [8]) (by kernel_rfl) (by simp) ?_
        refine consL 8 rfl (fun K hK => ?_) AllReadyH.nil
        go_simp
        ((go_at_call 33; refine (run_cnt2 each more l s HCF.out A3 n c3 W1.heap.size _ HN.out HO3.out ((HRL.out.below (show Below W1.heap.size W1 _ from hHeld5.1)).mono (show W1.heap.size ≤ _ from hHeld5.1.size)).ins).mono ?_; rintro e w10 ⟨sv10, c10, rfl, ho10, hb⟩; have hBn := (show Below W1.heap.size W1 _ from hHeld5.1).trans (hb.mono (show W1.heap.size ≤ _ from hHeld5.1.size)); (try replace HG := hide ((hb.block _ (blk_lt HG.out)).trans HG.out)); have HO9 := hide (owns_mono (base' := W1.heap.size) ho10 (show W1.heap.size ≤ _ from hHeld5.1.size)); have hSn := hSof _ hBn; (try dsimp only at hSn); clear ho10 hBn))
        refine hK.out _ _ ?_ (fun hHeld6 => ?_)
        · (try dsimp only); first | assumption | exact hSof _ (zbA hHeld5.1 hHeld5.1.size _) | exact hSof _ (zbD (zbR _ _))
        clear hK K hHeld5
        try simp only [Act.put, zl, z0, z1]
        refine tL (v := ?_) 9 rfl (by kernel_rfl) (fun _ _ _ h => hp _ _ _ _ _ h) (Or.inl ⟨by rfl, ?_⟩) (by assumption) ?_; rotate_left
        · (intro w hSw; (try dsimp only at hSw); go_simp; try with_reducible rfl)
        try simp only [Act.put, zl, z0, z1]
        refine tL (v := ?_) 10 rfl (by kernel_rfl) (fun _ _ _ h => hp _ _ _ _ _ h) (Or.inl ⟨by rfl, ?_⟩) (by assumption) ?_; rotate_left
        · (intro w hSw; (try dsimp only at hSw); go_simp; try with_reducible rfl)
        try simp only [Act.put, zl, z0, z1]
        refine tL (v := ?_) 11 rfl (by kernel_rfl) (fun _ _ _ h => hp _ _ _ _ _ h) (Or.inl ⟨by rfl, ?_⟩) (by assumption) ?_; rotate_left
        · (intro w hSw; (try dsimp only at hSw); go_simp; try with_reducible rfl)
        try simp only [Act.put, zl, z0, z1]
        refine tL (v := ?_) 12 rfl (by kernel_rfl) (fun _ _ _ h => hp _ _ _ _ _ h) (Or.inl ⟨by rfl, ?_⟩) (by assumption) ?_; rotate_left
        · (intro w hSw; (try dsimp only at hSw); go_simp; try with_reducible rfl)
        try simp only [Act.put, zl, z0, z1]
        refine tL (v := ?_) 14 rfl (by kernel_rfl) (fun _ _ _ h => hp _ _ _ _ _ h) (Or.inl ⟨by rfl, ?_⟩) (by assumption) ?_; rotate_left
        · (intro w hSw; (try dsimp only at hSw); go_simp; try with_reducible rfl)
        try simp only [Act.put, zl, z0, z1]
        refine wpAnyH_ready (rs := [15]) (by kernel_rfl) (by simp) ?_
        refine consL 15 rfl (fun K hK => ?_) AllReadyH.nil
        (refine step_row_count rfl 64 (.tmp 17) (.tmp 241) rfl _ _ rfl rfl 64 _ HG.out arrRow rfl (by simp [Value.oneCell']) ?_; have hr := setRow_heap _ _ _ (#[.int .i64 (s.l0 + more), .int .i64 (s.l1 + more)]) _ _ HG.out; have ho := HO9.out.kept (setRow_grown _ _ (#[.int .i64 (s.l0 + more), .int .i64 (s.l1 + more)])) (.inr (row_ne HO9.out HG.out (by decide))); have hSn := hSof _ (below_row (show Below W1.heap.size W1 _ from hHeld6.1) HGL.out (#[.int .i64 (s.l0 + more), .int .i64 (s.l1 + more)])); refine cap_gen (K := K) (fun W9 hW9 => ?_); rw [← hW9] at hr ho hSn; have HR9 := hide hr; have HO10 := hide ho; clear hr ho hW9; (try dsimp only at hSn))
        refine hK.out _ _ ?_ (fun hHeld7 => ?_)
        · (try dsimp only); first | assumption | exact hSof _ (zbA hHeld6.1 hHeld6.1.size _) | exact hSof _ (zbD (zbR _ _))
        clear hK K hHeld6
        try simp only [Act.put, zl, z0, z1]
        refine tL (v := ?_) 16 rfl (by kernel_rfl) (fun _ _ _ h => hp _ _ _ _ _ h) (Or.inl ⟨by rfl, ?_⟩) (by assumption) ?_; rotate_left
        · (intro w hSw; (try dsimp only at hSw); go_simp; try with_reducible rfl)
        try simp only [Act.put, zl, z0, z1]
        refine wpAnyH_done (by kernel_rfl) ?_ _
        have hBf := hSn.1
        (try dsimp only [Act.put, List.getElem_toArray, List.getElem_cons_succ, List.getElem_cons_zero])
        (try simp only [zl, z0, z1])
        exact hK _ _ _ _ _ _ _ _ _ _ _ _ _  _ _ _ _ HO10 HR9 HGL (hide hBf)
  refine consL 6 rfl (fun K hK => ?_) ?_
  · skip
    (go_simp; (first | refine cap_alloc (K := K) (O := (.cells #[.int .i64 2, .int .i64 0, .int .i64 0, .int .i64 0, .slice none 0 0, .int .i64 0, .int .i64 0, .int .i64 0, .int .i64 0, .int .i64 0, .int .i64 0, .int .i64 0, .int .i64 0, .int .i64 0] 66 (0, 0))) (fun hG hb hle => ?_) | refine cap_allocD (K := K) (O := (.cells #[.int .i64 2, .int .i64 0, .int .i64 0, .int .i64 0, .slice none 0 0, .int .i64 0, .int .i64 0, .int .i64 0, .int .i64 0, .int .i64 0, .int .i64 0, .int .i64 0, .int .i64 0, .int .i64 0] 66 (0, 0))) (fun hG hb hle => ?_)); (try replace HG := hide ((hb.block _ (blk_lt HG.out)).trans HG.out)); (try replace HN1 := hide ((hb.block _ (blk_lt HN1.out)).trans HN1.out)); (try replace HT1 := hide ((hb.block _ (blk_lt HT1.out)).trans HT1.out)); (try replace HO2 := hide (owns_below HO2.out hb)); (try replace HO3 := hide (owns_below HO3.out hb)); (try replace HO9 := hide (owns_below HO9.out hb)); replace hle := Nat.le_trans (show W1.heap.size ≤ _ from hHeld0.1.size) hle; (try simp only [World.size_alloc, drew_size] at hG); (try simp only [World.size_alloc, drew_size] at hle); have HT1 := hide hG; have HT1L := hide hle; clear hG hle hb)
    refine hK.out _ _ ?_ (fun hHeld1 => ?_)
    · (try dsimp only); first | assumption | exact hSof _ (zbA hHeld0.1 hHeld0.1.size _) | exact hSof _ (zbD (zbR _ _))
    clear hK K hHeld0
    try simp only [Act.put, zl, z0, z1]
    refine wpAnyH_ready (rs := [2, 13]) (by kernel_rfl) (by simp) ?_
    refine consL 2 rfl (fun K hK => ?_) ?_
    · skip
      (go_simp; (first | refine cap_alloc (K := K) (O := (.cells #[.int .i64 1, .int .i64 0, .int .i64 0, .int .i64 0, .slice none 0 0, .int .i64 0, .int .i64 0, .int .i64 0, .int .i64 0, .int .i64 0, .int .i64 0, .int .i64 0, .int .i64 0, .int .i64 0] 66 (0, 0))) (fun hG hb hle => ?_) | refine cap_allocD (K := K) (O := (.cells #[.int .i64 1, .int .i64 0, .int .i64 0, .int .i64 0, .slice none 0 0, .int .i64 0, .int .i64 0, .int .i64 0, .int .i64 0, .int .i64 0, .int .i64 0, .int .i64 0, .int .i64 0, .int .i64 0] 66 (0, 0))) (fun hG hb hle => ?_)); (try replace HG := hide ((hb.block _ (blk_lt HG.out)).trans HG.out)); (try replace HN1 := hide ((hb.block _ (blk_lt HN1.out)).trans HN1.out)); (try replace HT1 := hide ((hb.block _ (blk_lt HT1.out)).trans HT1.out)); (try replace HO2 := hide (owns_below HO2.out hb)); (try replace HO3 := hide (owns_below HO3.out hb)); (try replace HO9 := hide (owns_below HO9.out hb)); replace hle := Nat.le_trans (show W1.heap.size ≤ _ from hHeld1.1.size) hle; (try simp only [World.size_alloc, drew_size] at hG); (try simp only [World.size_alloc, drew_size] at hle); have HN1 := hide hG; have HN1L := hide hle; clear hG hle hb)
      refine hK.out _ _ ?_ (fun hHeld2 => ?_)
      · (try dsimp only); first | assumption | exact hSof _ (zbA hHeld1.1 hHeld1.1.size _) | exact hSof _ (zbD (zbR _ _))
      clear hK K hHeld1
      try simp only [Act.put, zl, z0, z1]
      refine wpAnyH_ready (rs := [4, 13]) (by kernel_rfl) (by simp) ?_
      refine consL 4 rfl (fun K hK => ?_) ?_
      · skip
        (refine step_app_aps rfl (.tmp 233) (.tmp 234) rfl W1.heap.size _ [L.apNew] 1 rfl (own_new HN1.out HN1L.out) A n c l rfl HN.out ((HRL.out.below (show Below W1.heap.size W1 _ from hHeld2.1)).mono (show W1.heap.size ≤ _ from hHeld2.1.size)) HA.out (by omega) (by omega) (show W1.heap.size ≤ _ from hHeld2.1.size) (n + 1) (by omega) ?_; intro A2 c2 w9 hown2 hgrow; have hBn := (show Below W1.heap.size W1 _ from hHeld2.1).trans (grown_below (B := W1.heap.size) hgrow (show W1.heap.size ≤ _ from hHeld2.1.size) (fun g hg => by have h := Option.some.inj hg; subst h; exact HN1L.out)); (try replace HG := hide ((hgrow.block _ (blk_lt HG.out) (Ne.symm (row_ne (own_new HN1.out HN1L.out) HG.out (by decide)))).trans HG.out)); (try replace HT1 := hide ((hgrow.block _ (blk_lt HT1.out) (fun e => by have h := Option.some.inj e; (try dsimp only at h); first | omega | (simp at h; done) | (simp at h; omega))).trans HT1.out)); have HO2 := hide hown2; have hSn := hSof _ hBn; (try dsimp only at hSn); clear hown2 hgrow hBn)
        refine hK.out _ _ ?_ (fun hHeld3 => ?_)
        · (try dsimp only); first | assumption | exact hSof _ (zbA hHeld2.1 hHeld2.1.size _) | exact hSof _ (zbD (zbR _ _))
        clear hK K hHeld2
        try simp only [Act.put, zl, z0, z1]
        refine wpAnyH_ready (rs := [7, 13]) (by kernel_rfl) (by simp) ?_
        refine consL 7 rfl (fun K hK => ?_) ?_
        · skip
          (refine step_app_aps rfl (.tmp 235) (.tmp 237) rfl W1.heap.size _ ([L.apNew] ++ l) (n + 1) rfl HO2.out (some ⟨_, 0, none⟩) 1 1 [L.apTie] rfl rfl (rdA_one HT1.out rfl (apTie_rd _ _) (fun _ => rfl)) (fun e => by cases e) (by omega) (by omega) (show W1.heap.size ≤ _ from hHeld3.1.size) (n + 2) (by omega) ?_; intro A3 c3 w11 hown2 hgrow; have hBn := (show Below W1.heap.size W1 _ from hHeld3.1).trans (grown_below (B := W1.heap.size) hgrow (show W1.heap.size ≤ _ from hHeld3.1.size) (fun g hg => (HO2.out.lt g hg).1)); (try replace HG := hide ((hgrow.block _ (blk_lt HG.out) (Ne.symm (row_ne HO2.out HG.out (by decide)))).trans HG.out)); have HO3 := hide hown2; have hSn := hSof _ hBn; (try dsimp only at hSn); clear hown2 hgrow hBn)
          refine hK.out _ _ ?_ (fun hHeld4 => ?_)
          · (try dsimp only); first | assumption | exact hSof _ (zbA hHeld3.1 hHeld3.1.size _) | exact hSof _ (zbD (zbR _ _))
          clear hK K hHeld3
          try simp only [Act.put, zl, z0, z1]
          refine wpAnyH_ready (rs := [8, 13]) (by kernel_rfl) (by simp) ?_
          refine consL 8 rfl (fun K hK => ?_) ?_
          · skip
            go_simp
            ((go_at_call 33; refine (run_cnt2 each more l s HCF.out A3 n c3 W1.heap.size _ HN.out HO3.out ((HRL.out.below (show Below W1.heap.size W1 _ from hHeld4.1)).mono (show W1.heap.size ≤ _ from hHeld4.1.size)).ins).mono ?_; rintro e w10 ⟨sv10, c10, rfl, ho10, hb⟩; have hBn := (show Below W1.heap.size W1 _ from hHeld4.1).trans (hb.mono (show W1.heap.size ≤ _ from hHeld4.1.size)); (try replace HG := hide ((hb.block _ (blk_lt HG.out)).trans HG.out)); have HO9 := hide (owns_mono (base' := W1.heap.size) ho10 (show W1.heap.size ≤ _ from hHeld4.1.size)); have hSn := hSof _ hBn; (try dsimp only at hSn); clear ho10 hBn))
            refine hK.out _ _ ?_ (fun hHeld5 => ?_)
            · (try dsimp only); first | assumption | exact hSof _ (zbA hHeld4.1 hHeld4.1.size _) | exact hSof _ (zbD (zbR _ _))
            clear hK K hHeld4
            try simp only [Act.put, zl, z0, z1]
            refine tL (v := ?_) 9 rfl (by kernel_rfl) (fun _ _ _ h => hp _ _ _ _ _ h) (Or.inl ⟨by rfl, ?_⟩) (by assumption) ?_; rotate_left
            · (intro w hSw; (try dsimp only at hSw); go_simp; try with_reducible rfl)
            try simp only [Act.put, zl, z0, z1]
            refine tL (v := ?_) 10 rfl (by kernel_rfl) (fun _ _ _ h => hp _ _ _ _ _ h) (Or.inl ⟨by rfl, ?_⟩) (by assumption) ?_; rotate_left
            · (intro w hSw; (try dsimp only at hSw); go_simp; try with_reducible rfl)
            try simp only [Act.put, zl, z0, z1]
            refine tL (v := ?_) 11 rfl (by kernel_rfl) (fun _ _ _ h => hp _ _ _ _ _ h) (Or.inl ⟨by rfl, ?_⟩) (by assumption) ?_; rotate_left
            · (intro w hSw; (try dsimp only at hSw); go_simp; try with_reducible rfl)
            try simp only [Act.put, zl, z0, z1]
            refine tL (v := ?_) 12 rfl (by kernel_rfl) (fun _ _ _ h => hp _ _ _ _ _ h) (Or.inl ⟨by rfl, ?_⟩) (by assumption) ?_; rotate_left
            · (intro w hSw; (try dsimp only at hSw); go_simp; try with_reducible rfl)
            try simp only [Act.put, zl, z0, z1]
            refine wpAnyH_ready (rs := [13]) (by kernel_rfl) (by simp) ?_
            refine consL 13 rfl (fun K hK => ?_) AllReadyH.nil
            (go_simp; (first | refine cap_alloc (K := K) (O := (.cells #[.int .i64 0, .int .i64 0] 64 (0, 0))) (fun hG hb hle => ?_) | refine cap_allocD (K := K) (O := (.cells #[.int .i64 0, .int .i64 0] 64 (0, 0))) (fun hG hb hle => ?_)); (try replace HG := hide ((hb.block _ (blk_lt HG.out)).trans HG.out)); (try replace HN1 := hide ((hb.block _ (blk_lt HN1.out)).trans HN1.out)); (try replace HT1 := hide ((hb.block _ (blk_lt HT1.out)).trans HT1.out)); (try replace HO2 := hide (owns_below HO2.out hb)); (try replace HO3 := hide (owns_below HO3.out hb)); (try replace HO9 := hide (owns_below HO9.out hb)); replace hle := Nat.le_trans (show W1.heap.size ≤ _ from hHeld5.1.size) hle; (try simp only [World.size_alloc, drew_size] at hG); (try simp only [World.size_alloc, drew_size] at hle); have HG := hide hG; have HGL := hide hle; clear hG hle hb)
            refine hK.out _ _ ?_ (fun hHeld6 => ?_)
            · (try dsimp only); first | assumption | exact hSof _ (zbA hHeld5.1 hHeld5.1.size _) | exact hSof _ (zbD (zbR _ _))
            clear hK K hHeld5
            try simp only [Act.put, zl, z0, z1]
            refine tL (v := ?_) 14 rfl (by kernel_rfl) (fun _ _ _ h => hp _ _ _ _ _ h) (Or.inl ⟨by rfl, ?_⟩) (by assumption) ?_; rotate_left
            · (intro w hSw; (try dsimp only at hSw); go_simp; try with_reducible rfl)
            try simp only [Act.put, zl, z0, z1]
            refine wpAnyH_ready (rs := [15]) (by kernel_rfl) (by simp) ?_
            refine consL 15 rfl (fun K hK => ?_) AllReadyH.nil
            (refine step_row_count rfl 64 (.tmp 17) (.tmp 241) rfl _ _ rfl rfl 64 _ HG.out arrRow rfl (by simp [Value.oneCell']) ?_; have hr := setRow_heap _ _ _ (#[.int .i64 (s.l0 + more), .int .i64 (s.l1 + more)]) _ _ HG.out; have ho := HO9.out.kept (setRow_grown _ _ (#[.int .i64 (s.l0 + more), .int .i64 (s.l1 + more)])) (.inr (row_ne HO9.out HG.out (by decide))); have hSn := hSof _ (below_row (show Below W1.heap.size W1 _ from hHeld6.1) HGL.out (#[.int .i64 (s.l0 + more), .int .i64 (s.l1 + more)])); refine cap_gen (K := K) (fun W9 hW9 => ?_); rw [← hW9] at hr ho hSn; have HR9 := hide hr; have HO10 := hide ho; clear hr ho hW9; (try dsimp only at hSn))
            refine hK.out _ _ ?_ (fun hHeld7 => ?_)
            · (try dsimp only); first | assumption | exact hSof _ (zbA hHeld6.1 hHeld6.1.size _) | exact hSof _ (zbD (zbR _ _))
            clear hK K hHeld6
            try simp only [Act.put, zl, z0, z1]
            refine tL (v := ?_) 16 rfl (by kernel_rfl) (fun _ _ _ h => hp _ _ _ _ _ h) (Or.inl ⟨by rfl, ?_⟩) (by assumption) ?_; rotate_left
            · (intro w hSw; (try dsimp only at hSw); go_simp; try with_reducible rfl)
            try simp only [Act.put, zl, z0, z1]
            refine wpAnyH_done (by kernel_rfl) ?_ _
            have hBf := hSn.1
            (try dsimp only [Act.put, List.getElem_toArray, List.getElem_cons_succ, List.getElem_cons_zero])
            (try simp only [zl, z0, z1])
            exact hK _ _ _ _ _ _ _ _ _ _ _ _ _  _ _ _ _ HO10 HR9 HGL (hide hBf)
          refine consL 13 rfl (fun K hK => ?_) AllReadyH.nil
          focus
            (go_simp; (first | refine cap_alloc (K := K) (O := (.cells #[.int .i64 0, .int .i64 0] 64 (0, 0))) (fun hG hb hle => ?_) | refine cap_allocD (K := K) (O := (.cells #[.int .i64 0, .int .i64 0] 64 (0, 0))) (fun hG hb hle => ?_)); (try replace HG := hide ((hb.block _ (blk_lt HG.out)).trans HG.out)); (try replace HN1 := hide ((hb.block _ (blk_lt HN1.out)).trans HN1.out)); (try replace HT1 := hide ((hb.block _ (blk_lt HT1.out)).trans HT1.out)); (try replace HO2 := hide (owns_below HO2.out hb)); (try replace HO3 := hide (owns_below HO3.out hb)); (try replace HO9 := hide (owns_below HO9.out hb)); replace hle := Nat.le_trans (show W1.heap.size ≤ _ from hHeld4.1.size) hle; (try simp only [World.size_alloc, drew_size] at hG); (try simp only [World.size_alloc, drew_size] at hle); have HG := hide hG; have HGL := hide hle; clear hG hle hb)
            refine hK.out _ _ ?_ (fun hHeld5 => ?_)
            · (try dsimp only); first | assumption | exact hSof _ (zbA hHeld4.1 hHeld4.1.size _) | exact hSof _ (zbD (zbR _ _))
            clear hK K hHeld4
            try simp only [Act.put, zl, z0, z1]
            refine wpAnyH_ready (rs := [8]) (by kernel_rfl) (by simp) ?_
            refine consL 8 rfl (fun K hK => ?_) AllReadyH.nil
            go_simp
            ((go_at_call 33; refine (run_cnt2 each more l s HCF.out A3 n c3 W1.heap.size _ HN.out HO3.out ((HRL.out.below (show Below W1.heap.size W1 _ from hHeld5.1)).mono (show W1.heap.size ≤ _ from hHeld5.1.size)).ins).mono ?_; rintro e w10 ⟨sv10, c10, rfl, ho10, hb⟩; have hBn := (show Below W1.heap.size W1 _ from hHeld5.1).trans (hb.mono (show W1.heap.size ≤ _ from hHeld5.1.size)); (try replace HG := hide ((hb.block _ (blk_lt HG.out)).trans HG.out)); have HO9 := hide (owns_mono (base' := W1.heap.size) ho10 (show W1.heap.size ≤ _ from hHeld5.1.size)); have hSn := hSof _ hBn; (try dsimp only at hSn); clear ho10 hBn))
            refine hK.out _ _ ?_ (fun hHeld6 => ?_)
            · (try dsimp only); first | assumption | exact hSof _ (zbA hHeld5.1 hHeld5.1.size _) | exact hSof _ (zbD (zbR _ _))
            clear hK K hHeld5
            try simp only [Act.put, zl, z0, z1]
            refine tL (v := ?_) 9 rfl (by kernel_rfl) (fun _ _ _ h => hp _ _ _ _ _ h) (Or.inl ⟨by rfl, ?_⟩) (by assumption) ?_; rotate_left
            · (intro w hSw; (try dsimp only at hSw); go_simp; try with_reducible rfl)
            try simp only [Act.put, zl, z0, z1]
            refine tL (v := ?_) 10 rfl (by kernel_rfl) (fun _ _ _ h => hp _ _ _ _ _ h) (Or.inl ⟨by rfl, ?_⟩) (by assumption) ?_; rotate_left
            · (intro w hSw; (try dsimp only at hSw); go_simp; try with_reducible rfl)
            try simp only [Act.put, zl, z0, z1]
            refine tL (v := ?_) 11 rfl (by kernel_rfl) (fun _ _ _ h => hp _ _ _ _ _ h) (Or.inl ⟨by rfl, ?_⟩) (by assumption) ?_; rotate_left
            · (intro w hSw; (try dsimp only at hSw); go_simp; try with_reducible rfl)
            try simp only [Act.put, zl, z0, z1]
            refine tL (v := ?_) 12 rfl (by kernel_rfl) (fun _ _ _ h => hp _ _ _ _ _ h) (Or.inl ⟨by rfl, ?_⟩) (by assumption) ?_; rotate_left
            · (intro w hSw; (try dsimp only at hSw); go_simp; try with_reducible rfl)
            try simp only [Act.put, zl, z0, z1]
            refine tL (v := ?_) 14 rfl (by kernel_rfl) (fun _ _ _ h => hp _ _ _ _ _ h) (Or.inl ⟨by rfl, ?_⟩) (by assumption) ?_; rotate_left
            · (intro w hSw; (try dsimp only at hSw); go_simp; try with_reducible rfl)
            try simp only [Act.put, zl, z0, z1]
            refine wpAnyH_ready (rs := [15]) (by kernel_rfl) (by simp) ?_
            refine consL 15 rfl (fun K hK => ?_) AllReadyH.nil
            (refine step_row_count rfl 64 (.tmp 17) (.tmp 241) rfl _ _ rfl rfl 64 _ HG.out arrRow rfl (by simp [Value.oneCell']) ?_; have hr := setRow_heap _ _ _ (#[.int .i64 (s.l0 + more), .int .i64 (s.l1 + more)]) _ _ HG.out; have ho := HO9.out.kept (setRow_grown _ _ (#[.int .i64 (s.l0 + more), .int .i64 (s.l1 + more)])) (.inr (row_ne HO9.out HG.out (by decide))); have hSn := hSof _ (below_row (show Below W1.heap.size W1 _ from hHeld6.1) HGL.out (#[.int .i64 (s.l0 + more), .int .i64 (s.l1 + more)])); refine cap_gen (K := K) (fun W9 hW9 => ?_); rw [← hW9] at hr ho hSn; have HR9 := hide hr; have HO10 := hide ho; clear hr ho hW9; (try dsimp only at hSn))
            refine hK.out _ _ ?_ (fun hHeld7 => ?_)
            · (try dsimp only); first | assumption | exact hSof _ (zbA hHeld6.1 hHeld6.1.size _) | exact hSof _ (zbD (zbR _ _))
            clear hK K hHeld6
            try simp only [Act.put, zl, z0, z1]
            refine tL (v := ?_) 16 rfl (by kernel_rfl) (fun _ _ _ h => hp _ _ _ _ _ h) (Or.inl ⟨by rfl, ?_⟩) (by assumption) ?_; rotate_left
            · (intro w hSw; (try dsimp only at hSw); go_simp; try with_reducible rfl)
            try simp only [Act.put, zl, z0, z1]
            refine wpAnyH_done (by kernel_rfl) ?_ _
            have hBf := hSn.1
            (try dsimp only [Act.put, List.getElem_toArray, List.getElem_cons_succ, List.getElem_cons_zero])
            (try simp only [zl, z0, z1])
            exact hK _ _ _ _ _ _ _ _ _ _ _ _ _  _ _ _ _ HO10 HR9 HGL (hide hBf)
        refine consL 13 rfl (fun K hK => ?_) AllReadyH.nil
        focus
          (go_simp; (first | refine cap_alloc (K := K) (O := (.cells #[.int .i64 0, .int .i64 0] 64 (0, 0))) (fun hG hb hle => ?_) | refine cap_allocD (K := K) (O := (.cells #[.int .i64 0, .int .i64 0] 64 (0, 0))) (fun hG hb hle => ?_)); (try replace HG := hide ((hb.block _ (blk_lt HG.out)).trans HG.out)); (try replace HN1 := hide ((hb.block _ (blk_lt HN1.out)).trans HN1.out)); (try replace HT1 := hide ((hb.block _ (blk_lt HT1.out)).trans HT1.out)); (try replace HO2 := hide (owns_below HO2.out hb)); (try replace HO3 := hide (owns_below HO3.out hb)); (try replace HO9 := hide (owns_below HO9.out hb)); replace hle := Nat.le_trans (show W1.heap.size ≤ _ from hHeld3.1.size) hle; (try simp only [World.size_alloc, drew_size] at hG); (try simp only [World.size_alloc, drew_size] at hle); have HG := hide hG; have HGL := hide hle; clear hG hle hb)
          refine hK.out _ _ ?_ (fun hHeld4 => ?_)
          · (try dsimp only); first | assumption | exact hSof _ (zbA hHeld3.1 hHeld3.1.size _) | exact hSof _ (zbD (zbR _ _))
          clear hK K hHeld3
          try simp only [Act.put, zl, z0, z1]
          refine wpAnyH_ready (rs := [7]) (by kernel_rfl) (by simp) ?_
          refine consL 7 rfl (fun K hK => ?_) AllReadyH.nil
          (refine step_app_aps rfl (.tmp 235) (.tmp 237) rfl W1.heap.size _ ([L.apNew] ++ l) (n + 1) rfl HO2.out (some ⟨_, 0, none⟩) 1 1 [L.apTie] rfl rfl (rdA_one HT1.out rfl (apTie_rd _ _) (fun _ => rfl)) (fun e => by cases e) (by omega) (by omega) (show W1.heap.size ≤ _ from hHeld4.1.size) (n + 2) (by omega) ?_; intro A3 c3 w11 hown2 hgrow; have hBn := (show Below W1.heap.size W1 _ from hHeld4.1).trans (grown_below (B := W1.heap.size) hgrow (show W1.heap.size ≤ _ from hHeld4.1.size) (fun g hg => (HO2.out.lt g hg).1)); (try replace HG := hide ((hgrow.block _ (blk_lt HG.out) (Ne.symm (row_ne HO2.out HG.out (by decide)))).trans HG.out)); have HO3 := hide hown2; have hSn := hSof _ hBn; (try dsimp only at hSn); clear hown2 hgrow hBn)
          refine hK.out _ _ ?_ (fun hHeld5 => ?_)
          · (try dsimp only); first | assumption | exact hSof _ (zbA hHeld4.1 hHeld4.1.size _) | exact hSof _ (zbD (zbR _ _))
          clear hK K hHeld4
          try simp only [Act.put, zl, z0, z1]
          refine wpAnyH_ready (rs := [8]) (by kernel_rfl) (by simp) ?_
          refine consL 8 rfl (fun K hK => ?_) AllReadyH.nil
          go_simp
          ((go_at_call 33; refine (run_cnt2 each more l s HCF.out A3 n c3 W1.heap.size _ HN.out HO3.out ((HRL.out.below (show Below W1.heap.size W1 _ from hHeld5.1)).mono (show W1.heap.size ≤ _ from hHeld5.1.size)).ins).mono ?_; rintro e w10 ⟨sv10, c10, rfl, ho10, hb⟩; have hBn := (show Below W1.heap.size W1 _ from hHeld5.1).trans (hb.mono (show W1.heap.size ≤ _ from hHeld5.1.size)); (try replace HG := hide ((hb.block _ (blk_lt HG.out)).trans HG.out)); have HO9 := hide (owns_mono (base' := W1.heap.size) ho10 (show W1.heap.size ≤ _ from hHeld5.1.size)); have hSn := hSof _ hBn; (try dsimp only at hSn); clear ho10 hBn))
          refine hK.out _ _ ?_ (fun hHeld6 => ?_)
          · (try dsimp only); first | assumption | exact hSof _ (zbA hHeld5.1 hHeld5.1.size _) | exact hSof _ (zbD (zbR _ _))
          clear hK K hHeld5
          try simp only [Act.put, zl, z0, z1]
          refine tL (v := ?_) 9 rfl (by kernel_rfl) (fun _ _ _ h => hp _ _ _ _ _ h) (Or.inl ⟨by rfl, ?_⟩) (by assumption) ?_; rotate_left
          · (intro w hSw; (try dsimp only at hSw); go_simp; try with_reducible rfl)
          try simp only [Act.put, zl, z0, z1]
          refine tL (v := ?_) 10 rfl (by kernel_rfl) (fun _ _ _ h => hp _ _ _ _ _ h) (Or.inl ⟨by rfl, ?_⟩) (by assumption) ?_; rotate_left
          · (intro w hSw; (try dsimp only at hSw); go_simp; try with_reducible rfl)
          try simp only [Act.put, zl, z0, z1]
          refine tL (v := ?_) 11 rfl (by kernel_rfl) (fun _ _ _ h => hp _ _ _ _ _ h) (Or.inl ⟨by rfl, ?_⟩) (by assumption) ?_; rotate_left
          · (intro w hSw; (try dsimp only at hSw); go_simp; try with_reducible rfl)
          try simp only [Act.put, zl, z0, z1]
          refine tL (v := ?_) 12 rfl (by kernel_rfl) (fun _ _ _ h => hp _ _ _ _ _ h) (Or.inl ⟨by rfl, ?_⟩) (by assumption) ?_; rotate_left
          · (intro w hSw; (try dsimp only at hSw); go_simp; try with_reducible rfl)
          try simp only [Act.put, zl, z0, z1]
          refine tL (v := ?_) 14 rfl (by kernel_rfl) (fun _ _ _ h => hp _ _ _ _ _ h) (Or.inl ⟨by rfl, ?_⟩) (by assumption) ?_; rotate_left
          · (intro w hSw; (try dsimp only at hSw); go_simp; try with_reducible rfl)
          try simp only [Act.put, zl, z0, z1]
          refine wpAnyH_ready (rs := [15]) (by kernel_rfl) (by simp) ?_
          refine consL 15 rfl (fun K hK => ?_) AllReadyH.nil
          (refine step_row_count rfl 64 (.tmp 17) (.tmp 241) rfl _ _ rfl rfl 64 _ HG.out arrRow rfl (by simp [Value.oneCell']) ?_; have hr := setRow_heap _ _ _ (#[.int .i64 (s.l0 + more), .int .i64 (s.l1 + more)]) _ _ HG.out; have ho := HO9.out.kept (setRow_grown _ _ (#[.int .i64 (s.l0 + more), .int .i64 (s.l1 + more)])) (.inr (row_ne HO9.out HG.out (by decide))); have hSn := hSof _ (below_row (show Below W1.heap.size W1 _ from hHeld6.1) HGL.out (#[.int .i64 (s.l0 + more), .int .i64 (s.l1 + more)])); refine cap_gen (K := K) (fun W9 hW9 => ?_); rw [← hW9] at hr ho hSn; have HR9 := hide hr; have HO10 := hide ho; clear hr ho hW9; (try dsimp only at hSn))
          refine hK.out _ _ ?_ (fun hHeld7 => ?_)
          · (try dsimp only); first | assumption | exact hSof _ (zbA hHeld6.1 hHeld6.1.size _) | exact hSof _ (zbD (zbR _ _))
          clear hK K hHeld6
          try simp only [Act.put, zl, z0, z1]
          refine tL (v := ?_) 16 rfl (by kernel_rfl) (fun _ _ _ h => hp _ _ _ _ _ h) (Or.inl ⟨by rfl, ?_⟩) (by assumption) ?_; rotate_left
          · (intro w hSw; (try dsimp only at hSw); go_simp; try with_reducible rfl)
          try simp only [Act.put, zl, z0, z1]
          refine wpAnyH_done (by kernel_rfl) ?_ _
          have hBf := hSn.1
          (try dsimp only [Act.put, List.getElem_toArray, List.getElem_cons_succ, List.getElem_cons_zero])
          (try simp only [zl, z0, z1])
          exact hK _ _ _ _ _ _ _ _ _ _ _ _ _  _ _ _ _ HO10 HR9 HGL (hide hBf)
      refine consL 13 rfl (fun K hK => ?_) AllReadyH.nil
      focus
        (go_simp; (first | refine cap_alloc (K := K) (O := (.cells #[.int .i64 0, .int .i64 0] 64 (0, 0))) (fun hG hb hle => ?_) | refine cap_allocD (K := K) (O := (.cells #[.int .i64 0, .int .i64 0] 64 (0, 0))) (fun hG hb hle => ?_)); (try replace HG := hide ((hb.block _ (blk_lt HG.out)).trans HG.out)); (try replace HN1 := hide ((hb.block _ (blk_lt HN1.out)).trans HN1.out)); (try replace HT1 := hide ((hb.block _ (blk_lt HT1.out)).trans HT1.out)); (try replace HO2 := hide (owns_below HO2.out hb)); (try replace HO3 := hide (owns_below HO3.out hb)); (try replace HO9 := hide (owns_below HO9.out hb)); replace hle := Nat.le_trans (show W1.heap.size ≤ _ from hHeld2.1.size) hle; (try simp only [World.size_alloc, drew_size] at hG); (try simp only [World.size_alloc, drew_size] at hle); have HG := hide hG; have HGL := hide hle; clear hG hle hb)
        refine hK.out _ _ ?_ (fun hHeld3 => ?_)
        · (try dsimp only); first | assumption | exact hSof _ (zbA hHeld2.1 hHeld2.1.size _) | exact hSof _ (zbD (zbR _ _))
        clear hK K hHeld2
        try simp only [Act.put, zl, z0, z1]
        refine wpAnyH_ready (rs := [4]) (by kernel_rfl) (by simp) ?_
        refine consL 4 rfl (fun K hK => ?_) AllReadyH.nil
        (refine step_app_aps rfl (.tmp 233) (.tmp 234) rfl W1.heap.size _ [L.apNew] 1 rfl (own_new HN1.out HN1L.out) A n c l rfl HN.out ((HRL.out.below (show Below W1.heap.size W1 _ from hHeld3.1)).mono (show W1.heap.size ≤ _ from hHeld3.1.size)) HA.out (by omega) (by omega) (show W1.heap.size ≤ _ from hHeld3.1.size) (n + 1) (by omega) ?_; intro A2 c2 w9 hown2 hgrow; have hBn := (show Below W1.heap.size W1 _ from hHeld3.1).trans (grown_below (B := W1.heap.size) hgrow (show W1.heap.size ≤ _ from hHeld3.1.size) (fun g hg => by have h := Option.some.inj hg; subst h; exact HN1L.out)); (try replace HG := hide ((hgrow.block _ (blk_lt HG.out) (Ne.symm (row_ne (own_new HN1.out HN1L.out) HG.out (by decide)))).trans HG.out)); (try replace HT1 := hide ((hgrow.block _ (blk_lt HT1.out) (fun e => by have h := Option.some.inj e; (try dsimp only at h); first | omega | (simp at h; done) | (simp at h; omega))).trans HT1.out)); have HO2 := hide hown2; have hSn := hSof _ hBn; (try dsimp only at hSn); clear hown2 hgrow hBn)
        refine hK.out _ _ ?_ (fun hHeld4 => ?_)
        · (try dsimp only); first | assumption | exact hSof _ (zbA hHeld3.1 hHeld3.1.size _) | exact hSof _ (zbD (zbR _ _))
        clear hK K hHeld3
        try simp only [Act.put, zl, z0, z1]
        refine wpAnyH_ready (rs := [7]) (by kernel_rfl) (by simp) ?_
        refine consL 7 rfl (fun K hK => ?_) AllReadyH.nil
        (refine step_app_aps rfl (.tmp 235) (.tmp 237) rfl W1.heap.size _ ([L.apNew] ++ l) (n + 1) rfl HO2.out (some ⟨_, 0, none⟩) 1 1 [L.apTie] rfl rfl (rdA_one HT1.out rfl (apTie_rd _ _) (fun _ => rfl)) (fun e => by cases e) (by omega) (by omega) (show W1.heap.size ≤ _ from hHeld4.1.size) (n + 2) (by omega) ?_; intro A3 c3 w11 hown2 hgrow; have hBn := (show Below W1.heap.size W1 _ from hHeld4.1).trans (grown_below (B := W1.heap.size) hgrow (show W1.heap.size ≤ _ from hHeld4.1.size) (fun g hg => (HO2.out.lt g hg).1)); (try replace HG := hide ((hgrow.block _ (blk_lt HG.out) (Ne.symm (row_ne HO2.out HG.out (by decide)))).trans HG.out)); have HO3 := hide hown2; have hSn := hSof _ hBn; (try dsimp only at hSn); clear hown2 hgrow hBn)
        refine hK.out _ _ ?_ (fun hHeld5 => ?_)
        · (try dsimp only); first | assumption | exact hSof _ (zbA hHeld4.1 hHeld4.1.size _) | exact hSof _ (zbD (zbR _ _))
        clear hK K hHeld4
        try simp only [Act.put, zl, z0, z1]
        refine wpAnyH_ready (rs := [8]) (by kernel_rfl) (by simp) ?_
        refine consL 8 rfl (fun K hK => ?_) AllReadyH.nil
        go_simp
        ((go_at_call 33; refine (run_cnt2 each more l s HCF.out A3 n c3 W1.heap.size _ HN.out HO3.out ((HRL.out.below (show Below W1.heap.size W1 _ from hHeld5.1)).mono (show W1.heap.size ≤ _ from hHeld5.1.size)).ins).mono ?_; rintro e w10 ⟨sv10, c10, rfl, ho10, hb⟩; have hBn := (show Below W1.heap.size W1 _ from hHeld5.1).trans (hb.mono (show W1.heap.size ≤ _ from hHeld5.1.size)); (try replace HG := hide ((hb.block _ (blk_lt HG.out)).trans HG.out)); have HO9 := hide (owns_mono (base' := W1.heap.size) ho10 (show W1.heap.size ≤ _ from hHeld5.1.size)); have hSn := hSof _ hBn; (try dsimp only at hSn); clear ho10 hBn))
        refine hK.out _ _ ?_ (fun hHeld6 => ?_)
        · (try dsimp only); first | assumption | exact hSof _ (zbA hHeld5.1 hHeld5.1.size _) | exact hSof _ (zbD (zbR _ _))
        clear hK K hHeld5
        try simp only [Act.put, zl, z0, z1]
        refine tL (v := ?_) 9 rfl (by kernel_rfl) (fun _ _ _ h => hp _ _ _ _ _ h) (Or.inl ⟨by rfl, ?_⟩) (by assumption) ?_; rotate_left
        · (intro w hSw; (try dsimp only at hSw); go_simp; try with_reducible rfl)
        try simp only [Act.put, zl, z0, z1]
        refine tL (v := ?_) 10 rfl (by kernel_rfl) (fun _ _ _ h => hp _ _ _ _ _ h) (Or.inl ⟨by rfl, ?_⟩) (by assumption) ?_; rotate_left
        · (intro w hSw; (try dsimp only at hSw); go_simp; try with_reducible rfl)
        try simp only [Act.put, zl, z0, z1]
        refine tL (v := ?_) 11 rfl (by kernel_rfl) (fun _ _ _ h => hp _ _ _ _ _ h) (Or.inl ⟨by rfl, ?_⟩) (by assumption) ?_; rotate_left
        · (intro w hSw; (try dsimp only at hSw); go_simp; try with_reducible rfl)
        try simp only [Act.put, zl, z0, z1]
        refine tL (v := ?_) 12 rfl (by kernel_rfl) (fun _ _ _ h => hp _ _ _ _ _ h) (Or.inl ⟨by rfl, ?_⟩) (by assumption) ?_; rotate_left
        · (intro w hSw; (try dsimp only at hSw); go_simp; try with_reducible rfl)
        try simp only [Act.put, zl, z0, z1]
        refine tL (v := ?_) 14 rfl (by kernel_rfl) (fun _ _ _ h => hp _ _ _ _ _ h) (Or.inl ⟨by rfl, ?_⟩) (by assumption) ?_; rotate_left
        · (intro w hSw; (try dsimp only at hSw); go_simp; try with_reducible rfl)
        try simp only [Act.put, zl, z0, z1]
        refine wpAnyH_ready (rs := [15]) (by kernel_rfl) (by simp) ?_
        refine consL 15 rfl (fun K hK => ?_) AllReadyH.nil
        (refine step_row_count rfl 64 (.tmp 17) (.tmp 241) rfl _ _ rfl rfl 64 _ HG.out arrRow rfl (by simp [Value.oneCell']) ?_; have hr := setRow_heap _ _ _ (#[.int .i64 (s.l0 + more), .int .i64 (s.l1 + more)]) _ _ HG.out; have ho := HO9.out.kept (setRow_grown _ _ (#[.int .i64 (s.l0 + more), .int .i64 (s.l1 + more)])) (.inr (row_ne HO9.out HG.out (by decide))); have hSn := hSof _ (below_row (show Below W1.heap.size W1 _ from hHeld6.1) HGL.out (#[.int .i64 (s.l0 + more), .int .i64 (s.l1 + more)])); refine cap_gen (K := K) (fun W9 hW9 => ?_); rw [← hW9] at hr ho hSn; have HR9 := hide hr; have HO10 := hide ho; clear hr ho hW9; (try dsimp only at hSn))
        refine hK.out _ _ ?_ (fun hHeld7 => ?_)
        · (try dsimp only); first | assumption | exact hSof _ (zbA hHeld6.1 hHeld6.1.size _) | exact hSof _ (zbD (zbR _ _))
        clear hK K hHeld6
        try simp only [Act.put, zl, z0, z1]
        refine tL (v := ?_) 16 rfl (by kernel_rfl) (fun _ _ _ h => hp _ _ _ _ _ h) (Or.inl ⟨by rfl, ?_⟩) (by assumption) ?_; rotate_left
        · (intro w hSw; (try dsimp only at hSw); go_simp; try with_reducible rfl)
        try simp only [Act.put, zl, z0, z1]
        refine wpAnyH_done (by kernel_rfl) ?_ _
        have hBf := hSn.1
        (try dsimp only [Act.put, List.getElem_toArray, List.getElem_cons_succ, List.getElem_cons_zero])
        (try simp only [zl, z0, z1])
        exact hK _ _ _ _ _ _ _ _ _ _ _ _ _  _ _ _ _ HO10 HR9 HGL (hide hBf)
    refine consL 13 rfl (fun K hK => ?_) AllReadyH.nil
    focus
      (go_simp; (first | refine cap_alloc (K := K) (O := (.cells #[.int .i64 0, .int .i64 0] 64 (0, 0))) (fun hG hb hle => ?_) | refine cap_allocD (K := K) (O := (.cells #[.int .i64 0, .int .i64 0] 64 (0, 0))) (fun hG hb hle => ?_)); (try replace HG := hide ((hb.block _ (blk_lt HG.out)).trans HG.out)); (try replace HN1 := hide ((hb.block _ (blk_lt HN1.out)).trans HN1.out)); (try replace HT1 := hide ((hb.block _ (blk_lt HT1.out)).trans HT1.out)); (try replace HO2 := hide (owns_below HO2.out hb)); (try replace HO3 := hide (owns_below HO3.out hb)); (try replace HO9 := hide (owns_below HO9.out hb)); replace hle := Nat.le_trans (show W1.heap.size ≤ _ from hHeld1.1.size) hle; (try simp only [World.size_alloc, drew_size] at hG); (try simp only [World.size_alloc, drew_size] at hle); have HG := hide hG; have HGL := hide hle; clear hG hle hb)
      refine hK.out _ _ ?_ (fun hHeld2 => ?_)
      · (try dsimp only); first | assumption | exact hSof _ (zbA hHeld1.1 hHeld1.1.size _) | exact hSof _ (zbD (zbR _ _))
      clear hK K hHeld1
      try simp only [Act.put, zl, z0, z1]
      refine wpAnyH_ready (rs := [2]) (by kernel_rfl) (by simp) ?_
      refine consL 2 rfl (fun K hK => ?_) AllReadyH.nil
      (go_simp; (first | refine cap_alloc (K := K) (O := (.cells #[.int .i64 1, .int .i64 0, .int .i64 0, .int .i64 0, .slice none 0 0, .int .i64 0, .int .i64 0, .int .i64 0, .int .i64 0, .int .i64 0, .int .i64 0, .int .i64 0, .int .i64 0, .int .i64 0] 66 (0, 0))) (fun hG hb hle => ?_) | refine cap_allocD (K := K) (O := (.cells #[.int .i64 1, .int .i64 0, .int .i64 0, .int .i64 0, .slice none 0 0, .int .i64 0, .int .i64 0, .int .i64 0, .int .i64 0, .int .i64 0, .int .i64 0, .int .i64 0, .int .i64 0, .int .i64 0] 66 (0, 0))) (fun hG hb hle => ?_)); (try replace HG := hide ((hb.block _ (blk_lt HG.out)).trans HG.out)); (try replace HN1 := hide ((hb.block _ (blk_lt HN1.out)).trans HN1.out)); (try replace HT1 := hide ((hb.block _ (blk_lt HT1.out)).trans HT1.out)); (try replace HO2 := hide (owns_below HO2.out hb)); (try replace HO3 := hide (owns_below HO3.out hb)); (try replace HO9 := hide (owns_below HO9.out hb)); replace hle := Nat.le_trans (show W1.heap.size ≤ _ from hHeld2.1.size) hle; (try simp only [World.size_alloc, drew_size] at hG); (try simp only [World.size_alloc, drew_size] at hle); have HN1 := hide hG; have HN1L := hide hle; clear hG hle hb)
      refine hK.out _ _ ?_ (fun hHeld3 => ?_)
      · (try dsimp only); first | assumption | exact hSof _ (zbA hHeld2.1 hHeld2.1.size _) | exact hSof _ (zbD (zbR _ _))
      clear hK K hHeld2
      try simp only [Act.put, zl, z0, z1]
      refine wpAnyH_ready (rs := [4]) (by kernel_rfl) (by simp) ?_
      refine consL 4 rfl (fun K hK => ?_) AllReadyH.nil
      (refine step_app_aps rfl (.tmp 233) (.tmp 234) rfl W1.heap.size _ [L.apNew] 1 rfl (own_new HN1.out HN1L.out) A n c l rfl HN.out ((HRL.out.below (show Below W1.heap.size W1 _ from hHeld3.1)).mono (show W1.heap.size ≤ _ from hHeld3.1.size)) HA.out (by omega) (by omega) (show W1.heap.size ≤ _ from hHeld3.1.size) (n + 1) (by omega) ?_; intro A2 c2 w9 hown2 hgrow; have hBn := (show Below W1.heap.size W1 _ from hHeld3.1).trans (grown_below (B := W1.heap.size) hgrow (show W1.heap.size ≤ _ from hHeld3.1.size) (fun g hg => by have h := Option.some.inj hg; subst h; exact HN1L.out)); (try replace HG := hide ((hgrow.block _ (blk_lt HG.out) (Ne.symm (row_ne (own_new HN1.out HN1L.out) HG.out (by decide)))).trans HG.out)); (try replace HT1 := hide ((hgrow.block _ (blk_lt HT1.out) (fun e => by have h := Option.some.inj e; (try dsimp only at h); first | omega | (simp at h; done) | (simp at h; omega))).trans HT1.out)); have HO2 := hide hown2; have hSn := hSof _ hBn; (try dsimp only at hSn); clear hown2 hgrow hBn)
      refine hK.out _ _ ?_ (fun hHeld4 => ?_)
      · (try dsimp only); first | assumption | exact hSof _ (zbA hHeld3.1 hHeld3.1.size _) | exact hSof _ (zbD (zbR _ _))
      clear hK K hHeld3
      try simp only [Act.put, zl, z0, z1]
      refine wpAnyH_ready (rs := [7]) (by kernel_rfl) (by simp) ?_
      refine consL 7 rfl (fun K hK => ?_) AllReadyH.nil
      (refine step_app_aps rfl (.tmp 235) (.tmp 237) rfl W1.heap.size _ ([L.apNew] ++ l) (n + 1) rfl HO2.out (some ⟨_, 0, none⟩) 1 1 [L.apTie] rfl rfl (rdA_one HT1.out rfl (apTie_rd _ _) (fun _ => rfl)) (fun e => by cases e) (by omega) (by omega) (show W1.heap.size ≤ _ from hHeld4.1.size) (n + 2) (by omega) ?_; intro A3 c3 w11 hown2 hgrow; have hBn := (show Below W1.heap.size W1 _ from hHeld4.1).trans (grown_below (B := W1.heap.size) hgrow (show W1.heap.size ≤ _ from hHeld4.1.size) (fun g hg => (HO2.out.lt g hg).1)); (try replace HG := hide ((hgrow.block _ (blk_lt HG.out) (Ne.symm (row_ne HO2.out HG.out (by decide)))).trans HG.out)); have HO3 := hide hown2; have hSn := hSof _ hBn; (try dsimp only at hSn); clear hown2 hgrow hBn)
      refine hK.out _ _ ?_ (fun hHeld5 => ?_)
      · (try dsimp only); first | assumption | exact hSof _ (zbA hHeld4.1 hHeld4.1.size _) | exact hSof _ (zbD (zbR _ _))
      clear hK K hHeld4
      try simp only [Act.put, zl, z0, z1]
      refine wpAnyH_ready (rs := [8]) (by kernel_rfl) (by simp) ?_
      refine consL 8 rfl (fun K hK => ?_) AllReadyH.nil
      go_simp
      ((go_at_call 33; refine (run_cnt2 each more l s HCF.out A3 n c3 W1.heap.size _ HN.out HO3.out ((HRL.out.below (show Below W1.heap.size W1 _ from hHeld5.1)).mono (show W1.heap.size ≤ _ from hHeld5.1.size)).ins).mono ?_; rintro e w10 ⟨sv10, c10, rfl, ho10, hb⟩; have hBn := (show Below W1.heap.size W1 _ from hHeld5.1).trans (hb.mono (show W1.heap.size ≤ _ from hHeld5.1.size)); (try replace HG := hide ((hb.block _ (blk_lt HG.out)).trans HG.out)); have HO9 := hide (owns_mono (base' := W1.heap.size) ho10 (show W1.heap.size ≤ _ from hHeld5.1.size)); have hSn := hSof _ hBn; (try dsimp only at hSn); clear ho10 hBn))
      refine hK.out _ _ ?_ (fun hHeld6 => ?_)
      · (try dsimp only); first | assumption | exact hSof _ (zbA hHeld5.1 hHeld5.1.size _) | exact hSof _ (zbD (zbR _ _))
      clear hK K hHeld5
      try simp only [Act.put, zl, z0, z1]
      refine tL (v := ?_) 9 rfl (by kernel_rfl) (fun _ _ _ h => hp _ _ _ _ _ h) (Or.inl ⟨by rfl, ?_⟩) (by assumption) ?_; rotate_left
      · (intro w hSw; (try dsimp only at hSw); go_simp; try with_reducible rfl)
      try simp only [Act.put, zl, z0, z1]
      refine tL (v := ?_) 10 rfl (by kernel_rfl) (fun _ _ _ h => hp _ _ _ _ _ h) (Or.inl ⟨by rfl, ?_⟩) (by assumption) ?_; rotate_left
      · (intro w hSw; (try dsimp only at hSw); go_simp; try with_reducible rfl)
      try simp only [Act.put, zl, z0, z1]
      refine tL (v := ?_) 11 rfl (by kernel_rfl) (fun _ _ _ h => hp _ _ _ _ _ h) (Or.inl ⟨by rfl, ?_⟩) (by assumption) ?_; rotate_left
      · (intro w hSw; (try dsimp only at hSw); go_simp; try with_reducible rfl)
      try simp only [Act.put, zl, z0, z1]
      refine tL (v := ?_) 12 rfl (by kernel_rfl) (fun _ _ _ h => hp _ _ _ _ _ h) (Or.inl ⟨by rfl, ?_⟩) (by assumption) ?_; rotate_left
      · (intro w hSw; (try dsimp only at hSw); go_simp; try with_reducible rfl)
      try simp only [Act.put, zl, z0, z1]
      refine tL (v := ?_) 14 rfl (by kernel_rfl) (fun _ _ _ h => hp _ _ _ _ _ h) (Or.inl ⟨by rfl, ?_⟩) (by assumption) ?_; rotate_left
      · (intro w hSw; (try dsimp only at hSw); go_simp; try with_reducible rfl)
      try simp only [Act.put, zl, z0, z1]
      refine wpAnyH_ready (rs := [15]) (by kernel_rfl) (by simp) ?_
      refine consL 15 rfl (fun K hK => ?_) AllReadyH.nil
      (refine step_row_count rfl 64 (.tmp 17) (.tmp 241) rfl _ _ rfl rfl 64 _ HG.out arrRow rfl (by simp [Value.oneCell']) ?_; have hr := setRow_heap _ _ _ (#[.int .i64 (s.l0 + more), .int .i64 (s.l1 + more)]) _ _ HG.out; have ho := HO9.out.kept (setRow_grown _ _ (#[.int .i64 (s.l0 + more), .int .i64 (s.l1 + more)])) (.inr (row_ne HO9.out HG.out (by decide))); have hSn := hSof _ (below_row (show Below W1.heap.size W1 _ from hHeld6.1) HGL.out (#[.int .i64 (s.l0 + more), .int .i64 (s.l1 + more)])); refine cap_gen (K := K) (fun W9 hW9 => ?_); rw [← hW9] at hr ho hSn; have HR9 := hide hr; have HO10 := hide ho; clear hr ho hW9; (try dsimp only at hSn))
      refine hK.out _ _ ?_ (fun hHeld7 => ?_)
      · (try dsimp only); first | assumption | exact hSof _ (zbA hHeld6.1 hHeld6.1.size _) | exact hSof _ (zbD (zbR _ _))
      clear hK K hHeld6
      try simp only [Act.put, zl, z0, z1]
      refine tL (v := ?_) 16 rfl (by kernel_rfl) (fun _ _ _ h => hp _ _ _ _ _ h) (Or.inl ⟨by rfl, ?_⟩) (by assumption) ?_; rotate_left
      · (intro w hSw; (try dsimp only at hSw); go_simp; try with_reducible rfl)
      try simp only [Act.put, zl, z0, z1]
      refine wpAnyH_done (by kernel_rfl) ?_ _
      have hBf := hSn.1
      (try dsimp only [Act.put, List.getElem_toArray, List.getElem_cons_succ, List.getElem_cons_zero])
      (try simp only [zl, z0, z1])
      exact hK _ _ _ _ _ _ _ _ _ _ _ _ _  _ _ _ _ HO10 HR9 HGL (hide hBf)
  refine consL 13 rfl (fun K hK => ?_) AllReadyH.nil
  focus
    (go_simp; (first | refine cap_alloc (K := K) (O := (.cells #[.int .i64 0, .int .i64 0] 64 (0, 0))) (fun hG hb hle => ?_) | refine cap_allocD (K := K) (O := (.cells #[.int .i64 0, .int .i64 0] 64 (0, 0))) (fun hG hb hle => ?_)); (try replace HG := hide ((hb.block _ (blk_lt HG.out)).trans HG.out)); (try replace HN1 := hide ((hb.block _ (blk_lt HN1.out)).trans HN1.out)); (try replace HT1 := hide ((hb.block _ (blk_lt HT1.out)).trans HT1.out)); (try replace HO2 := hide (owns_below HO2.out hb)); (try replace HO3 := hide (owns_below HO3.out hb)); (try replace HO9 := hide (owns_below HO9.out hb)); replace hle := Nat.le_trans (show W1.heap.size ≤ _ from hHeld0.1.size) hle; (try simp only [World.size_alloc, drew_size] at hG); (try simp only [World.size_alloc, drew_size] at hle); have HG := hide hG; have HGL := hide hle; clear hG hle hb)
    refine hK.out _ _ ?_ (fun hHeld1 => ?_)
    · (try dsimp only); first | assumption | exact hSof _ (zbA hHeld0.1 hHeld0.1.size _) | exact hSof _ (zbD (zbR _ _))
    clear hK K hHeld0
    try simp only [Act.put, zl, z0, z1]
    refine wpAnyH_ready (rs := [2, 6]) (by kernel_rfl) (by simp) ?_
    refine consL 2 rfl (fun K hK => ?_) ?_
    · skip
      (go_simp; (first | refine cap_alloc (K := K) (O := (.cells #[.int .i64 1, .int .i64 0, .int .i64 0, .int .i64 0, .slice none 0 0, .int .i64 0, .int .i64 0, .int .i64 0, .int .i64 0, .int .i64 0, .int .i64 0, .int .i64 0, .int .i64 0, .int .i64 0] 66 (0, 0))) (fun hG hb hle => ?_) | refine cap_allocD (K := K) (O := (.cells #[.int .i64 1, .int .i64 0, .int .i64 0, .int .i64 0, .slice none 0 0, .int .i64 0, .int .i64 0, .int .i64 0, .int .i64 0, .int .i64 0, .int .i64 0, .int .i64 0, .int .i64 0, .int .i64 0] 66 (0, 0))) (fun hG hb hle => ?_)); (try replace HG := hide ((hb.block _ (blk_lt HG.out)).trans HG.out)); (try replace HN1 := hide ((hb.block _ (blk_lt HN1.out)).trans HN1.out)); (try replace HT1 := hide ((hb.block _ (blk_lt HT1.out)).trans HT1.out)); (try replace HO2 := hide (owns_below HO2.out hb)); (try replace HO3 := hide (owns_below HO3.out hb)); (try replace HO9 := hide (owns_below HO9.out hb)); replace hle := Nat.le_trans (show W1.heap.size ≤ _ from hHeld1.1.size) hle; (try simp only [World.size_alloc, drew_size] at hG); (try simp only [World.size_alloc, drew_size] at hle); have HN1 := hide hG; have HN1L := hide hle; clear hG hle hb)
      refine hK.out _ _ ?_ (fun hHeld2 => ?_)
      · (try dsimp only); first | assumption | exact hSof _ (zbA hHeld1.1 hHeld1.1.size _) | exact hSof _ (zbD (zbR _ _))
      clear hK K hHeld1
      try simp only [Act.put, zl, z0, z1]
      refine wpAnyH_ready (rs := [4, 6]) (by kernel_rfl) (by simp) ?_
      refine consL 4 rfl (fun K hK => ?_) ?_
      · skip
        (refine step_app_aps rfl (.tmp 233) (.tmp 234) rfl W1.heap.size _ [L.apNew] 1 rfl (own_new HN1.out HN1L.out) A n c l rfl HN.out ((HRL.out.below (show Below W1.heap.size W1 _ from hHeld2.1)).mono (show W1.heap.size ≤ _ from hHeld2.1.size)) HA.out (by omega) (by omega) (show W1.heap.size ≤ _ from hHeld2.1.size) (n + 1) (by omega) ?_; intro A2 c2 w9 hown2 hgrow; have hBn := (show Below W1.heap.size W1 _ from hHeld2.1).trans (grown_below (B := W1.heap.size) hgrow (show W1.heap.size ≤ _ from hHeld2.1.size) (fun g hg => by have h := Option.some.inj hg; subst h; exact HN1L.out)); (try replace HG := hide ((hgrow.block _ (blk_lt HG.out) (Ne.symm (row_ne (own_new HN1.out HN1L.out) HG.out (by decide)))).trans HG.out)); (try replace HT1 := hide ((hgrow.block _ (blk_lt HT1.out) (fun e => by have h := Option.some.inj e; (try dsimp only at h); first | omega | (simp at h; done) | (simp at h; omega))).trans HT1.out)); have HO2 := hide hown2; have hSn := hSof _ hBn; (try dsimp only at hSn); clear hown2 hgrow hBn)
        refine hK.out _ _ ?_ (fun hHeld3 => ?_)
        · (try dsimp only); first | assumption | exact hSof _ (zbA hHeld2.1 hHeld2.1.size _) | exact hSof _ (zbD (zbR _ _))
        clear hK K hHeld2
        try simp only [Act.put, zl, z0, z1]
        refine wpAnyH_ready (rs := [6]) (by kernel_rfl) (by simp) ?_
        refine consL 6 rfl (fun K hK => ?_) AllReadyH.nil
        (go_simp; (first | refine cap_alloc (K := K) (O := (.cells #[.int .i64 2, .int .i64 0, .int .i64 0, .int .i64 0, .slice none 0 0, .int .i64 0, .int .i64 0, .int .i64 0, .int .i64 0, .int .i64 0, .int .i64 0, .int .i64 0, .int .i64 0, .int .i64 0] 66 (0, 0))) (fun hG hb hle => ?_) | refine cap_allocD (K := K) (O := (.cells #[.int .i64 2, .int .i64 0, .int .i64 0, .int .i64 0, .slice none 0 0, .int .i64 0, .int .i64 0, .int .i64 0, .int .i64 0, .int .i64 0, .int .i64 0, .int .i64 0, .int .i64 0, .int .i64 0] 66 (0, 0))) (fun hG hb hle => ?_)); (try replace HG := hide ((hb.block _ (blk_lt HG.out)).trans HG.out)); (try replace HN1 := hide ((hb.block _ (blk_lt HN1.out)).trans HN1.out)); (try replace HT1 := hide ((hb.block _ (blk_lt HT1.out)).trans HT1.out)); (try replace HO2 := hide (owns_below HO2.out hb)); (try replace HO3 := hide (owns_below HO3.out hb)); (try replace HO9 := hide (owns_below HO9.out hb)); replace hle := Nat.le_trans (show W1.heap.size ≤ _ from hHeld3.1.size) hle; (try simp only [World.size_alloc, drew_size] at hG); (try simp only [World.size_alloc, drew_size] at hle); have HT1 := hide hG; have HT1L := hide hle; clear hG hle hb)
        refine hK.out _ _ ?_ (fun hHeld4 => ?_)
        · (try dsimp only); first | assumption | exact hSof _ (zbA hHeld3.1 hHeld3.1.size _) | exact hSof _ (zbD (zbR _ _))
        clear hK K hHeld3
        try simp only [Act.put, zl, z0, z1]
        refine wpAnyH_ready (rs := [7]) (by kernel_rfl) (by simp) ?_
        refine consL 7 rfl (fun K hK => ?_) AllReadyH.nil
        (refine step_app_aps rfl (.tmp 235) (.tmp 237) rfl W1.heap.size _ ([L.apNew] ++ l) (n + 1) rfl HO2.out (some ⟨_, 0, none⟩) 1 1 [L.apTie] rfl rfl (rdA_one HT1.out rfl (apTie_rd _ _) (fun _ => rfl)) (fun e => by cases e) (by omega) (by omega) (show W1.heap.size ≤ _ from hHeld4.1.size) (n + 2) (by omega) ?_; intro A3 c3 w11 hown2 hgrow; have hBn := (show Below W1.heap.size W1 _ from hHeld4.1).trans (grown_below (B := W1.heap.size) hgrow (show W1.heap.size ≤ _ from hHeld4.1.size) (fun g hg => (HO2.out.lt g hg).1)); (try replace HG := hide ((hgrow.block _ (blk_lt HG.out) (Ne.symm (row_ne HO2.out HG.out (by decide)))).trans HG.out)); have HO3 := hide hown2; have hSn := hSof _ hBn; (try dsimp only at hSn); clear hown2 hgrow hBn)
        refine hK.out _ _ ?_ (fun hHeld5 => ?_)
        · (try dsimp only); first | assumption | exact hSof _ (zbA hHeld4.1 hHeld4.1.size _) | exact hSof _ (zbD (zbR _ _))
        clear hK K hHeld4
        try simp only [Act.put, zl, z0, z1]
        refine wpAnyH_ready (rs := [8]) (by kernel_rfl) (by simp) ?_
        refine consL 8 rfl (fun K hK => ?_) AllReadyH.nil
        go_simp
        ((go_at_call 33; refine (run_cnt2 each more l s HCF.out A3 n c3 W1.heap.size _ HN.out HO3.out ((HRL.out.below (show Below W1.heap.size W1 _ from hHeld5.1)).mono (show W1.heap.size ≤ _ from hHeld5.1.size)).ins).mono ?_; rintro e w10 ⟨sv10, c10, rfl, ho10, hb⟩; have hBn := (show Below W1.heap.size W1 _ from hHeld5.1).trans (hb.mono (show W1.heap.size ≤ _ from hHeld5.1.size)); (try replace HG := hide ((hb.block _ (blk_lt HG.out)).trans HG.out)); have HO9 := hide (owns_mono (base' := W1.heap.size) ho10 (show W1.heap.size ≤ _ from hHeld5.1.size)); have hSn := hSof _ hBn; (try dsimp only at hSn); clear ho10 hBn))
        refine hK.out _ _ ?_ (fun hHeld6 => ?_)
        · (try dsimp only); first | assumption | exact hSof _ (zbA hHeld5.1 hHeld5.1.size _) | exact hSof _ (zbD (zbR _ _))
        clear hK K hHeld5
        try simp only [Act.put, zl, z0, z1]
        refine tL (v := ?_) 9 rfl (by kernel_rfl) (fun _ _ _ h => hp _ _ _ _ _ h) (Or.inl ⟨by rfl, ?_⟩) (by assumption) ?_; rotate_left
        · (intro w hSw; (try dsimp only at hSw); go_simp; try with_reducible rfl)
        try simp only [Act.put, zl, z0, z1]
        refine tL (v := ?_) 10 rfl (by kernel_rfl) (fun _ _ _ h => hp _ _ _ _ _ h) (Or.inl ⟨by rfl, ?_⟩) (by assumption) ?_; rotate_left
        · (intro w hSw; (try dsimp only at hSw); go_simp; try with_reducible rfl)
        try simp only [Act.put, zl, z0, z1]
        refine tL (v := ?_) 11 rfl (by kernel_rfl) (fun _ _ _ h => hp _ _ _ _ _ h) (Or.inl ⟨by rfl, ?_⟩) (by assumption) ?_; rotate_left
        · (intro w hSw; (try dsimp only at hSw); go_simp; try with_reducible rfl)
        try simp only [Act.put, zl, z0, z1]
        refine tL (v := ?_) 12 rfl (by kernel_rfl) (fun _ _ _ h => hp _ _ _ _ _ h) (Or.inl ⟨by rfl, ?_⟩) (by assumption) ?_; rotate_left
        · (intro w hSw; (try dsimp only at hSw); go_simp; try with_reducible rfl)
        try simp only [Act.put, zl, z0, z1]
        refine tL (v := ?_) 14 rfl (by kernel_rfl) (fun _ _ _ h => hp _ _ _ _ _ h) (Or.inl ⟨by rfl, ?_⟩) (by assumption) ?_; rotate_left
        · (intro w hSw; (try dsimp only at hSw); go_simp; try with_reducible rfl)
        try simp only [Act.put, zl, z0, z1]
        refine wpAnyH_ready (rs := [15]) (by kernel_rfl) (by simp) ?_
        refine consL 15 rfl (fun K hK => ?_) AllReadyH.nil
        (refine step_row_count rfl 64 (.tmp 17) (.tmp 241) rfl _ _ rfl rfl 64 _ HG.out arrRow rfl (by simp [Value.oneCell']) ?_; have hr := setRow_heap _ _ _ (#[.int .i64 (s.l0 + more), .int .i64 (s.l1 + more)]) _ _ HG.out; have ho := HO9.out.kept (setRow_grown _ _ (#[.int .i64 (s.l0 + more), .int .i64 (s.l1 + more)])) (.inr (row_ne HO9.out HG.out (by decide))); have hSn := hSof _ (below_row (show Below W1.heap.size W1 _ from hHeld6.1) HGL.out (#[.int .i64 (s.l0 + more), .int .i64 (s.l1 + more)])); refine cap_gen (K := K) (fun W9 hW9 => ?_); rw [← hW9] at hr ho hSn; have HR9 := hide hr; have HO10 := hide ho; clear hr ho hW9; (try dsimp only at hSn))
        refine hK.out _ _ ?_ (fun hHeld7 => ?_)
        · (try dsimp only); first | assumption | exact hSof _ (zbA hHeld6.1 hHeld6.1.size _) | exact hSof _ (zbD (zbR _ _))
        clear hK K hHeld6
        try simp only [Act.put, zl, z0, z1]
        refine tL (v := ?_) 16 rfl (by kernel_rfl) (fun _ _ _ h => hp _ _ _ _ _ h) (Or.inl ⟨by rfl, ?_⟩) (by assumption) ?_; rotate_left
        · (intro w hSw; (try dsimp only at hSw); go_simp; try with_reducible rfl)
        try simp only [Act.put, zl, z0, z1]
        refine wpAnyH_done (by kernel_rfl) ?_ _
        have hBf := hSn.1
        (try dsimp only [Act.put, List.getElem_toArray, List.getElem_cons_succ, List.getElem_cons_zero])
        (try simp only [zl, z0, z1])
        exact hK _ _ _ _ _ _ _ _ _ _ _ _ _  _ _ _ _ HO10 HR9 HGL (hide hBf)
      refine consL 6 rfl (fun K hK => ?_) AllReadyH.nil
      focus
        (go_simp; (first | refine cap_alloc (K := K) (O := (.cells #[.int .i64 2, .int .i64 0, .int .i64 0, .int .i64 0, .slice none 0 0, .int .i64 0, .int .i64 0, .int .i64 0, .int .i64 0, .int .i64 0, .int .i64 0, .int .i64 0, .int .i64 0, .int .i64 0] 66 (0, 0))) (fun hG hb hle => ?_) | refine cap_allocD (K := K) (O := (.cells #[.int .i64 2, .int .i64 0, .int .i64 0, .int .i64 0, .slice none 0 0, .int .i64 0, .int .i64 0, .int .i64 0, .int .i64 0, .int .i64 0, .int .i64 0, .int .i64 0, .int .i64 0, .int .i64 0] 66 (0, 0))) (fun hG hb hle => ?_)); (try replace HG := hide ((hb.block _ (blk_lt HG.out)).trans HG.out)); (try replace HN1 := hide ((hb.block _ (blk_lt HN1.out)).trans HN1.out)); (try replace HT1 := hide ((hb.block _ (blk_lt HT1.out)).trans HT1.out)); (try replace HO2 := hide (owns_below HO2.out hb)); (try replace HO3 := hide (owns_below HO3.out hb)); (try replace HO9 := hide (owns_below HO9.out hb)); replace hle := Nat.le_trans (show W1.heap.size ≤ _ from hHeld2.1.size) hle; (try simp only [World.size_alloc, drew_size] at hG); (try simp only [World.size_alloc, drew_size] at hle); have HT1 := hide hG; have HT1L := hide hle; clear hG hle hb)
        refine hK.out _ _ ?_ (fun hHeld3 => ?_)
        · (try dsimp only); first | assumption | exact hSof _ (zbA hHeld2.1 hHeld2.1.size _) | exact hSof _ (zbD (zbR _ _))
        clear hK K hHeld2
        try simp only [Act.put, zl, z0, z1]
        refine wpAnyH_ready (rs := [4]) (by kernel_rfl) (by simp) ?_
        refine consL 4 rfl (fun K hK => ?_) AllReadyH.nil
        (refine step_app_aps rfl (.tmp 233) (.tmp 234) rfl W1.heap.size _ [L.apNew] 1 rfl (own_new HN1.out HN1L.out) A n c l rfl HN.out ((HRL.out.below (show Below W1.heap.size W1 _ from hHeld3.1)).mono (show W1.heap.size ≤ _ from hHeld3.1.size)) HA.out (by omega) (by omega) (show W1.heap.size ≤ _ from hHeld3.1.size) (n + 1) (by omega) ?_; intro A2 c2 w9 hown2 hgrow; have hBn := (show Below W1.heap.size W1 _ from hHeld3.1).trans (grown_below (B := W1.heap.size) hgrow (show W1.heap.size ≤ _ from hHeld3.1.size) (fun g hg => by have h := Option.some.inj hg; subst h; exact HN1L.out)); (try replace HG := hide ((hgrow.block _ (blk_lt HG.out) (Ne.symm (row_ne (own_new HN1.out HN1L.out) HG.out (by decide)))).trans HG.out)); (try replace HT1 := hide ((hgrow.block _ (blk_lt HT1.out) (fun e => by have h := Option.some.inj e; (try dsimp only at h); first | omega | (simp at h; done) | (simp at h; omega))).trans HT1.out)); have HO2 := hide hown2; have hSn := hSof _ hBn; (try dsimp only at hSn); clear hown2 hgrow hBn)
        refine hK.out _ _ ?_ (fun hHeld4 => ?_)
        · (try dsimp only); first | assumption | exact hSof _ (zbA hHeld3.1 hHeld3.1.size _) | exact hSof _ (zbD (zbR _ _))
        clear hK K hHeld3
        try simp only [Act.put, zl, z0, z1]
        refine wpAnyH_ready (rs := [7]) (by kernel_rfl) (by simp) ?_
        refine consL 7 rfl (fun K hK => ?_) AllReadyH.nil
        (refine step_app_aps rfl (.tmp 235) (.tmp 237) rfl W1.heap.size _ ([L.apNew] ++ l) (n + 1) rfl HO2.out (some ⟨_, 0, none⟩) 1 1 [L.apTie] rfl rfl (rdA_one HT1.out rfl (apTie_rd _ _) (fun _ => rfl)) (fun e => by cases e) (by omega) (by omega) (show W1.heap.size ≤ _ from hHeld4.1.size) (n + 2) (by omega) ?_; intro A3 c3 w11 hown2 hgrow; have hBn := (show Below W1.heap.size W1 _ from hHeld4.1).trans (grown_below (B := W1.heap.size) hgrow (show W1.heap.size ≤ _ from hHeld4.1.size) (fun g hg => (HO2.out.lt g hg).1)); (try replace HG := hide ((hgrow.block _ (blk_lt HG.out) (Ne.symm (row_ne HO2.out HG.out (by decide)))).trans HG.out)); have HO3 := hide hown2; have hSn := hSof _ hBn; (try dsimp only at hSn); clear hown2 hgrow hBn)
        refine hK.out _ _ ?_ (fun hHeld5 => ?_)
        · (try dsimp only); first | assumption | exact hSof _ (zbA hHeld4.1 hHeld4.1.size _) | exact hSof _ (zbD (zbR _ _))
        clear hK K hHeld4
        try simp only [Act.put, zl, z0, z1]
        refine wpAnyH_ready (rs := [8]) (by kernel_rfl) (by simp) ?_
        refine consL 8 rfl (fun K hK => ?_) AllReadyH.nil
        go_simp
        ((go_at_call 33; refine (run_cnt2 each more l s HCF.out A3 n c3 W1.heap.size _ HN.out HO3.out ((HRL.out.below (show Below W1.heap.size W1 _ from hHeld5.1)).mono (show W1.heap.size ≤ _ from hHeld5.1.size)).ins).mono ?_; rintro e w10 ⟨sv10, c10, rfl, ho10, hb⟩; have hBn := (show Below W1.heap.size W1 _ from hHeld5.1).trans (hb.mono (show W1.heap.size ≤ _ from hHeld5.1.size)); (try replace HG := hide ((hb.block _ (blk_lt HG.out)).trans HG.out)); have HO9 := hide (owns_mono (base' := W1.heap.size) ho10 (show W1.heap.size ≤ _ from hHeld5.1.size)); have hSn := hSof _ hBn; (try dsimp only at hSn); clear ho10 hBn))
        refine hK.out _ _ ?_ (fun hHeld6 => ?_)
        · (try dsimp only); first | assumption | exact hSof _ (zbA hHeld5.1 hHeld5.1.size _) | exact hSof _ (zbD (zbR _ _))
        clear hK K hHeld5
        try simp only [Act.put, zl, z0, z1]
        refine tL (v := ?_) 9 rfl (by kernel_rfl) (fun _ _ _ h => hp _ _ _ _ _ h) (Or.inl ⟨by rfl, ?_⟩) (by assumption) ?_; rotate_left
        · (intro w hSw; (try dsimp only at hSw); go_simp; try with_reducible rfl)
        try simp only [Act.put, zl, z0, z1]
        refine tL (v := ?_) 10 rfl (by kernel_rfl) (fun _ _ _ h => hp _ _ _ _ _ h) (Or.inl ⟨by rfl, ?_⟩) (by assumption) ?_; rotate_left
        · (intro w hSw; (try dsimp only at hSw); go_simp; try with_reducible rfl)
        try simp only [Act.put, zl, z0, z1]
        refine tL (v := ?_) 11 rfl (by kernel_rfl) (fun _ _ _ h => hp _ _ _ _ _ h) (Or.inl ⟨by rfl, ?_⟩) (by assumption) ?_; rotate_left
        · (intro w hSw; (try dsimp only at hSw); go_simp; try with_reducible rfl)
        try simp only [Act.put, zl, z0, z1]
        refine tL (v := ?_) 12 rfl (by kernel_rfl) (fun _ _ _ h => hp _ _ _ _ _ h) (Or.inl ⟨by rfl, ?_⟩) (by assumption) ?_; rotate_left
        · (intro w hSw; (try dsimp only at hSw); go_simp; try with_reducible rfl)
        try simp only [Act.put, zl, z0, z1]
        refine tL (v := ?_) 14 rfl (by kernel_rfl) (fun _ _ _ h => hp _ _ _ _ _ h) (Or.inl ⟨by rfl, ?_⟩) (by assumption) ?_; rotate_left
        · (intro w hSw; (try dsimp only at hSw); go_simp; try with_reducible rfl)
        try simp only [Act.put, zl, z0, z1]
        refine wpAnyH_ready (rs := [15]) (by kernel_rfl) (by simp) ?_
        refine consL 15 rfl (fun K hK => ?_) AllReadyH.nil
        (refine step_row_count rfl 64 (.tmp 17) (.tmp 241) rfl _ _ rfl rfl 64 _ HG.out arrRow rfl (by simp [Value.oneCell']) ?_; have hr := setRow_heap _ _ _ (#[.int .i64 (s.l0 + more), .int .i64 (s.l1 + more)]) _ _ HG.out; have ho := HO9.out.kept (setRow_grown _ _ (#[.int .i64 (s.l0 + more), .int .i64 (s.l1 + more)])) (.inr (row_ne HO9.out HG.out (by decide))); have hSn := hSof _ (below_row (show Below W1.heap.size W1 _ from hHeld6.1) HGL.out (#[.int .i64 (s.l0 + more), .int .i64 (s.l1 + more)])); refine cap_gen (K := K) (fun W9 hW9 => ?_); rw [← hW9] at hr ho hSn; have HR9 := hide hr; have HO10 := hide ho; clear hr ho hW9; (try dsimp only at hSn))
        refine hK.out _ _ ?_ (fun hHeld7 => ?_)
        · (try dsimp only); first | assumption | exact hSof _ (zbA hHeld6.1 hHeld6.1.size _) | exact hSof _ (zbD (zbR _ _))
        clear hK K hHeld6
        try simp only [Act.put, zl, z0, z1]
        refine tL (v := ?_) 16 rfl (by kernel_rfl) (fun _ _ _ h => hp _ _ _ _ _ h) (Or.inl ⟨by rfl, ?_⟩) (by assumption) ?_; rotate_left
        · (intro w hSw; (try dsimp only at hSw); go_simp; try with_reducible rfl)
        try simp only [Act.put, zl, z0, z1]
        refine wpAnyH_done (by kernel_rfl) ?_ _
        have hBf := hSn.1
        (try dsimp only [Act.put, List.getElem_toArray, List.getElem_cons_succ, List.getElem_cons_zero])
        (try simp only [zl, z0, z1])
        exact hK _ _ _ _ _ _ _ _ _ _ _ _ _  _ _ _ _ HO10 HR9 HGL (hide hBf)
    refine consL 6 rfl (fun K hK => ?_) AllReadyH.nil
    focus
      (go_simp; (first | refine cap_alloc (K := K) (O := (.cells #[.int .i64 2, .int .i64 0, .int .i64 0, .int .i64 0, .slice none 0 0, .int .i64 0, .int .i64 0, .int .i64 0, .int .i64 0, .int .i64 0, .int .i64 0, .int .i64 0, .int .i64 0, .int .i64 0] 66 (0, 0))) (fun hG hb hle => ?_) | refine cap_allocD (K := K) (O := (.cells #[.int .i64 2, .int .i64 0, .int .i64 0, .int .i64 0, .slice none 0 0, .int .i64 0, .int .i64 0, .int .i64 0, .int .i64 0, .int .i64 0, .int .i64 0, .int .i64 0, .int .i64 0, .int .i64 0] 66 (0, 0))) (fun hG hb hle => ?_)); (try replace HG := hide ((hb.block _ (blk_lt HG.out)).trans HG.out)); (try replace HN1 := hide ((hb.block _ (blk_lt HN1.out)).trans HN1.out)); (try replace HT1 := hide ((hb.block _ (blk_lt HT1.out)).trans HT1.out)); (try replace HO2 := hide (owns_below HO2.out hb)); (try replace HO3 := hide (owns_below HO3.out hb)); (try replace HO9 := hide (owns_below HO9.out hb)); replace hle := Nat.le_trans (show W1.heap.size ≤ _ from hHeld1.1.size) hle; (try simp only [World.size_alloc, drew_size] at hG); (try simp only [World.size_alloc, drew_size] at hle); have HT1 := hide hG; have HT1L := hide hle; clear hG hle hb)
      refine hK.out _ _ ?_ (fun hHeld2 => ?_)
      · (try dsimp only); first | assumption | exact hSof _ (zbA hHeld1.1 hHeld1.1.size _) | exact hSof _ (zbD (zbR _ _))
      clear hK K hHeld1
      try simp only [Act.put, zl, z0, z1]
      refine wpAnyH_ready (rs := [2]) (by kernel_rfl) (by simp) ?_
      refine consL 2 rfl (fun K hK => ?_) AllReadyH.nil
      (go_simp; (first | refine cap_alloc (K := K) (O := (.cells #[.int .i64 1, .int .i64 0, .int .i64 0, .int .i64 0, .slice none 0 0, .int .i64 0, .int .i64 0, .int .i64 0, .int .i64 0, .int .i64 0, .int .i64 0, .int .i64 0, .int .i64 0, .int .i64 0] 66 (0, 0))) (fun hG hb hle => ?_) | refine cap_allocD (K := K) (O := (.cells #[.int .i64 1, .int .i64 0, .int .i64 0, .int .i64 0, .slice none 0 0, .int .i64 0, .int .i64 0, .int .i64 0, .int .i64 0, .int .i64 0, .int .i64 0, .int .i64 0, .int .i64 0, .int .i64 0] 66 (0, 0))) (fun hG hb hle => ?_)); (try replace HG := hide ((hb.block _ (blk_lt HG.out)).trans HG.out)); (try replace HN1 := hide ((hb.block _ (blk_lt HN1.out)).trans HN1.out)); (try replace HT1 := hide ((hb.block _ (blk_lt HT1.out)).trans HT1.out)); (try replace HO2 := hide (owns_below HO2.out hb)); (try replace HO3 := hide (owns_below HO3.out hb)); (try replace HO9 := hide (owns_below HO9.out hb)); replace hle := Nat.le_trans (show W1.heap.size ≤ _ from hHeld2.1.size) hle; (try simp only [World.size_alloc, drew_size] at hG); (try simp only [World.size_alloc, drew_size] at hle); have HN1 := hide hG; have HN1L := hide hle; clear hG hle hb)
      refine hK.out _ _ ?_ (fun hHeld3 => ?_)
      · (try dsimp only); first | assumption | exact hSof _ (zbA hHeld2.1 hHeld2.1.size _) | exact hSof _ (zbD (zbR _ _))
      clear hK K hHeld2
      try simp only [Act.put, zl, z0, z1]
      refine wpAnyH_ready (rs := [4]) (by kernel_rfl) (by simp) ?_
      refine consL 4 rfl (fun K hK => ?_) AllReadyH.nil
      (refine step_app_aps rfl (.tmp 233) (.tmp 234) rfl W1.heap.size _ [L.apNew] 1 rfl (own_new HN1.out HN1L.out) A n c l rfl HN.out ((HRL.out.below (show Below W1.heap.size W1 _ from hHeld3.1)).mono (show W1.heap.size ≤ _ from hHeld3.1.size)) HA.out (by omega) (by omega) (show W1.heap.size ≤ _ from hHeld3.1.size) (n + 1) (by omega) ?_; intro A2 c2 w9 hown2 hgrow; have hBn := (show Below W1.heap.size W1 _ from hHeld3.1).trans (grown_below (B := W1.heap.size) hgrow (show W1.heap.size ≤ _ from hHeld3.1.size) (fun g hg => by have h := Option.some.inj hg; subst h; exact HN1L.out)); (try replace HG := hide ((hgrow.block _ (blk_lt HG.out) (Ne.symm (row_ne (own_new HN1.out HN1L.out) HG.out (by decide)))).trans HG.out)); (try replace HT1 := hide ((hgrow.block _ (blk_lt HT1.out) (fun e => by have h := Option.some.inj e; (try dsimp only at h); first | omega | (simp at h; done) | (simp at h; omega))).trans HT1.out)); have HO2 := hide hown2; have hSn := hSof _ hBn; (try dsimp only at hSn); clear hown2 hgrow hBn)
      refine hK.out _ _ ?_ (fun hHeld4 => ?_)
      · (try dsimp only); first | assumption | exact hSof _ (zbA hHeld3.1 hHeld3.1.size _) | exact hSof _ (zbD (zbR _ _))
      clear hK K hHeld3
      try simp only [Act.put, zl, z0, z1]
      refine wpAnyH_ready (rs := [7]) (by kernel_rfl) (by simp) ?_
      refine consL 7 rfl (fun K hK => ?_) AllReadyH.nil
      (refine step_app_aps rfl (.tmp 235) (.tmp 237) rfl W1.heap.size _ ([L.apNew] ++ l) (n + 1) rfl HO2.out (some ⟨_, 0, none⟩) 1 1 [L.apTie] rfl rfl (rdA_one HT1.out rfl (apTie_rd _ _) (fun _ => rfl)) (fun e => by cases e) (by omega) (by omega) (show W1.heap.size ≤ _ from hHeld4.1.size) (n + 2) (by omega) ?_; intro A3 c3 w11 hown2 hgrow; have hBn := (show Below W1.heap.size W1 _ from hHeld4.1).trans (grown_below (B := W1.heap.size) hgrow (show W1.heap.size ≤ _ from hHeld4.1.size) (fun g hg => (HO2.out.lt g hg).1)); (try replace HG := hide ((hgrow.block _ (blk_lt HG.out) (Ne.symm (row_ne HO2.out HG.out (by decide)))).trans HG.out)); have HO3 := hide hown2; have hSn := hSof _ hBn; (try dsimp only at hSn); clear hown2 hgrow hBn)
      refine hK.out _ _ ?_ (fun hHeld5 => ?_)
      · (try dsimp only); first | assumption | exact hSof _ (zbA hHeld4.1 hHeld4.1.size _) | exact hSof _ (zbD (zbR _ _))
      clear hK K hHeld4
      try simp only [Act.put, zl, z0, z1]
      refine wpAnyH_ready (rs := [8]) (by kernel_rfl) (by simp) ?_
      refine consL 8 rfl (fun K hK => ?_) AllReadyH.nil
      go_simp
      ((go_at_call 33; refine (run_cnt2 each more l s HCF.out A3 n c3 W1.heap.size _ HN.out HO3.out ((HRL.out.below (show Below W1.heap.size W1 _ from hHeld5.1)).mono (show W1.heap.size ≤ _ from hHeld5.1.size)).ins).mono ?_; rintro e w10 ⟨sv10, c10, rfl, ho10, hb⟩; have hBn := (show Below W1.heap.size W1 _ from hHeld5.1).trans (hb.mono (show W1.heap.size ≤ _ from hHeld5.1.size)); (try replace HG := hide ((hb.block _ (blk_lt HG.out)).trans HG.out)); have HO9 := hide (owns_mono (base' := W1.heap.size) ho10 (show W1.heap.size ≤ _ from hHeld5.1.size)); have hSn := hSof _ hBn; (try dsimp only at hSn); clear ho10 hBn))
      refine hK.out _ _ ?_ (fun hHeld6 => ?_)
      · (try dsimp only); first | assumption | exact hSof _ (zbA hHeld5.1 hHeld5.1.size _) | exact hSof _ (zbD (zbR _ _))
      clear hK K hHeld5
      try simp only [Act.put, zl, z0, z1]
      refine tL (v := ?_) 9 rfl (by kernel_rfl) (fun _ _ _ h => hp _ _ _ _ _ h) (Or.inl ⟨by rfl, ?_⟩) (by assumption) ?_; rotate_left
      · (intro w hSw; (try dsimp only at hSw); go_simp; try with_reducible rfl)
      try simp only [Act.put, zl, z0, z1]
      refine tL (v := ?_) 10 rfl (by kernel_rfl) (fun _ _ _ h => hp _ _ _ _ _ h) (Or.inl ⟨by rfl, ?_⟩) (by assumption) ?_; rotate_left
      · (intro w hSw; (try dsimp only at hSw); go_simp; try with_reducible rfl)
      try simp only [Act.put, zl, z0, z1]
      refine tL (v := ?_) 11 rfl (by kernel_rfl) (fun _ _ _ h => hp _ _ _ _ _ h) (Or.inl ⟨by rfl, ?_⟩) (by assumption) ?_; rotate_left
      · (intro w hSw; (try dsimp only at hSw); go_simp; try with_reducible rfl)
      try simp only [Act.put, zl, z0, z1]
      refine tL (v := ?_) 12 rfl (by kernel_rfl) (fun _ _ _ h => hp _ _ _ _ _ h) (Or.inl ⟨by rfl, ?_⟩) (by assumption) ?_; rotate_left
      · (intro w hSw; (try dsimp only at hSw); go_simp; try with_reducible rfl)
      try simp only [Act.put, zl, z0, z1]
      refine tL (v := ?_) 14 rfl (by kernel_rfl) (fun _ _ _ h => hp _ _ _ _ _ h) (Or.inl ⟨by rfl, ?_⟩) (by assumption) ?_; rotate_left
      · (intro w hSw; (try dsimp only at hSw); go_simp; try with_reducible rfl)
      try simp only [Act.put, zl, z0, z1]
      refine wpAnyH_ready (rs := [15]) (by kernel_rfl) (by simp) ?_
      refine consL 15 rfl (fun K hK => ?_) AllReadyH.nil
      (refine step_row_count rfl 64 (.tmp 17) (.tmp 241) rfl _ _ rfl rfl 64 _ HG.out arrRow rfl (by simp [Value.oneCell']) ?_; have hr := setRow_heap _ _ _ (#[.int .i64 (s.l0 + more), .int .i64 (s.l1 + more)]) _ _ HG.out; have ho := HO9.out.kept (setRow_grown _ _ (#[.int .i64 (s.l0 + more), .int .i64 (s.l1 + more)])) (.inr (row_ne HO9.out HG.out (by decide))); have hSn := hSof _ (below_row (show Below W1.heap.size W1 _ from hHeld6.1) HGL.out (#[.int .i64 (s.l0 + more), .int .i64 (s.l1 + more)])); refine cap_gen (K := K) (fun W9 hW9 => ?_); rw [← hW9] at hr ho hSn; have HR9 := hide hr; have HO10 := hide ho; clear hr ho hW9; (try dsimp only at hSn))
      refine hK.out _ _ ?_ (fun hHeld7 => ?_)
      · (try dsimp only); first | assumption | exact hSof _ (zbA hHeld6.1 hHeld6.1.size _) | exact hSof _ (zbD (zbR _ _))
      clear hK K hHeld6
      try simp only [Act.put, zl, z0, z1]
      refine tL (v := ?_) 16 rfl (by kernel_rfl) (fun _ _ _ h => hp _ _ _ _ _ h) (Or.inl ⟨by rfl, ?_⟩) (by assumption) ?_; rotate_left
      · (intro w hSw; (try dsimp only at hSw); go_simp; try with_reducible rfl)
      try simp only [Act.put, zl, z0, z1]
      refine wpAnyH_done (by kernel_rfl) ?_ _
      have hBf := hSn.1
      (try dsimp only [Act.put, List.getElem_toArray, List.getElem_cons_succ, List.getElem_cons_zero])
      (try simp only [zl, z0, z1])
      exact hK _ _ _ _ _ _ _ _ _ _ _ _ _  _ _ _ _ HO10 HR9 HGL (hide hBf)

end Go.Proofs.Ytampfpnkkdihaaa
