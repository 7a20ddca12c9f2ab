/-
  Part of a claim's texts: contracts of the program's functions and the plain functions that they compute, in build order.
-/
import Derived.Test.YtampfpnkkdihaaaZB05
namespace Go.Proofs.Ytampfpnkkdihaaa
open Go.RowKit
attribute [local go_sem ↓] Go.wp_at_zero Go.wp_at_succ
attribute [local go_sem] run_eqA
set_option maxRecDepth 100000 in
set_option maxHeartbeats 64000000 in
theorem cnt8_kind {K : Act → World → Prop} {Q : Exit → Act → World → Prop} (hp : ∀ c a d v w, Q (.panic c) (Act.put a d v) w → Q (.panic c) a w) (a : L.Ap) (b o i n c : Nat) (W1 : World) (hi0 : (0 : Int) ≤ (i : Int)) (hlt' : (i : Int) < (n : Int)) (hn8 : (n : Int) ≤ 8) (lbr : b < W1.heap.size) (HLEN : Hid (a.v.ss.length = a.n)) (HRD : Hid (RdS W1 W1.heap.size a.A a.v.ss)) (c0 : W1.cell? ⟨b, o + i * 14, none⟩ = some (.int .i64 a.kind)) (c1 : W1.cell? ⟨b, o + i * 14 + 1, none⟩ = some (.int .i64 a.side)) (c2 : W1.cell? ⟨b, o + i * 14 + 2, none⟩ = some (.int .i64 a.said)) (c3 : W1.cell? ⟨b, o + i * 14 + 3, none⟩ = some (.int .i64 a.v.size)) (c4 : W1.cell? ⟨b, o + i * 14 + 4, none⟩ = some (.slice a.A a.n a.c)) (c5 : W1.cell? ⟨b, o + i * 14 + 5, none⟩ = some (.int .i64 a.v.wrong)) (c6 : W1.cell? ⟨b, o + i * 14 + 6, none⟩ = some (.int .i64 a.v.hxl)) (c7 : W1.cell? ⟨b, o + i * 14 + 7, none⟩ = some (.int .i64 a.v.hxh)) (c8 : W1.cell? ⟨b, o + i * 14 + 8, none⟩ = some (.int .i64 a.v.hyl)) (c9 : W1.cell? ⟨b, o + i * 14 + 9, none⟩ = some (.int .i64 a.v.hyh)) (c10 : W1.cell? ⟨b, o + i * 14 + 10, none⟩ = some (.int .i64 a.b.l)) (c11 : W1.cell? ⟨b, o + i * 14 + 11, none⟩ = some (.int .i64 a.b.r)) (c12 : W1.cell? ⟨b, o + i * 14 + 12, none⟩ = some (.int .i64 a.b.b)) (c13 : W1.cell? ⟨b, o + i * 14 + 13, none⟩ = some (.int .i64 a.b.t)) (d1 : (a.kind != 3) = true) (f0 f2 f3 f4 f5 f6 f8 f9 f10 f11 f12 f13 f14 f15 f16 f17 f18 f19 f20 f21 f22 f23 f24 f25 f26 f27 f28 f29 f30 f31 f32 f33 f34 f35 f36 f37 f38 f39 f40 f41 f42 f43 f44 f45 f46 f47 f48 f49 f50 f51 f52 f53 f54 f55 f56 f57 f58 f59 f60 f61 f62 f63 f64 f65 f66 f67 f68 f69 f70 f71 f72 f73 f74 f75 f76 f77 f78 f79 f80 f81 f82 f83 f84 f85 f86 f87 f88 f89 f90 f91 f92 f93 f94 f95 f96 f97 f98 f99 f100 f101 f102 f103 f104 f105 f106 f107 f108 f109 f110 f111 f112 f113 f114 f115 f116 f117 f118 f119 f120 f121 f122 f123 f124 f125 f126 f127 f128 f129 f130 f131 f132 f133 f134 f135 f136 f137 f138 f139 f140 f141 f142 f143 f144 f145 f146 f147 f148 f149 f150 f151 f152 f153 f154 f155 f156 f157 f158 f159 f160 f161 f162 f163 f164 f165 f166 f167 f168 f169 f170 f171 f172 f173 f174 f175 f176 f177 f178 f179 f180 f181 f182 f183 f184 f185 f186 f187 f188 f189 f190 f191 f192 f193 f194 f195 f196 f197 f198 f199 f200 f201 f202 f203 f204 f205 f206 f207 f208 f209 f210 f211 f212 f213 f214 f215 f216 f217 f218 f219 f220 f221 f222 f223 f224 f225 f226 f227 f228 f229 f230 f231 f232 f233 f234 f235 f236 f237 f238 f239 f240 f241 f242 f243 f244 f245 f246 f247 f248 f249 f250 f251 f252 f253 f254 f255 f256 f257 f258 f259 f260 f261 f262 f263 f264 f265 f266 f267 f268 f269 f270 f271 f272 f273 f274 f275 f276 f277 f278 f279 f280 f281 : Value)
    (hK : ∀ (u54 u55 u56 u57 u58 u59 u60 u61 u62 u63 u64 u65 u66 u67 u68 u69 u70 u71 u72 u73 u74 u75 u76 u77 u78 u79 u80 u81 u82 u83 u84 u85 u86 u87 u88 u89 u90 u91 u92 u93 u94 u95 u96 u97 u98 u99 u100 u101 u102 u103 u104 : Value) (w6 : World), Hid (Below W1.heap.size W1 w6) → K ⟨#[f0, .slice (some ⟨b, o, none⟩) n c, f2, f3, f4, f5, f6, .int .i64 (i : Int), f8, f9, f10, f11, f12, f13, f14, f15, f16, f17, f18, f19, f20, f21, f22, f23, f24, f25, f26, f27, f28, f29, f30, f31, f32, f33, f34, f35, f36, f37, f38, f39, f40, f41, f42, f43, f44, f45, f46, f47, f48, f49, f50, f51, f52, f53, u54, u55, u56, u57, u58, u59, u60, u61, u62, u63, u64, u65, u66, u67, u68, u69, u70, u71, u72, u73, u74, u75, u76, u77, u78, u79, u80, u81, u82, u83, u84, u85, u86, u87, u88, u89, u90, u91, u92, u93, u94, u95, u96, u97, u98, u99, u100, u101, u102, u103, u104, .bool true, f106, f107, f108, f109, f110, f111, f112, f113, f114, f115, f116, f117, f118, f119, f120, f121, f122, f123, f124, f125, f126, f127, f128, f129, f130, f131, f132, f133, f134, f135, f136, f137, f138, f139, f140, f141, f142, f143, f144, f145, f146, f147, f148, f149, f150, f151, f152, f153, f154, f155, f156, f157, f158, f159, f160, f161, f162, f163, f164, f165, f166, f167, f168, f169, f170, f171, f172, f173, f174, f175, f176, f177, f178, f179, f180, f181, f182, f183, f184, f185, f186, f187, f188, f189, f190, f191, f192, f193, f194, f195, f196, f197, f198, f199, f200, f201, f202, f203, f204, f205, f206, f207, f208, f209, f210, f211, f212, f213, f214, f215, f216, f217, f218, f219, f220, f221, f222, f223, f224, f225, f226, f227, f228, f229, f230, f231, f232, f233, f234, f235, f236, f237, f238, f239, f240, f241, f242, f243, f244, f245, f246, f247, f248, f249, f250, f251, f252, f253, f254, f255, f256, f257, f258, f259, f260, f261, f262, f263, f264, f265, f266, f267, f268, f269, f270, f271, f272, f273, f274, f275, f276, f277, f278, f279, f280, f281], []⟩ w6) :
    Code.wp Try.prog (cntReg 8) (Exit.then K Q) ⟨#[f0, .slice (some ⟨b, o, none⟩) n c, f2, f3, f4, f5, f6, .int .i64 (i : Int), f8, f9, f10, f11, f12, f13, f14, f15, f16, f17, f18, f19, f20, f21, f22, f23, f24, f25, f26, f27, f28, f29, f30, f31, f32, f33, f34, f35, f36, f37, f38, f39, f40, f41, f42, f43, f44, f45, f46, f47, f48, f49, f50, f51, f52, f53, f54, f55, f56, f57, f58, f59, f60, f61, f62, f63, f64, f65, f66, f67, f68, f69, f70, f71, f72, f73, f74, f75, f76, f77, f78, f79, f80, f81, f82, f83, f84, f85, f86, f87, f88, f89, f90, f91, f92, f93, f94, f95, f96, f97, f98, f99, f100, f101, f102, f103, f104, f105, f106, f107, f108, f109, f110, f111, f112, f113, f114, f115, f116, f117, f118, f119, f120, f121, f122, f123, f124, f125, f126, f127, f128, f129, f130, f131, f132, f133, f134, f135, f136, f137, f138, f139, f140, f141, f142, f143, f144, f145, f146, f147, f148, f149, f150, f151, f152, f153, f154, f155, f156, f157, f158, f159, f160, f161, f162, f163, f164, f165, f166, f167, f168, f169, f170, f171, f172, f173, f174, f175, f176, f177, f178, f179, f180, f181, f182, f183, f184, f185, f186, f187, f188, f189, f190, f191, f192, f193, f194, f195, f196, f197, f198, f199, f200, f201, f202, f203, f204, f205, f206, f207, f208, f209, f210, f211, f212, f213, f214, f215, f216, f217, f218, f219, f220, f221, f222, f223, f224, f225, f226, f227, f228, f229, f230, f231, f232, f233, f234, f235, f236, f237, f238, f239, f240, f241, f242, f243, f244, f245, f246, f247, f248, f249, f250, f251, f252, f253, f254, f255, f256, f257, f258, f259, f260, f261, f262, f263, f264, f265, f266, f267, f268, f269, f270, f271, f272, f273, f274, f275, f276, f277, f278, f279, f280, f281], []⟩ W1 := by
  conv => arg 2; whnf
  have hS : (fun w' => Below W1.heap.size W1 w' ∧ b < w'.heap.size ∧ w'.cell? ⟨b, o + i * 14, none⟩ = some (.int .i64 a.kind) ∧ w'.cell? ⟨b, o + i * 14 + 1, none⟩ = some (.int .i64 a.side) ∧ w'.cell? ⟨b, o + i * 14 + 2, none⟩ = some (.int .i64 a.said) ∧ w'.cell? ⟨b, o + i * 14 + 3, none⟩ = some (.int .i64 a.v.size) ∧ w'.cell? ⟨b, o + i * 14 + 4, none⟩ = some (.slice a.A a.n a.c) ∧ w'.cell? ⟨b, o + i * 14 + 5, none⟩ = some (.int .i64 a.v.wrong) ∧ w'.cell? ⟨b, o + i * 14 + 6, none⟩ = some (.int .i64 a.v.hxl) ∧ w'.cell? ⟨b, o + i * 14 + 7, none⟩ = some (.int .i64 a.v.hxh) ∧ w'.cell? ⟨b, o + i * 14 + 8, none⟩ = some (.int .i64 a.v.hyl) ∧ w'.cell? ⟨b, o + i * 14 + 9, none⟩ = some (.int .i64 a.v.hyh) ∧ w'.cell? ⟨b, o + i * 14 + 10, none⟩ = some (.int .i64 a.b.l) ∧ w'.cell? ⟨b, o + i * 14 + 11, none⟩ = some (.int .i64 a.b.r) ∧ w'.cell? ⟨b, o + i * 14 + 12, none⟩ = some (.int .i64 a.b.b) ∧ w'.cell? ⟨b, o + i * 14 + 13, none⟩ = some (.int .i64 a.b.t)) W1 := ⟨Below.refl _ _, lbr, c0, c1, c2, c3, c4, c5, c6, c7, c8, c9, c10, c11, c12, c13⟩
  have hkeep : ∀ u u' : World, Below u.heap.size u u' → (Below W1.heap.size W1 u ∧ b < u.heap.size ∧ u.cell? ⟨b, o + i * 14, none⟩ = some (.int .i64 a.kind) ∧ u.cell? ⟨b, o + i * 14 + 1, none⟩ = some (.int .i64 a.side) ∧ u.cell? ⟨b, o + i * 14 + 2, none⟩ = some (.int .i64 a.said) ∧ u.cell? ⟨b, o + i * 14 + 3, none⟩ = some (.int .i64 a.v.size) ∧ u.cell? ⟨b, o + i * 14 + 4, none⟩ = some (.slice a.A a.n a.c) ∧ u.cell? ⟨b, o + i * 14 + 5, none⟩ = some (.int .i64 a.v.wrong) ∧ u.cell? ⟨b, o + i * 14 + 6, none⟩ = some (.int .i64 a.v.hxl) ∧ u.cell? ⟨b, o + i * 14 + 7, none⟩ = some (.int .i64 a.v.hxh) ∧ u.cell? ⟨b, o + i * 14 + 8, none⟩ = some (.int .i64 a.v.hyl) ∧ u.cell? ⟨b, o + i * 14 + 9, none⟩ = some (.int .i64 a.v.hyh) ∧ u.cell? ⟨b, o + i * 14 + 10, none⟩ = some (.int .i64 a.b.l) ∧ u.cell? ⟨b, o + i * 14 + 11, none⟩ = some (.int .i64 a.b.r) ∧ u.cell? ⟨b, o + i * 14 + 12, none⟩ = some (.int .i64 a.b.b) ∧ u.cell? ⟨b, o + i * 14 + 13, none⟩ = some (.int .i64 a.b.t)) → (Below W1.heap.size W1 u' ∧ b < u'.heap.size ∧ u'.cell? ⟨b, o + i * 14, none⟩ = some (.int .i64 a.kind) ∧ u'.cell? ⟨b, o + i * 14 + 1, none⟩ = some (.int .i64 a.side) ∧ u'.cell? ⟨b, o + i * 14 + 2, none⟩ = some (.int .i64 a.said) ∧ u'.cell? ⟨b, o + i * 14 + 3, none⟩ = some (.int .i64 a.v.size) ∧ u'.cell? ⟨b, o + i * 14 + 4, none⟩ = some (.slice a.A a.n a.c) ∧ u'.cell? ⟨b, o + i * 14 + 5, none⟩ = some (.int .i64 a.v.wrong) ∧ u'.cell? ⟨b, o + i * 14 + 6, none⟩ = some (.int .i64 a.v.hxl) ∧ u'.cell? ⟨b, o + i * 14 + 7, none⟩ = some (.int .i64 a.v.hxh) ∧ u'.cell? ⟨b, o + i * 14 + 8, none⟩ = some (.int .i64 a.v.hyl) ∧ u'.cell? ⟨b, o + i * 14 + 9, none⟩ = some (.int .i64 a.v.hyh) ∧ u'.cell? ⟨b, o + i * 14 + 10, none⟩ = some (.int .i64 a.b.l) ∧ u'.cell? ⟨b, o + i * 14 + 11, none⟩ = some (.int .i64 a.b.r) ∧ u'.cell? ⟨b, o + i * 14 + 12, none⟩ = some (.int .i64 a.b.b) ∧ u'.cell? ⟨b, o + i * 14 + 13, none⟩ = some (.int .i64 a.b.t)) := by
    rintro u u' hb ⟨hB, l_b, k0, k1, k2, k3, k4, k5, k6, k7, k8, k9, k10, k11, k12, k13⟩
    exact ⟨hB.trans (hb.mono hB.size), Nat.lt_of_lt_of_le l_b hb.size, (hb.cell (p := ⟨b, o + i * 14, none⟩) l_b).trans k0, (hb.cell (p := ⟨b, o + i * 14 + 1, none⟩) l_b).trans k1, (hb.cell (p := ⟨b, o + i * 14 + 2, none⟩) l_b).trans k2, (hb.cell (p := ⟨b, o + i * 14 + 3, none⟩) l_b).trans k3, (hb.cell (p := ⟨b, o + i * 14 + 4, none⟩) l_b).trans k4, (hb.cell (p := ⟨b, o + i * 14 + 5, none⟩) l_b).trans k5, (hb.cell (p := ⟨b, o + i * 14 + 6, none⟩) l_b).trans k6, (hb.cell (p := ⟨b, o + i * 14 + 7, none⟩) l_b).trans k7, (hb.cell (p := ⟨b, o + i * 14 + 8, none⟩) l_b).trans k8, (hb.cell (p := ⟨b, o + i * 14 + 9, none⟩) l_b).trans k9, (hb.cell (p := ⟨b, o + i * 14 + 10, none⟩) l_b).trans k10, (hb.cell (p := ⟨b, o + i * 14 + 11, none⟩) l_b).trans k11, (hb.cell (p := ⟨b, o + i * 14 + 12, none⟩) l_b).trans k12, (hb.cell (p := ⟨b, o + i * 14 + 13, none⟩) l_b).trans k13⟩
  (try dsimp only at hS)
  refine wp_region_held_drew (S := (fun w' => Below W1.heap.size W1 w' ∧ b < w'.heap.size ∧ w'.cell? ⟨b, o + i * 14, none⟩ = some (.int .i64 a.kind) ∧ w'.cell? ⟨b, o + i * 14 + 1, none⟩ = some (.int .i64 a.side) ∧ w'.cell? ⟨b, o + i * 14 + 2, none⟩ = some (.int .i64 a.said) ∧ w'.cell? ⟨b, o + i * 14 + 3, none⟩ = some (.int .i64 a.v.size) ∧ w'.cell? ⟨b, o + i * 14 + 4, none⟩ = some (.slice a.A a.n a.c) ∧ w'.cell? ⟨b, o + i * 14 + 5, none⟩ = some (.int .i64 a.v.wrong) ∧ w'.cell? ⟨b, o + i * 14 + 6, none⟩ = some (.int .i64 a.v.hxl) ∧ w'.cell? ⟨b, o + i * 14 + 7, none⟩ = some (.int .i64 a.v.hxh) ∧ w'.cell? ⟨b, o + i * 14 + 8, none⟩ = some (.int .i64 a.v.hyl) ∧ w'.cell? ⟨b, o + i * 14 + 9, none⟩ = some (.int .i64 a.v.hyh) ∧ w'.cell? ⟨b, o + i * 14 + 10, none⟩ = some (.int .i64 a.b.l) ∧ w'.cell? ⟨b, o + i * 14 + 11, none⟩ = some (.int .i64 a.b.r) ∧ w'.cell? ⟨b, o + i * 14 + 12, none⟩ = some (.int .i64 a.b.b) ∧ w'.cell? ⟨b, o + i * 14 + 13, none⟩ = some (.int .i64 a.b.t))) (by kernel_rfl) ?_ (fun hHeld0 => ?_)
  · (try dsimp only); (first | (go_keep; done) | (go_split_ands; (repeat' apply And.intro) <;> first | (go_keep; done) | (simp [*, zcA, zcP, zfA, zfP]; done) | (simp [zcA, zcP] <;> rfl) | (simp [*, zsS, zsO, zsA]; done) | ((first | refine (hc _ _ ?_).trans ?_ | refine (hf _ _ ?_).trans ?_) <;> first | assumption | (simp; done) | (simp; omega) | omega | (go_keep; done) | (simp [*, zcA, zcP, zfA, zfP]; done) | (simp [zcA, zcP]; rfl)) | (repeat' first | exact zbR _ _ | assumption | refine zbD ?_ | refine zbA ?_ ?_ _ | refine zbS ?_ ?_ _ | refine zbT ?_ (by assumption) ?_ | (simp; done) | (simp; omega) | omega)))
  refine tL (v := ?_) 0 rfl (by kernel_rfl) (fun _ _ _ h => hp _ _ _ _ _ h) (Or.inl ⟨by rfl, ?_⟩) (by assumption) ?_; rotate_left
  · (intro w hSw; (try dsimp only at hSw); go_simp; try with_reducible rfl)
  try simp only [Act.put, zl, z0, z1]
  refine tL (v := ?_) 1 rfl (by kernel_rfl) (fun _ _ _ h => hp _ _ _ _ _ h) (Or.inl ⟨by rfl, ?_⟩) (by assumption) ?_; rotate_left
  · (intro w hSw; (try dsimp only at hSw); go_simp; try with_reducible rfl)
  try simp only [Act.put, zl, z0, z1]
  refine tL (v := ?_) 2 rfl (by kernel_rfl) (fun _ _ _ h => hp _ _ _ _ _ h) (Or.inl ⟨by rfl, ?_⟩) (by assumption) ?_; rotate_left
  · (intro w hSw; (try dsimp only at hSw); go_simp; try with_reducible rfl)
  try simp only [Act.put, zl, z0, z1]
  refine tL (v := ?_) 3 rfl (by kernel_rfl) (fun _ _ _ h => hp _ _ _ _ _ h) (Or.inl ⟨by rfl, ?_⟩) (by assumption) ?_; rotate_left
  · (intro w hSw; (try dsimp only at hSw); go_simp; try with_reducible rfl)
  try simp only [Act.put, zl, z0, z1]
  refine tL (v := ?_) 4 rfl (by kernel_rfl) (fun _ _ _ h => hp _ _ _ _ _ h) (Or.inl ⟨by rfl, ?_⟩) (by assumption) ?_; rotate_left
  · (intro w hSw; (try dsimp only at hSw); go_simp; try with_reducible rfl)
  try simp only [Act.put, zl, z0, z1]
  refine tL (v := ?_) 5 rfl (by kernel_rfl) (fun _ _ _ h => hp _ _ _ _ _ h) (Or.inl ⟨by rfl, ?_⟩) (by assumption) ?_; rotate_left
  · (intro w hSw; (try dsimp only at hSw); go_simp; try with_reducible rfl)
  try simp only [Act.put, zl, z0, z1]
  refine tL (v := ?_) 6 rfl (by kernel_rfl) (fun _ _ _ h => hp _ _ _ _ _ h) (Or.inl ⟨by rfl, ?_⟩) (by assumption) ?_; rotate_left
  · (intro w hSw; (try dsimp only at hSw); go_simp; try with_reducible rfl)
  try simp only [Act.put, zl, z0, z1]
  refine takeL 7 rfl (by kernel_rfl) (by kernel_rfl) (by kernel_rfl) (fun _ _ _ h => hp _ _ _ _ _ h) (Or.inr ⟨by rfl, rfl⟩) (by assumption) ?_
  try simp only [Act.put, zl, z0, z1]
  refine takeL 8 rfl (by kernel_rfl) (by kernel_rfl) (by kernel_rfl) (fun _ _ _ h => hp _ _ _ _ _ h) (Or.inr ⟨by rfl, rfl⟩) (by assumption) ?_
  try simp only [Act.put, zl, z0, z1]
  refine takeL 9 rfl (by kernel_rfl) (by kernel_rfl) (by kernel_rfl) (fun _ _ _ h => hp _ _ _ _ _ h) (Or.inr ⟨by rfl, rfl⟩) (by assumption) ?_
  try simp only [Act.put, zl, z0, z1]
  refine takeL 10 rfl (by kernel_rfl) (by kernel_rfl) (by kernel_rfl) (fun _ _ _ h => hp _ _ _ _ _ h) (Or.inr ⟨by rfl, rfl⟩) (by assumption) ?_
  try simp only [Act.put, zl, z0, z1]
  refine takeL 11 rfl (by kernel_rfl) (by kernel_rfl) (by kernel_rfl) (fun _ _ _ h => hp _ _ _ _ _ h) (Or.inr ⟨by rfl, rfl⟩) (by assumption) ?_
  try simp only [Act.put, zl, z0, z1]
  refine takeL 12 rfl (by kernel_rfl) (by kernel_rfl) (by kernel_rfl) (fun _ _ _ h => hp _ _ _ _ _ h) (Or.inr ⟨by rfl, rfl⟩) (by assumption) ?_
  try simp only [Act.put, zl, z0, z1]
  refine tL (v := ?_) 13 rfl (by kernel_rfl) (fun _ _ _ h => hp _ _ _ _ _ h) (Or.inl ⟨by rfl, ?_⟩) (by assumption) ?_; rotate_left
  · (intro w hSw; (try dsimp only at hSw); go_simp; try with_reducible rfl)
  try simp only [Act.put, zl, z0, z1]
  refine tL (v := ?_) 14 rfl (by kernel_rfl) (fun _ _ _ h => hp _ _ _ _ _ h) (Or.inl ⟨by rfl, ?_⟩) (by assumption) ?_; rotate_left
  · (intro w hSw; (try dsimp only at hSw); go_simp; try with_reducible rfl)
  try simp only [Act.put, zl, z0, z1]
  refine takeL 15 rfl (by kernel_rfl) (by kernel_rfl) (by kernel_rfl) (fun _ _ _ h => hp _ _ _ _ _ h) (Or.inr ⟨by rfl, rfl⟩) (by assumption) ?_
  try simp only [Act.put, zl, z0, z1]
  refine takeL 16 rfl (by kernel_rfl) (by kernel_rfl) (by kernel_rfl) (fun _ _ _ h => hp _ _ _ _ _ h) (Or.inr ⟨by rfl, rfl⟩) (by assumption) ?_
  try simp only [Act.put, zl, z0, z1]
  refine takeL 17 rfl (by kernel_rfl) (by kernel_rfl) (by kernel_rfl) (fun _ _ _ h => hp _ _ _ _ _ h) (Or.inr ⟨by rfl, rfl⟩) (by assumption) ?_
  try simp only [Act.put, zl, z0, z1]
  refine takeL 18 rfl (by kernel_rfl) (by kernel_rfl) (by kernel_rfl) (fun _ _ _ h => hp _ _ _ _ _ h) (Or.inr ⟨by rfl, rfl⟩) (by assumption) ?_
  try simp only [Act.put, zl, z0, z1]
  refine takeL 19 rfl (by kernel_rfl) (by kernel_rfl) (by kernel_rfl) (fun _ _ _ h => hp _ _ _ _ _ h) (Or.inr ⟨by rfl, rfl⟩) (by assumption) ?_
  try simp only [Act.put, zl, z0, z1]
  refine takeL 20 rfl (by kernel_rfl) (by kernel_rfl) (by kernel_rfl) (fun _ _ _ h => hp _ _ _ _ _ h) (Or.inr ⟨by rfl, rfl⟩) (by assumption) ?_
  try simp only [Act.put, zl, z0, z1]
  refine tL (v := ?_) 21 rfl (by kernel_rfl) (fun _ _ _ h => hp _ _ _ _ _ h) (Or.inl ⟨by rfl, ?_⟩) (by assumption) ?_; rotate_left
  · (intro w hSw; (try dsimp only at hSw); go_simp; try with_reducible rfl)
  try simp only [Act.put, zl, z0, z1]
  refine tL (v := ?_) 22 rfl (by kernel_rfl) (fun _ _ _ h => hp _ _ _ _ _ h) (Or.inl ⟨by rfl, ?_⟩) (by assumption) ?_; rotate_left
  · (intro w hSw; (try dsimp only at hSw); go_simp; try with_reducible rfl)
  try simp only [Act.put, zl, z0, z1]
  refine takeL 23 rfl (by kernel_rfl) (by kernel_rfl) (by kernel_rfl) (fun _ _ _ h => hp _ _ _ _ _ h) (Or.inr ⟨by rfl, rfl⟩) (by assumption) ?_
  try simp only [Act.put, zl, z0, z1]
  refine takeL 24 rfl (by kernel_rfl) (by kernel_rfl) (by kernel_rfl) (fun _ _ _ h => hp _ _ _ _ _ h) (Or.inr ⟨by rfl, rfl⟩) (by assumption) ?_
  try simp only [Act.put, zl, z0, z1]
  refine takeL 25 rfl (by kernel_rfl) (by kernel_rfl) (by kernel_rfl) (fun _ _ _ h => hp _ _ _ _ _ h) (Or.inr ⟨by rfl, rfl⟩) (by assumption) ?_
  try simp only [Act.put, zl, z0, z1]
  refine takeL 26 rfl (by kernel_rfl) (by kernel_rfl) (by kernel_rfl) (fun _ _ _ h => hp _ _ _ _ _ h) (Or.inr ⟨by rfl, rfl⟩) (by assumption) ?_
  try simp only [Act.put, zl, z0, z1]
  refine takeL 27 rfl (by kernel_rfl) (by kernel_rfl) (by kernel_rfl) (fun _ _ _ h => hp _ _ _ _ _ h) (Or.inr ⟨by rfl, rfl⟩) (by assumption) ?_
  try simp only [Act.put, zl, z0, z1]
  refine takeL 28 rfl (by kernel_rfl) (by kernel_rfl) (by kernel_rfl) (fun _ _ _ h => hp _ _ _ _ _ h) (Or.inr ⟨by rfl, rfl⟩) (by assumption) ?_
  try simp only [Act.put, zl, z0, z1]
  refine takeL 29 rfl (by kernel_rfl) (by kernel_rfl) (by kernel_rfl) (fun _ _ _ h => hp _ _ _ _ _ h) (Or.inr ⟨by rfl, rfl⟩) (by assumption) ?_
  try simp only [Act.put, zl, z0, z1]
  refine takeL 30 rfl (by kernel_rfl) (by kernel_rfl) (by kernel_rfl) (fun _ _ _ h => hp _ _ _ _ _ h) (Or.inr ⟨by rfl, rfl⟩) (by assumption) ?_
  try simp only [Act.put, zl, z0, z1]
  refine takeL 31 rfl (by kernel_rfl) (by kernel_rfl) (by kernel_rfl) (fun _ _ _ h => hp _ _ _ _ _ h) (Or.inr ⟨by rfl, rfl⟩) (by assumption) ?_
  try simp only [Act.put, zl, z0, z1]
  refine takeL 32 rfl (by kernel_rfl) (by kernel_rfl) (by kernel_rfl) (fun _ _ _ h => hp _ _ _ _ _ h) (Or.inr ⟨by rfl, rfl⟩) (by assumption) ?_
  try simp only [Act.put, zl, z0, z1]
  refine takeL 33 rfl (by kernel_rfl) (by kernel_rfl) (by kernel_rfl) (fun _ _ _ h => hp _ _ _ _ _ h) (Or.inr ⟨by rfl, rfl⟩) (by assumption) ?_
  try simp only [Act.put, zl, z0, z1]
  refine takeL 34 rfl (by kernel_rfl) (by kernel_rfl) (by kernel_rfl) (fun _ _ _ h => hp _ _ _ _ _ h) (Or.inr ⟨by rfl, rfl⟩) (by assumption) ?_
  try simp only [Act.put, zl, z0, z1]
  refine tL (v := ?_) 35 rfl (by kernel_rfl) (fun _ _ _ h => hp _ _ _ _ _ h) (Or.inl ⟨by rfl, ?_⟩) (by assumption) ?_; rotate_left
  · (intro w hSw; (try dsimp only at hSw); go_simp; try with_reducible rfl)
  try simp only [Act.put, zl, z0, z1]
  refine tL (v := ?_) 36 rfl (by kernel_rfl) (fun _ _ _ h => hp _ _ _ _ _ h) (Or.inl ⟨by rfl, ?_⟩) (by assumption) ?_; rotate_left
  · (intro w hSw; (try dsimp only at hSw); go_simp; try with_reducible rfl)
  try simp only [Act.put, zl, z0, z1]
  refine takeL 37 rfl (by kernel_rfl) (by kernel_rfl) (by kernel_rfl) (fun _ _ _ h => hp _ _ _ _ _ h) (Or.inr ⟨by rfl, rfl⟩) (by assumption) ?_
  try simp only [Act.put, zl, z0, z1]
  refine takeL 38 rfl (by kernel_rfl) (by kernel_rfl) (by kernel_rfl) (fun _ _ _ h => hp _ _ _ _ _ h) (Or.inr ⟨by rfl, rfl⟩) (by assumption) ?_
  try simp only [Act.put, zl, z0, z1]
  refine takeL 39 rfl (by kernel_rfl) (by kernel_rfl) (by kernel_rfl) (fun _ _ _ h => hp _ _ _ _ _ h) (Or.inr ⟨by rfl, rfl⟩) (by assumption) ?_
  try simp only [Act.put, zl, z0, z1]
  refine takeL 40 rfl (by kernel_rfl) (by kernel_rfl) (by kernel_rfl) (fun _ _ _ h => hp _ _ _ _ _ h) (Or.inr ⟨by rfl, rfl⟩) (by assumption) ?_
  try simp only [Act.put, zl, z0, z1]
  refine takeL 41 rfl (by kernel_rfl) (by kernel_rfl) (by kernel_rfl) (fun _ _ _ h => hp _ _ _ _ _ h) (Or.inr ⟨by rfl, rfl⟩) (by assumption) ?_
  try simp only [Act.put, zl, z0, z1]
  refine takeL 42 rfl (by kernel_rfl) (by kernel_rfl) (by kernel_rfl) (fun _ _ _ h => hp _ _ _ _ _ h) (Or.inr ⟨by rfl, rfl⟩) (by assumption) ?_
  try simp only [Act.put, zl, z0, z1]
  refine takeL 43 rfl (by kernel_rfl) (by kernel_rfl) (by kernel_rfl) (fun _ _ _ h => hp _ _ _ _ _ h) (Or.inr ⟨by rfl, rfl⟩) (by assumption) ?_
  try simp only [Act.put, zl, z0, z1]
  refine takeL 44 rfl (by kernel_rfl) (by kernel_rfl) (by kernel_rfl) (fun _ _ _ h => hp _ _ _ _ _ h) (Or.inr ⟨by rfl, rfl⟩) (by assumption) ?_
  try simp only [Act.put, zl, z0, z1]
  refine takeL 45 rfl (by kernel_rfl) (by kernel_rfl) (by kernel_rfl) (fun _ _ _ h => hp _ _ _ _ _ h) (Or.inr ⟨by rfl, rfl⟩) (by assumption) ?_
  try simp only [Act.put, zl, z0, z1]
  refine takeL 46 rfl (by kernel_rfl) (by kernel_rfl) (by kernel_rfl) (fun _ _ _ h => hp _ _ _ _ _ h) (Or.inr ⟨by rfl, rfl⟩) (by assumption) ?_
  try simp only [Act.put, zl, z0, z1]
  refine takeL 47 rfl (by kernel_rfl) (by kernel_rfl) (by kernel_rfl) (fun _ _ _ h => hp _ _ _ _ _ h) (Or.inr ⟨by rfl, rfl⟩) (by assumption) ?_
  try simp only [Act.put, zl, z0, z1]
  refine takeL 48 rfl (by kernel_rfl) (by kernel_rfl) (by kernel_rfl) (fun _ _ _ h => hp _ _ _ _ _ h) (Or.inr ⟨by rfl, rfl⟩) (by assumption) ?_
  try simp only [Act.put, zl, z0, z1]
  refine takeL 49 rfl (by kernel_rfl) (by kernel_rfl) (by kernel_rfl) (fun _ _ _ h => hp _ _ _ _ _ h) (Or.inr ⟨by rfl, rfl⟩) (by assumption) ?_
  try simp only [Act.put, zl, z0, z1]
  refine takeL 50 rfl (by kernel_rfl) (by kernel_rfl) (by kernel_rfl) (fun _ _ _ h => hp _ _ _ _ _ h) (Or.inr ⟨by rfl, rfl⟩) (by assumption) ?_
  try simp only [Act.put, zl, z0, z1]
  refine tL (v := ?_) 51 rfl (by kernel_rfl) (fun _ _ _ h => hp _ _ _ _ _ h) (Or.inl ⟨by rfl, ?_⟩) (by assumption) ?_; rotate_left
  · (intro w hSw; (try dsimp only at hSw); go_simp; try with_reducible rfl)
  try simp only [Act.put, zl, z0, z1]
  refine wpAnyH_done (by kernel_rfl) ?_ _
  refine hK _ _ _ _ _ _ _ _ _ _ _ _ _ _ _ _ _ _ _ _ _ _ _ _ _ _ _ _ _ _ _ _ _ _ _ _ _ _ _ _ _ _ _ _ _ _ _ _ _ _ _ _ (hide (show Below W1.heap.size W1 _ from by exact zbD (zbR _ _)))

set_option maxRecDepth 100000 in
set_option maxHeartbeats 64000000 in
theorem cnt8_low {K : Act → World → Prop} {Q : Exit → Act → World → Prop} (hp : ∀ c a d v w, Q (.panic c) (Act.put a d v) w → Q (.panic c) a w) (a : L.Ap) (b o i n c : Nat) (W1 : World) (hi0 : (0 : Int) ≤ (i : Int)) (hlt' : (i : Int) < (n : Int)) (hn8 : (n : Int) ≤ 8) (lbr : b < W1.heap.size) (HLEN : Hid (a.v.ss.length = a.n)) (HRD : Hid (RdS W1 W1.heap.size a.A a.v.ss)) (c0 : W1.cell? ⟨b, o + i * 14, none⟩ = some (.int .i64 a.kind)) (c1 : W1.cell? ⟨b, o + i * 14 + 1, none⟩ = some (.int .i64 a.side)) (c2 : W1.cell? ⟨b, o + i * 14 + 2, none⟩ = some (.int .i64 a.said)) (c3 : W1.cell? ⟨b, o + i * 14 + 3, none⟩ = some (.int .i64 a.v.size)) (c4 : W1.cell? ⟨b, o + i * 14 + 4, none⟩ = some (.slice a.A a.n a.c)) (c5 : W1.cell? ⟨b, o + i * 14 + 5, none⟩ = some (.int .i64 a.v.wrong)) (c6 : W1.cell? ⟨b, o + i * 14 + 6, none⟩ = some (.int .i64 a.v.hxl)) (c7 : W1.cell? ⟨b, o + i * 14 + 7, none⟩ = some (.int .i64 a.v.hxh)) (c8 : W1.cell? ⟨b, o + i * 14 + 8, none⟩ = some (.int .i64 a.v.hyl)) (c9 : W1.cell? ⟨b, o + i * 14 + 9, none⟩ = some (.int .i64 a.v.hyh)) (c10 : W1.cell? ⟨b, o + i * 14 + 10, none⟩ = some (.int .i64 a.b.l)) (c11 : W1.cell? ⟨b, o + i * 14 + 11, none⟩ = some (.int .i64 a.b.r)) (c12 : W1.cell? ⟨b, o + i * 14 + 12, none⟩ = some (.int .i64 a.b.b)) (c13 : W1.cell? ⟨b, o + i * 14 + 13, none⟩ = some (.int .i64 a.b.t)) (d1 : (a.kind != 3) = false) (v0 : decide (a.side < 0) = true) (f0 f2 f3 f4 f5 f6 f8 f9 f10 f11 f12 f13 f14 f15 f16 f17 f18 f19 f20 f21 f22 f23 f24 f25 f26 f27 f28 f29 f30 f31 f32 f33 f34 f35 f36 f37 f38 f39 f40 f41 f42 f43 f44 f45 f46 f47 f48 f49 f50 f51 f52 f53 f54 f55 f56 f57 f58 f59 f60 f61 f62 f63 f64 f65 f66 f67 f68 f69 f70 f71 f72 f73 f74 f75 f76 f77 f78 f79 f80 f81 f82 f83 f84 f85 f86 f87 f88 f89 f90 f91 f92 f93 f94 f95 f96 f97 f98 f99 f100 f101 f102 f103 f104 f105 f106 f107 f108 f109 f110 f111 f112 f113 f114 f115 f116 f117 f118 f119 f120 f121 f122 f123 f124 f125 f126 f127 f128 f129 f130 f131 f132 f133 f134 f135 f136 f137 f138 f139 f140 f141 f142 f143 f144 f145 f146 f147 f148 f149 f150 f151 f152 f153 f154 f155 f156 f157 f158 f159 f160 f161 f162 f163 f164 f165 f166 f167 f168 f169 f170 f171 f172 f173 f174 f175 f176 f177 f178 f179 f180 f181 f182 f183 f184 f185 f186 f187 f188 f189 f190 f191 f192 f193 f194 f195 f196 f197 f198 f199 f200 f201 f202 f203 f204 f205 f206 f207 f208 f209 f210 f211 f212 f213 f214 f215 f216 f217 f218 f219 f220 f221 f222 f223 f224 f225 f226 f227 f228 f229 f230 f231 f232 f233 f234 f235 f236 f237 f238 f239 f240 f241 f242 f243 f244 f245 f246 f247 f248 f249 f250 f251 f252 f253 f254 f255 f256 f257 f258 f259 f260 f261 f262 f263 f264 f265 f266 f267 f268 f269 f270 f271 f272 f273 f274 f275 f276 f277 f278 f279 f280 f281 : Value)
    (hK : ∀ (u54 u55 u56 u57 u58 u59 u60 u61 u62 u63 u64 u65 u66 u67 u68 u69 u70 u71 u72 u73 u74 u75 u76 u77 u78 u79 u80 u81 u82 u83 u84 u85 u86 u87 u88 u89 u90 u91 u92 u93 u94 u95 u96 u97 u98 u99 u100 u101 u102 u103 u104 : Value) (w6 : World), Hid (Below W1.heap.size W1 w6) → K ⟨#[f0, .slice (some ⟨b, o, none⟩) n c, f2, f3, f4, f5, f6, .int .i64 (i : Int), f8, f9, f10, f11, f12, f13, f14, f15, f16, f17, f18, f19, f20, f21, f22, f23, f24, f25, f26, f27, f28, f29, f30, f31, f32, f33, f34, f35, f36, f37, f38, f39, f40, f41, f42, f43, f44, f45, f46, f47, f48, f49, f50, f51, f52, f53, u54, u55, u56, u57, u58, u59, u60, u61, u62, u63, u64, u65, u66, u67, u68, u69, u70, u71, u72, u73, u74, u75, u76, u77, u78, u79, u80, u81, u82, u83, u84, u85, u86, u87, u88, u89, u90, u91, u92, u93, u94, u95, u96, u97, u98, u99, u100, u101, u102, u103, u104, .bool true, f106, f107, f108, f109, f110, f111, f112, f113, f114, f115, f116, f117, f118, f119, f120, f121, f122, f123, f124, f125, f126, f127, f128, f129, f130, f131, f132, f133, f134, f135, f136, f137, f138, f139, f140, f141, f142, f143, f144, f145, f146, f147, f148, f149, f150, f151, f152, f153, f154, f155, f156, f157, f158, f159, f160, f161, f162, f163, f164, f165, f166, f167, f168, f169, f170, f171, f172, f173, f174, f175, f176, f177, f178, f179, f180, f181, f182, f183, f184, f185, f186, f187, f188, f189, f190, f191, f192, f193, f194, f195, f196, f197, f198, f199, f200, f201, f202, f203, f204, f205, f206, f207, f208, f209, f210, f211, f212, f213, f214, f215, f216, f217, f218, f219, f220, f221, f222, f223, f224, f225, f226, f227, f228, f229, f230, f231, f232, f233, f234, f235, f236, f237, f238, f239, f240, f241, f242, f243, f244, f245, f246, f247, f248, f249, f250, f251, f252, f253, f254, f255, f256, f257, f258, f259, f260, f261, f262, f263, f264, f265, f266, f267, f268, f269, f270, f271, f272, f273, f274, f275, f276, f277, f278, f279, f280, f281], []⟩ w6) :
    Code.wp Try.prog (cntReg 8) (Exit.then K Q) ⟨#[f0, .slice (some ⟨b, o, none⟩) n c, f2, f3, f4, f5, f6, .int .i64 (i : Int), f8, f9, f10, f11, f12, f13, f14, f15, f16, f17, f18, f19, f20, f21, f22, f23, f24, f25, f26, f27, f28, f29, f30, f31, f32, f33, f34, f35, f36, f37, f38, f39, f40, f41, f42, f43, f44, f45, f46, f47, f48, f49, f50, f51, f52, f53, f54, f55, f56, f57, f58, f59, f60, f61, f62, f63, f64, f65, f66, f67, f68, f69, f70, f71, f72, f73, f74, f75, f76, f77, f78, f79, f80, f81, f82, f83, f84, f85, f86, f87, f88, f89, f90, f91, f92, f93, f94, f95, f96, f97, f98, f99, f100, f101, f102, f103, f104, f105, f106, f107, f108, f109, f110, f111, f112, f113, f114, f115, f116, f117, f118, f119, f120, f121, f122, f123, f124, f125, f126, f127, f128, f129, f130, f131, f132, f133, f134, f135, f136, f137, f138, f139, f140, f141, f142, f143, f144, f145, f146, f147, f148, f149, f150, f151, f152, f153, f154, f155, f156, f157, f158, f159, f160, f161, f162, f163, f164, f165, f166, f167, f168, f169, f170, f171, f172, f173, f174, f175, f176, f177, f178, f179, f180, f181, f182, f183, f184, f185, f186, f187, f188, f189, f190, f191, f192, f193, f194, f195, f196, f197, f198, f199, f200, f201, f202, f203, f204, f205, f206, f207, f208, f209, f210, f211, f212, f213, f214, f215, f216, f217, f218, f219, f220, f221, f222, f223, f224, f225, f226, f227, f228, f229, f230, f231, f232, f233, f234, f235, f236, f237, f238, f239, f240, f241, f242, f243, f244, f245, f246, f247, f248, f249, f250, f251, f252, f253, f254, f255, f256, f257, f258, f259, f260, f261, f262, f263, f264, f265, f266, f267, f268, f269, f270, f271, f272, f273, f274, f275, f276, f277, f278, f279, f280, f281], []⟩ W1 := by
  conv => arg 2; whnf
  have hS : (fun w' => Below W1.heap.size W1 w' ∧ b < w'.heap.size ∧ w'.cell? ⟨b, o + i * 14, none⟩ = some (.int .i64 a.kind) ∧ w'.cell? ⟨b, o + i * 14 + 1, none⟩ = some (.int .i64 a.side) ∧ w'.cell? ⟨b, o + i * 14 + 2, none⟩ = some (.int .i64 a.said) ∧ w'.cell? ⟨b, o + i * 14 + 3, none⟩ = some (.int .i64 a.v.size) ∧ w'.cell? ⟨b, o + i * 14 + 4, none⟩ = some (.slice a.A a.n a.c) ∧ w'.cell? ⟨b, o + i * 14 + 5, none⟩ = some (.int .i64 a.v.wrong) ∧ w'.cell? ⟨b, o + i * 14 + 6, none⟩ = some (.int .i64 a.v.hxl) ∧ w'.cell? ⟨b, o + i * 14 + 7, none⟩ = some (.int .i64 a.v.hxh) ∧ w'.cell? ⟨b, o + i * 14 + 8, none⟩ = some (.int .i64 a.v.hyl) ∧ w'.cell? ⟨b, o + i * 14 + 9, none⟩ = some (.int .i64 a.v.hyh) ∧ w'.cell? ⟨b, o + i * 14 + 10, none⟩ = some (.int .i64 a.b.l) ∧ w'.cell? ⟨b, o + i * 14 + 11, none⟩ = some (.int .i64 a.b.r) ∧ w'.cell? ⟨b, o + i * 14 + 12, none⟩ = some (.int .i64 a.b.b) ∧ w'.cell? ⟨b, o + i * 14 + 13, none⟩ = some (.int .i64 a.b.t)) W1 := ⟨Below.refl _ _, lbr, c0, c1, c2, c3, c4, c5, c6, c7, c8, c9, c10, c11, c12, c13⟩
  have hkeep : ∀ u u' : World, Below u.heap.size u u' → (Below W1.heap.size W1 u ∧ b < u.heap.size ∧ u.cell? ⟨b, o + i * 14, none⟩ = some (.int .i64 a.kind) ∧ u.cell? ⟨b, o + i * 14 + 1, none⟩ = some (.int .i64 a.side) ∧ u.cell? ⟨b, o + i * 14 + 2, none⟩ = some (.int .i64 a.said) ∧ u.cell? ⟨b, o + i * 14 + 3, none⟩ = some (.int .i64 a.v.size) ∧ u.cell? ⟨b, o + i * 14 + 4, none⟩ = some (.slice a.A a.n a.c) ∧ u.cell? ⟨b, o + i * 14 + 5, none⟩ = some (.int .i64 a.v.wrong) ∧ u.cell? ⟨b, o + i * 14 + 6, none⟩ = some (.int .i64 a.v.hxl) ∧ u.cell? ⟨b, o + i * 14 + 7, none⟩ = some (.int .i64 a.v.hxh) ∧ u.cell? ⟨b, o + i * 14 + 8, none⟩ = some (.int .i64 a.v.hyl) ∧ u.cell? ⟨b, o + i * 14 + 9, none⟩ = some (.int .i64 a.v.hyh) ∧ u.cell? ⟨b, o + i * 14 + 10, none⟩ = some (.int .i64 a.b.l) ∧ u.cell? ⟨b, o + i * 14 + 11, none⟩ = some (.int .i64 a.b.r) ∧ u.cell? ⟨b, o + i * 14 + 12, none⟩ = some (.int .i64 a.b.b) ∧ u.cell? ⟨b, o + i * 14 + 13, none⟩ = some (.int .i64 a.b.t)) → (Below W1.heap.size W1 u' ∧ b < u'.heap.size ∧ u'.cell? ⟨b, o + i * 14, none⟩ = some (.int .i64 a.kind) ∧ u'.cell? ⟨b, o + i * 14 + 1, none⟩ = some (.int .i64 a.side) ∧ u'.cell? ⟨b, o + i * 14 + 2, none⟩ = some (.int .i64 a.said) ∧ u'.cell? ⟨b, o + i * 14 + 3, none⟩ = some (.int .i64 a.v.size) ∧ u'.cell? ⟨b, o + i * 14 + 4, none⟩ = some (.slice a.A a.n a.c) ∧ u'.cell? ⟨b, o + i * 14 + 5, none⟩ = some (.int .i64 a.v.wrong) ∧ u'.cell? ⟨b, o + i * 14 + 6, none⟩ = some (.int .i64 a.v.hxl) ∧ u'.cell? ⟨b, o + i * 14 + 7, none⟩ = some (.int .i64 a.v.hxh) ∧ u'.cell? ⟨b, o + i * 14 + 8, none⟩ = some (.int .i64 a.v.hyl) ∧ u'.cell? ⟨b, o + i * 14 + 9, none⟩ = some (.int .i64 a.v.hyh) ∧ u'.cell? ⟨b, o + i * 14 + 10, none⟩ = some (.int .i64 a.b.l) ∧ u'.cell? ⟨b, o + i * 14 + 11, none⟩ = some (.int .i64 a.b.r) ∧ u'.cell? ⟨b, o + i * 14 + 12, none⟩ = some (.int .i64 a.b.b) ∧ u'.cell? ⟨b, o + i * 14 + 13, none⟩ = some (.int .i64 a.b.t)) := by
    rintro u u' hb ⟨hB, l_b, k0, k1, k2, k3, k4, k5, k6, k7, k8, k9, k10, k11, k12, k13⟩
    exact ⟨hB.trans (hb.mono hB.size), Nat.lt_of_lt_of_le l_b hb.size, (hb.cell (p := ⟨b, o + i * 14, none⟩) l_b).trans k0, (hb.cell (p := ⟨b, o + i * 14 + 1, none⟩) l_b).trans k1, (hb.cell (p := ⟨b, o + i * 14 + 2, none⟩) l_b).trans k2, (hb.cell (p := ⟨b, o + i * 14 + 3, none⟩) l_b).trans k3, (hb.cell (p := ⟨b, o + i * 14 + 4, none⟩) l_b).trans k4, (hb.cell (p := ⟨b, o + i * 14 + 5, none⟩) l_b).trans k5, (hb.cell (p := ⟨b, o + i * 14 + 6, none⟩) l_b).trans k6, (hb.cell (p := ⟨b, o + i * 14 + 7, none⟩) l_b).trans k7, (hb.cell (p := ⟨b, o + i * 14 + 8, none⟩) l_b).trans k8, (hb.cell (p := ⟨b, o + i * 14 + 9, none⟩) l_b).trans k9, (hb.cell (p := ⟨b, o + i * 14 + 10, none⟩) l_b).trans k10, (hb.cell (p := ⟨b, o + i * 14 + 11, none⟩) l_b).trans k11, (hb.cell (p := ⟨b, o + i * 14 + 12, none⟩) l_b).trans k12, (hb.cell (p := ⟨b, o + i * 14 + 13, none⟩) l_b).trans k13⟩
  (try dsimp only at hS)
  refine wp_region_held_drew (S := (fun w' => Below W1.heap.size W1 w' ∧ b < w'.heap.size ∧ w'.cell? ⟨b, o + i * 14, none⟩ = some (.int .i64 a.kind) ∧ w'.cell? ⟨b, o + i * 14 + 1, none⟩ = some (.int .i64 a.side) ∧ w'.cell? ⟨b, o + i * 14 + 2, none⟩ = some (.int .i64 a.said) ∧ w'.cell? ⟨b, o + i * 14 + 3, none⟩ = some (.int .i64 a.v.size) ∧ w'.cell? ⟨b, o + i * 14 + 4, none⟩ = some (.slice a.A a.n a.c) ∧ w'.cell? ⟨b, o + i * 14 + 5, none⟩ = some (.int .i64 a.v.wrong) ∧ w'.cell? ⟨b, o + i * 14 + 6, none⟩ = some (.int .i64 a.v.hxl) ∧ w'.cell? ⟨b, o + i * 14 + 7, none⟩ = some (.int .i64 a.v.hxh) ∧ w'.cell? ⟨b, o + i * 14 + 8, none⟩ = some (.int .i64 a.v.hyl) ∧ w'.cell? ⟨b, o + i * 14 + 9, none⟩ = some (.int .i64 a.v.hyh) ∧ w'.cell? ⟨b, o + i * 14 + 10, none⟩ = some (.int .i64 a.b.l) ∧ w'.cell? ⟨b, o + i * 14 + 11, none⟩ = some (.int .i64 a.b.r) ∧ w'.cell? ⟨b, o + i * 14 + 12, none⟩ = some (.int .i64 a.b.b) ∧ w'.cell? ⟨b, o + i * 14 + 13, none⟩ = some (.int .i64 a.b.t))) (by kernel_rfl) ?_ (fun hHeld0 => ?_)
  · (try dsimp only); (first | (go_keep; done) | (go_split_ands; (repeat' apply And.intro) <;> first | (go_keep; done) | (simp [*, zcA, zcP, zfA, zfP]; done) | (simp [zcA, zcP] <;> rfl) | (simp [*, zsS, zsO, zsA]; done) | ((first | refine (hc _ _ ?_).trans ?_ | refine (hf _ _ ?_).trans ?_) <;> first | assumption | (simp; done) | (simp; omega) | omega | (go_keep; done) | (simp [*, zcA, zcP, zfA, zfP]; done) | (simp [zcA, zcP]; rfl)) | (repeat' first | exact zbR _ _ | assumption | refine zbD ?_ | refine zbA ?_ ?_ _ | refine zbS ?_ ?_ _ | refine zbT ?_ (by assumption) ?_ | (simp; done) | (simp; omega) | omega)))
  refine tL (v := ?_) 0 rfl (by kernel_rfl) (fun _ _ _ h => hp _ _ _ _ _ h) (Or.inl ⟨by rfl, ?_⟩) (by assumption) ?_; rotate_left
  · (intro w hSw; (try dsimp only at hSw); go_simp; try with_reducible rfl)
  try simp only [Act.put, zl, z0, z1]
  refine tL (v := ?_) 1 rfl (by kernel_rfl) (fun _ _ _ h => hp _ _ _ _ _ h) (Or.inl ⟨by rfl, ?_⟩) (by assumption) ?_; rotate_left
  · (intro w hSw; (try dsimp only at hSw); go_simp; try with_reducible rfl)
  try simp only [Act.put, zl, z0, z1]
  refine tL (v := ?_) 2 rfl (by kernel_rfl) (fun _ _ _ h => hp _ _ _ _ _ h) (Or.inl ⟨by rfl, ?_⟩) (by assumption) ?_; rotate_left
  · (intro w hSw; (try dsimp only at hSw); go_simp; try with_reducible rfl)
  try simp only [Act.put, zl, z0, z1]
  refine tL (v := ?_) 3 rfl (by kernel_rfl) (fun _ _ _ h => hp _ _ _ _ _ h) (Or.inl ⟨by rfl, ?_⟩) (by assumption) ?_; rotate_left
  · (intro w hSw; (try dsimp only at hSw); go_simp; try with_reducible rfl)
  try simp only [Act.put, zl, z0, z1]
  refine tL (v := ?_) 4 rfl (by kernel_rfl) (fun _ _ _ h => hp _ _ _ _ _ h) (Or.inl ⟨by rfl, ?_⟩) (by assumption) ?_; rotate_left
  · (intro w hSw; (try dsimp only at hSw); go_simp; try with_reducible rfl)
  try simp only [Act.put, zl, z0, z1]
  refine tL (v := ?_) 5 rfl (by kernel_rfl) (fun _ _ _ h => hp _ _ _ _ _ h) (Or.inl ⟨by rfl, ?_⟩) (by assumption) ?_; rotate_left
  · (intro w hSw; (try dsimp only at hSw); go_simp; try with_reducible rfl)
  try simp only [Act.put, zl, z0, z1]
  refine tL (v := ?_) 6 rfl (by kernel_rfl) (fun _ _ _ h => hp _ _ _ _ _ h) (Or.inl ⟨by rfl, ?_⟩) (by assumption) ?_; rotate_left
  · (intro w hSw; (try dsimp only at hSw); go_simp; try with_reducible rfl)
  try simp only [Act.put, zl, z0, z1]
  refine tL (v := ?_) 7 rfl (by kernel_rfl) (fun _ _ _ h => hp _ _ _ _ _ h) (Or.inl ⟨by rfl, ?_⟩) (by assumption) ?_; rotate_left
  · (intro w hSw; (try dsimp only at hSw); go_simp; try with_reducible rfl)
  try simp only [Act.put, zl, z0, z1]
  refine tL (v := ?_) 8 rfl (by kernel_rfl) (fun _ _ _ h => hp _ _ _ _ _ h) (Or.inl ⟨by rfl, ?_⟩) (by assumption) ?_; rotate_left
  · (intro w hSw; (try dsimp only at hSw); go_simp; try with_reducible rfl)
  try simp only [Act.put, zl, z0, z1]
  refine tL (v := ?_) 9 rfl (by kernel_rfl) (fun _ _ _ h => hp _ _ _ _ _ h) (Or.inl ⟨by rfl, ?_⟩) (by assumption) ?_; rotate_left
  · (intro w hSw; (try dsimp only at hSw); go_simp; try with_reducible rfl)
  try simp only [Act.put, zl, z0, z1]
  refine tL (v := ?_) 10 rfl (by kernel_rfl) (fun _ _ _ h => hp _ _ _ _ _ h) (Or.inl ⟨by rfl, ?_⟩) (by assumption) ?_; rotate_left
  · (intro w hSw; (try dsimp only at hSw); go_simp; try with_reducible rfl)
  try simp only [Act.put, zl, z0, z1]
  refine tL (v := ?_) 11 rfl (by kernel_rfl) (fun _ _ _ h => hp _ _ _ _ _ h) (Or.inl ⟨by rfl, ?_⟩) (by assumption) ?_; rotate_left
  · (intro w hSw; (try dsimp only at hSw); go_simp; try with_reducible rfl)
  try simp only [Act.put, zl, z0, z1]
  refine tL (v := ?_) 12 rfl (by kernel_rfl) (fun _ _ _ h => hp _ _ _ _ _ h) (Or.inl ⟨by rfl, ?_⟩) (by assumption) ?_; rotate_left
  · (intro w hSw; (try dsimp only at hSw); go_simp; try with_reducible rfl)
  try simp only [Act.put, zl, z0, z1]
  refine tL (v := ?_) 13 rfl (by kernel_rfl) (fun _ _ _ h => hp _ _ _ _ _ h) (Or.inl ⟨by rfl, ?_⟩) (by assumption) ?_; rotate_left
  · (intro w hSw; (try dsimp only at hSw); go_simp; try with_reducible rfl)
  try simp only [Act.put, zl, z0, z1]
  refine tL (v := ?_) 14 rfl (by kernel_rfl) (fun _ _ _ h => hp _ _ _ _ _ h) (Or.inl ⟨by rfl, ?_⟩) (by assumption) ?_; rotate_left
  · (intro w hSw; (try dsimp only at hSw); go_simp; try with_reducible rfl)
  try simp only [Act.put, zl, z0, z1]
  refine takeL 15 rfl (by kernel_rfl) (by kernel_rfl) (by kernel_rfl) (fun _ _ _ h => hp _ _ _ _ _ h) (Or.inr ⟨by rfl, rfl⟩) (by assumption) ?_
  try simp only [Act.put, zl, z0, z1]
  refine takeL 16 rfl (by kernel_rfl) (by kernel_rfl) (by kernel_rfl) (fun _ _ _ h => hp _ _ _ _ _ h) (Or.inr ⟨by rfl, rfl⟩) (by assumption) ?_
  try simp only [Act.put, zl, z0, z1]
  refine takeL 17 rfl (by kernel_rfl) (by kernel_rfl) (by kernel_rfl) (fun _ _ _ h => hp _ _ _ _ _ h) (Or.inr ⟨by rfl, rfl⟩) (by assumption) ?_
  try simp only [Act.put, zl, z0, z1]
  refine takeL 18 rfl (by kernel_rfl) (by kernel_rfl) (by kernel_rfl) (fun _ _ _ h => hp _ _ _ _ _ h) (Or.inr ⟨by rfl, rfl⟩) (by assumption) ?_
  try simp only [Act.put, zl, z0, z1]
  refine takeL 19 rfl (by kernel_rfl) (by kernel_rfl) (by kernel_rfl) (fun _ _ _ h => hp _ _ _ _ _ h) (Or.inr ⟨by rfl, rfl⟩) (by assumption) ?_
  try simp only [Act.put, zl, z0, z1]
  refine takeL 20 rfl (by kernel_rfl) (by kernel_rfl) (by kernel_rfl) (fun _ _ _ h => hp _ _ _ _ _ h) (Or.inr ⟨by rfl, rfl⟩) (by assumption) ?_
  try simp only [Act.put, zl, z0, z1]
  refine tL (v := ?_) 21 rfl (by kernel_rfl) (fun _ _ _ h => hp _ _ _ _ _ h) (Or.inl ⟨by rfl, ?_⟩) (by assumption) ?_; rotate_left
  · (intro w hSw; (try dsimp only at hSw); go_simp; try with_reducible rfl)
  try simp only [Act.put, zl, z0, z1]
  refine tL (v := ?_) 22 rfl (by kernel_rfl) (fun _ _ _ h => hp _ _ _ _ _ h) (Or.inl ⟨by rfl, ?_⟩) (by assumption) ?_; rotate_left
  · (intro w hSw; (try dsimp only at hSw); go_simp; try with_reducible rfl)
  try simp only [Act.put, zl, z0, z1]
  refine takeL 23 rfl (by kernel_rfl) (by kernel_rfl) (by kernel_rfl) (fun _ _ _ h => hp _ _ _ _ _ h) (Or.inr ⟨by rfl, rfl⟩) (by assumption) ?_
  try simp only [Act.put, zl, z0, z1]
  refine takeL 24 rfl (by kernel_rfl) (by kernel_rfl) (by kernel_rfl) (fun _ _ _ h => hp _ _ _ _ _ h) (Or.inr ⟨by rfl, rfl⟩) (by assumption) ?_
  try simp only [Act.put, zl, z0, z1]
  refine takeL 25 rfl (by kernel_rfl) (by kernel_rfl) (by kernel_rfl) (fun _ _ _ h => hp _ _ _ _ _ h) (Or.inr ⟨by rfl, rfl⟩) (by assumption) ?_
  try simp only [Act.put, zl, z0, z1]
  refine takeL 26 rfl (by kernel_rfl) (by kernel_rfl) (by kernel_rfl) (fun _ _ _ h => hp _ _ _ _ _ h) (Or.inr ⟨by rfl, rfl⟩) (by assumption) ?_
  try simp only [Act.put, zl, z0, z1]
  refine takeL 27 rfl (by kernel_rfl) (by kernel_rfl) (by kernel_rfl) (fun _ _ _ h => hp _ _ _ _ _ h) (Or.inr ⟨by rfl, rfl⟩) (by assumption) ?_
  try simp only [Act.put, zl, z0, z1]
  refine takeL 28 rfl (by kernel_rfl) (by kernel_rfl) (by kernel_rfl) (fun _ _ _ h => hp _ _ _ _ _ h) (Or.inr ⟨by rfl, rfl⟩) (by assumption) ?_
  try simp only [Act.put, zl, z0, z1]
  refine takeL 29 rfl (by kernel_rfl) (by kernel_rfl) (by kernel_rfl) (fun _ _ _ h => hp _ _ _ _ _ h) (Or.inr ⟨by rfl, rfl⟩) (by assumption) ?_
  try simp only [Act.put, zl, z0, z1]
  refine takeL 30 rfl (by kernel_rfl) (by kernel_rfl) (by kernel_rfl) (fun _ _ _ h => hp _ _ _ _ _ h) (Or.inr ⟨by rfl, rfl⟩) (by assumption) ?_
  try simp only [Act.put, zl, z0, z1]
  refine takeL 31 rfl (by kernel_rfl) (by kernel_rfl) (by kernel_rfl) (fun _ _ _ h => hp _ _ _ _ _ h) (Or.inr ⟨by rfl, rfl⟩) (by assumption) ?_
  try simp only [Act.put, zl, z0, z1]
  refine takeL 32 rfl (by kernel_rfl) (by kernel_rfl) (by kernel_rfl) (fun _ _ _ h => hp _ _ _ _ _ h) (Or.inr ⟨by rfl, rfl⟩) (by assumption) ?_
  try simp only [Act.put, zl, z0, z1]
  refine takeL 33 rfl (by kernel_rfl) (by kernel_rfl) (by kernel_rfl) (fun _ _ _ h => hp _ _ _ _ _ h) (Or.inr ⟨by rfl, rfl⟩) (by assumption) ?_
  try simp only [Act.put, zl, z0, z1]
  refine takeL 34 rfl (by kernel_rfl) (by kernel_rfl) (by kernel_rfl) (fun _ _ _ h => hp _ _ _ _ _ h) (Or.inr ⟨by rfl, rfl⟩) (by assumption) ?_
  try simp only [Act.put, zl, z0, z1]
  refine tL (v := ?_) 35 rfl (by kernel_rfl) (fun _ _ _ h => hp _ _ _ _ _ h) (Or.inl ⟨by rfl, ?_⟩) (by assumption) ?_; rotate_left
  · (intro w hSw; (try dsimp only at hSw); go_simp; try with_reducible rfl)
  try simp only [Act.put, zl, z0, z1]
  refine tL (v := ?_) 36 rfl (by kernel_rfl) (fun _ _ _ h => hp _ _ _ _ _ h) (Or.inl ⟨by rfl, ?_⟩) (by assumption) ?_; rotate_left
  · (intro w hSw; (try dsimp only at hSw); go_simp; try with_reducible rfl)
  try simp only [Act.put, zl, z0, z1]
  refine takeL 37 rfl (by kernel_rfl) (by kernel_rfl) (by kernel_rfl) (fun _ _ _ h => hp _ _ _ _ _ h) (Or.inr ⟨by rfl, rfl⟩) (by assumption) ?_
  try simp only [Act.put, zl, z0, z1]
  refine takeL 38 rfl (by kernel_rfl) (by kernel_rfl) (by kernel_rfl) (fun _ _ _ h => hp _ _ _ _ _ h) (Or.inr ⟨by rfl, rfl⟩) (by assumption) ?_
  try simp only [Act.put, zl, z0, z1]
  refine takeL 39 rfl (by kernel_rfl) (by kernel_rfl) (by kernel_rfl) (fun _ _ _ h => hp _ _ _ _ _ h) (Or.inr ⟨by rfl, rfl⟩) (by assumption) ?_
  try simp only [Act.put, zl, z0, z1]
  refine takeL 40 rfl (by kernel_rfl) (by kernel_rfl) (by kernel_rfl) (fun _ _ _ h => hp _ _ _ _ _ h) (Or.inr ⟨by rfl, rfl⟩) (by assumption) ?_
  try simp only [Act.put, zl, z0, z1]
  refine takeL 41 rfl (by kernel_rfl) (by kernel_rfl) (by kernel_rfl) (fun _ _ _ h => hp _ _ _ _ _ h) (Or.inr ⟨by rfl, rfl⟩) (by assumption) ?_
  try simp only [Act.put, zl, z0, z1]
  refine takeL 42 rfl (by kernel_rfl) (by kernel_rfl) (by kernel_rfl) (fun _ _ _ h => hp _ _ _ _ _ h) (Or.inr ⟨by rfl, rfl⟩) (by assumption) ?_
  try simp only [Act.put, zl, z0, z1]
  refine takeL 43 rfl (by kernel_rfl) (by kernel_rfl) (by kernel_rfl) (fun _ _ _ h => hp _ _ _ _ _ h) (Or.inr ⟨by rfl, rfl⟩) (by assumption) ?_
  try simp only [Act.put, zl, z0, z1]
  refine takeL 44 rfl (by kernel_rfl) (by kernel_rfl) (by kernel_rfl) (fun _ _ _ h => hp _ _ _ _ _ h) (Or.inr ⟨by rfl, rfl⟩) (by assumption) ?_
  try simp only [Act.put, zl, z0, z1]
  refine takeL 45 rfl (by kernel_rfl) (by kernel_rfl) (by kernel_rfl) (fun _ _ _ h => hp _ _ _ _ _ h) (Or.inr ⟨by rfl, rfl⟩) (by assumption) ?_
  try simp only [Act.put, zl, z0, z1]
  refine takeL 46 rfl (by kernel_rfl) (by kernel_rfl) (by kernel_rfl) (fun _ _ _ h => hp _ _ _ _ _ h) (Or.inr ⟨by rfl, rfl⟩) (by assumption) ?_
  try simp only [Act.put, zl, z0, z1]
  refine takeL 47 rfl (by kernel_rfl) (by kernel_rfl) (by kernel_rfl) (fun _ _ _ h => hp _ _ _ _ _ h) (Or.inr ⟨by rfl, rfl⟩) (by assumption) ?_
  try simp only [Act.put, zl, z0, z1]
  refine takeL 48 rfl (by kernel_rfl) (by kernel_rfl) (by kernel_rfl) (fun _ _ _ h => hp _ _ _ _ _ h) (Or.inr ⟨by rfl, rfl⟩) (by assumption) ?_
  try simp only [Act.put, zl, z0, z1]
  refine takeL 49 rfl (by kernel_rfl) (by kernel_rfl) (by kernel_rfl) (fun _ _ _ h => hp _ _ _ _ _ h) (Or.inr ⟨by rfl, rfl⟩) (by assumption) ?_
  try simp only [Act.put, zl, z0, z1]
  refine takeL 50 rfl (by kernel_rfl) (by kernel_rfl) (by kernel_rfl) (fun _ _ _ h => hp _ _ _ _ _ h) (Or.inr ⟨by rfl, rfl⟩) (by assumption) ?_
  try simp only [Act.put, zl, z0, z1]
  refine tL (v := ?_) 51 rfl (by kernel_rfl) (fun _ _ _ h => hp _ _ _ _ _ h) (Or.inl ⟨by rfl, ?_⟩) (by assumption) ?_; rotate_left
  · (intro w hSw; (try dsimp only at hSw); go_simp; try with_reducible rfl)
  try simp only [Act.put, zl, z0, z1]
  refine wpAnyH_done (by kernel_rfl) ?_ _
  refine hK _ _ _ _ _ _ _ _ _ _ _ _ _ _ _ _ _ _ _ _ _ _ _ _ _ _ _ _ _ _ _ _ _ _ _ _ _ _ _ _ _ _ _ _ _ _ _ _ _ _ _ _ (hide (show Below W1.heap.size W1 _ from by exact zbD (zbR _ _)))

set_option maxRecDepth 100000 in
set_option maxHeartbeats 64000000 in
theorem cnt8_high {K : Act → World → Prop} {Q : Exit → Act → World → Prop} (hp : ∀ c a d v w, Q (.panic c) (Act.put a d v) w → Q (.panic c) a w) (a : L.Ap) (b o i n c : Nat) (W1 : World) (hi0 : (0 : Int) ≤ (i : Int)) (hlt' : (i : Int) < (n : Int)) (hn8 : (n : Int) ≤ 8) (lbr : b < W1.heap.size) (HLEN : Hid (a.v.ss.length = a.n)) (HRD : Hid (RdS W1 W1.heap.size a.A a.v.ss)) (c0 : W1.cell? ⟨b, o + i * 14, none⟩ = some (.int .i64 a.kind)) (c1 : W1.cell? ⟨b, o + i * 14 + 1, none⟩ = some (.int .i64 a.side)) (c2 : W1.cell? ⟨b, o + i * 14 + 2, none⟩ = some (.int .i64 a.said)) (c3 : W1.cell? ⟨b, o + i * 14 + 3, none⟩ = some (.int .i64 a.v.size)) (c4 : W1.cell? ⟨b, o + i * 14 + 4, none⟩ = some (.slice a.A a.n a.c)) (c5 : W1.cell? ⟨b, o + i * 14 + 5, none⟩ = some (.int .i64 a.v.wrong)) (c6 : W1.cell? ⟨b, o + i * 14 + 6, none⟩ = some (.int .i64 a.v.hxl)) (c7 : W1.cell? ⟨b, o + i * 14 + 7, none⟩ = some (.int .i64 a.v.hxh)) (c8 : W1.cell? ⟨b, o + i * 14 + 8, none⟩ = some (.int .i64 a.v.hyl)) (c9 : W1.cell? ⟨b, o + i * 14 + 9, none⟩ = some (.int .i64 a.v.hyh)) (c10 : W1.cell? ⟨b, o + i * 14 + 10, none⟩ = some (.int .i64 a.b.l)) (c11 : W1.cell? ⟨b, o + i * 14 + 11, none⟩ = some (.int .i64 a.b.r)) (c12 : W1.cell? ⟨b, o + i * 14 + 12, none⟩ = some (.int .i64 a.b.b)) (c13 : W1.cell? ⟨b, o + i * 14 + 13, none⟩ = some (.int .i64 a.b.t)) (d1 : (a.kind != 3) = false) (v0 : decide (a.side < 0) = false) (v1 : decide (1 < a.side) = true) (f0 f2 f3 f4 f5 f6 f8 f9 f10 f11 f12 f13 f14 f15 f16 f17 f18 f19 f20 f21 f22 f23 f24 f25 f26 f27 f28 f29 f30 f31 f32 f33 f34 f35 f36 f37 f38 f39 f40 f41 f42 f43 f44 f45 f46 f47 f48 f49 f50 f51 f52 f53 f54 f55 f56 f57 f58 f59 f60 f61 f62 f63 f64 f65 f66 f67 f68 f69 f70 f71 f72 f73 f74 f75 f76 f77 f78 f79 f80 f81 f82 f83 f84 f85 f86 f87 f88 f89 f90 f91 f92 f93 f94 f95 f96 f97 f98 f99 f100 f101 f102 f103 f104 f105 f106 f107 f108 f109 f110 f111 f112 f113 f114 f115 f116 f117 f118 f119 f120 f121 f122 f123 f124 f125 f126 f127 f128 f129 f130 f131 f132 f133 f134 f135 f136 f137 f138 f139 f140 f141 f142 f143 f144 f145 f146 f147 f148 f149 f150 f151 f152 f153 f154 f155 f156 f157 f158 f159 f160 f161 f162 f163 f164 f165 f166 f167 f168 f169 f170 f171 f172 f173 f174 f175 f176 f177 f178 f179 f180 f181 f182 f183 f184 f185 f186 f187 f188 f189 f190 f191 f192 f193 f194 f195 f196 f197 f198 f199 f200 f201 f202 f203 f204 f205 f206 f207 f208 f209 f210 f211 f212 f213 f214 f215 f216 f217 f218 f219 f220 f221 f222 f223 f224 f225 f226 f227 f228 f229 f230 f231 f232 f233 f234 f235 f236 f237 f238 f239 f240 f241 f242 f243 f244 f245 f246 f247 f248 f249 f250 f251 f252 f253 f254 f255 f256 f257 f258 f259 f260 f261 f262 f263 f264 f265 f266 f267 f268 f269 f270 f271 f272 f273 f274 f275 f276 f277 f278 f279 f280 f281 : Value)
    (hK : ∀ (u54 u55 u56 u57 u58 u59 u60 u61 u62 u63 u64 u65 u66 u67 u68 u69 u70 u71 u72 u73 u74 u75 u76 u77 u78 u79 u80 u81 u82 u83 u84 u85 u86 u87 u88 u89 u90 u91 u92 u93 u94 u95 u96 u97 u98 u99 u100 u101 u102 u103 u104 : Value) (w6 : World), Hid (Below W1.heap.size W1 w6) → K ⟨#[f0, .slice (some ⟨b, o, none⟩) n c, f2, f3, f4, f5, f6, .int .i64 (i : Int), f8, f9, f10, f11, f12, f13, f14, f15, f16, f17, f18, f19, f20, f21, f22, f23, f24, f25, f26, f27, f28, f29, f30, f31, f32, f33, f34, f35, f36, f37, f38, f39, f40, f41, f42, f43, f44, f45, f46, f47, f48, f49, f50, f51, f52, f53, u54, u55, u56, u57, u58, u59, u60, u61, u62, u63, u64, u65, u66, u67, u68, u69, u70, u71, u72, u73, u74, u75, u76, u77, u78, u79, u80, u81, u82, u83, u84, u85, u86, u87, u88, u89, u90, u91, u92, u93, u94, u95, u96, u97, u98, u99, u100, u101, u102, u103, u104, .bool true, f106, f107, f108, f109, f110, f111, f112, f113, f114, f115, f116, f117, f118, f119, f120, f121, f122, f123, f124, f125, f126, f127, f128, f129, f130, f131, f132, f133, f134, f135, f136, f137, f138, f139, f140, f141, f142, f143, f144, f145, f146, f147, f148, f149, f150, f151, f152, f153, f154, f155, f156, f157, f158, f159, f160, f161, f162, f163, f164, f165, f166, f167, f168, f169, f170, f171, f172, f173, f174, f175, f176, f177, f178, f179, f180, f181, f182, f183, f184, f185, f186, f187, f188, f189, f190, f191, f192, f193, f194, f195, f196, f197, f198, f199, f200, f201, f202, f203, f204, f205, f206, f207, f208, f209, f210, f211, f212, f213, f214, f215, f216, f217, f218, f219, f220, f221, f222, f223, f224, f225, f226, f227, f228, f229, f230, f231, f232, f233, f234, f235, f236, f237, f238, f239, f240, f241, f242, f243, f244, f245, f246, f247, f248, f249, f250, f251, f252, f253, f254, f255, f256, f257, f258, f259, f260, f261, f262, f263, f264, f265, f266, f267, f268, f269, f270, f271, f272, f273, f274, f275, f276, f277, f278, f279, f280, f281], []⟩ w6) :
    Code.wp Try.prog (cntReg 8) (Exit.then K Q) ⟨#[f0, .slice (some ⟨b, o, none⟩) n c, f2, f3, f4, f5, f6, .int .i64 (i : Int), f8, f9, f10, f11, f12, f13, f14, f15, f16, f17, f18, f19, f20, f21, f22, f23, f24, f25, f26, f27, f28, f29, f30, f31, f32, f33, f34, f35, f36, f37, f38, f39, f40, f41, f42, f43, f44, f45, f46, f47, f48, f49, f50, f51, f52, f53, f54, f55, f56, f57, f58, f59, f60, f61, f62, f63, f64, f65, f66, f67, f68, f69, f70, f71, f72, f73, f74, f75, f76, f77, f78, f79, f80, f81, f82, f83, f84, f85, f86, f87, f88, f89, f90, f91, f92, f93, f94, f95, f96, f97, f98, f99, f100, f101, f102, f103, f104, f105, f106, f107, f108, f109, f110, f111, f112, f113, f114, f115, f116, f117, f118, f119, f120, f121, f122, f123, f124, f125, f126, f127, f128, f129, f130, f131, f132, f133, f134, f135, f136, f137, f138, f139, f140, f141, f142, f143, f144, f145, f146, f147, f148, f149, f150, f151, f152, f153, f154, f155, f156, f157, f158, f159, f160, f161, f162, f163, f164, f165, f166, f167, f168, f169, f170, f171, f172, f173, f174, f175, f176, f177, f178, f179, f180, f181, f182, f183, f184, f185, f186, f187, f188, f189, f190, f191, f192, f193, f194, f195, f196, f197, f198, f199, f200, f201, f202, f203, f204, f205, f206, f207, f208, f209, f210, f211, f212, f213, f214, f215, f216, f217, f218, f219, f220, f221, f222, f223, f224, f225, f226, f227, f228, f229, f230, f231, f232, f233, f234, f235, f236, f237, f238, f239, f240, f241, f242, f243, f244, f245, f246, f247, f248, f249, f250, f251, f252, f253, f254, f255, f256, f257, f258, f259, f260, f261, f262, f263, f264, f265, f266, f267, f268, f269, f270, f271, f272, f273, f274, f275, f276, f277, f278, f279, f280, f281], []⟩ W1 := by
  conv => arg 2; whnf
  have hS : (fun w' => Below W1.heap.size W1 w' ∧ b < w'.heap.size ∧ w'.cell? ⟨b, o + i * 14, none⟩ = some (.int .i64 a.kind) ∧ w'.cell? ⟨b, o + i * 14 + 1, none⟩ = some (.int .i64 a.side) ∧ w'.cell? ⟨b, o + i * 14 + 2, none⟩ = some (.int .i64 a.said) ∧ w'.cell? ⟨b, o + i * 14 + 3, none⟩ = some (.int .i64 a.v.size) ∧ w'.cell? ⟨b, o + i * 14 + 4, none⟩ = some (.slice a.A a.n a.c) ∧ w'.cell? ⟨b, o + i * 14 + 5, none⟩ = some (.int .i64 a.v.wrong) ∧ w'.cell? ⟨b, o + i * 14 + 6, none⟩ = some (.int .i64 a.v.hxl) ∧ w'.cell? ⟨b, o + i * 14 + 7, none⟩ = some (.int .i64 a.v.hxh) ∧ w'.cell? ⟨b, o + i * 14 + 8, none⟩ = some (.int .i64 a.v.hyl) ∧ w'.cell? ⟨b, o + i * 14 + 9, none⟩ = some (.int .i64 a.v.hyh) ∧ w'.cell? ⟨b, o + i * 14 + 10, none⟩ = some (.int .i64 a.b.l) ∧ w'.cell? ⟨b, o + i * 14 + 11, none⟩ = some (.int .i64 a.b.r) ∧ w'.cell? ⟨b, o + i * 14 + 12, none⟩ = some (.int .i64 a.b.b) ∧ w'.cell? ⟨b, o + i * 14 + 13, none⟩ = some (.int .i64 a.b.t)) W1 := ⟨Below.refl _ _, lbr, c0, c1, c2, c3, c4, c5, c6, c7, c8, c9, c10, c11, c12, c13⟩
  have hkeep : ∀ u u' : World, Below u.heap.size u u' → (Below W1.heap.size W1 u ∧ b < u.heap.size ∧ u.cell? ⟨b, o + i * 14, none⟩ = some (.int .i64 a.kind) ∧ u.cell? ⟨b, o + i * 14 + 1, none⟩ = some (.int .i64 a.side) ∧ u.cell? ⟨b, o + i * 14 + 2, none⟩ = some (.int .i64 a.said) ∧ u.cell? ⟨b, o + i * 14 + 3, none⟩ = some (.int .i64 a.v.size) ∧ u.cell? ⟨b, o + i * 14 + 4, none⟩ = some (.slice a.A a.n a.c) ∧ u.cell? ⟨b, o + i * 14 + 5, none⟩ = some (.int .i64 a.v.wrong) ∧ u.cell? ⟨b, o + i * 14 + 6, none⟩ = some (.int .i64 a.v.hxl) ∧ u.cell? ⟨b, o + i * 14 + 7, none⟩ = some (.int .i64 a.v.hxh) ∧ u.cell? ⟨b, o + i * 14 + 8, none⟩ = some (.int .i64 a.v.hyl) ∧ u.cell? ⟨b, o + i * 14 + 9, none⟩ = some (.int .i64 a.v.hyh) ∧ u.cell? ⟨b, o + i * 14 + 10, none⟩ = some (.int .i64 a.b.l) ∧ u.cell? ⟨b, o + i * 14 + 11, none⟩ = some (.int .i64 a.b.r) ∧ u.cell? ⟨b, o + i * 14 + 12, none⟩ = some (.int .i64 a.b.b) ∧ u.cell? ⟨b, o + i * 14 + 13, none⟩ = some (.int .i64 a.b.t)) → (Below W1.heap.size W1 u' ∧ b < u'.heap.size ∧ u'.cell? ⟨b, o + i * 14, none⟩ = some (.int .i64 a.kind) ∧ u'.cell? ⟨b, o + i * 14 + 1, none⟩ = some (.int .i64 a.side) ∧ u'.cell? ⟨b, o + i * 14 + 2, none⟩ = some (.int .i64 a.said) ∧ u'.cell? ⟨b, o + i * 14 + 3, none⟩ = some (.int .i64 a.v.size) ∧ u'.cell? ⟨b, o + i * 14 + 4, none⟩ = some (.slice a.A a.n a.c) ∧ u'.cell? ⟨b, o + i * 14 + 5, none⟩ = some (.int .i64 a.v.wrong) ∧ u'.cell? ⟨b, o + i * 14 + 6, none⟩ = some (.int .i64 a.v.hxl) ∧ u'.cell? ⟨b, o + i * 14 + 7, none⟩ = some (.int .i64 a.v.hxh) ∧ u'.cell? ⟨b, o + i * 14 + 8, none⟩ = some (.int .i64 a.v.hyl) ∧ u'.cell? ⟨b, o + i * 14 + 9, none⟩ = some (.int .i64 a.v.hyh) ∧ u'.cell? ⟨b, o + i * 14 + 10, none⟩ = some (.int .i64 a.b.l) ∧ u'.cell? ⟨b, o + i * 14 + 11, none⟩ = some (.int .i64 a.b.r) ∧ u'.cell? ⟨b, o + i * 14 + 12, none⟩ = some (.int .i64 a.b.b) ∧ u'.cell? ⟨b, o + i * 14 + 13, none⟩ = some (.int .i64 a.b.t)) := by
    rintro u u' hb ⟨hB, l_b, k0, k1, k2, k3, k4, k5, k6, k7, k8, k9, k10, k11, k12, k13⟩
    exact ⟨hB.trans (hb.mono hB.size), Nat.lt_of_lt_of_le l_b hb.size, (hb.cell (p := ⟨b, o + i * 14, none⟩) l_b).trans k0, (hb.cell (p := ⟨b, o + i * 14 + 1, none⟩) l_b).trans k1, (hb.cell (p := ⟨b, o + i * 14 + 2, none⟩) l_b).trans k2, (hb.cell (p := ⟨b, o + i * 14 + 3, none⟩) l_b).trans k3, (hb.cell (p := ⟨b, o + i * 14 + 4, none⟩) l_b).trans k4, (hb.cell (p := ⟨b, o + i * 14 + 5, none⟩) l_b).trans k5, (hb.cell (p := ⟨b, o + i * 14 + 6, none⟩) l_b).trans k6, (hb.cell (p := ⟨b, o + i * 14 + 7, none⟩) l_b).trans k7, (hb.cell (p := ⟨b, o + i * 14 + 8, none⟩) l_b).trans k8, (hb.cell (p := ⟨b, o + i * 14 + 9, none⟩) l_b).trans k9, (hb.cell (p := ⟨b, o + i * 14 + 10, none⟩) l_b).trans k10, (hb.cell (p := ⟨b, o + i * 14 + 11, none⟩) l_b).trans k11, (hb.cell (p := ⟨b, o + i * 14 + 12, none⟩) l_b).trans k12, (hb.cell (p := ⟨b, o + i * 14 + 13, none⟩) l_b).trans k13⟩
  (try dsimp only at hS)
  refine wp_region_held_drew (S := (fun w' => Below W1.heap.size W1 w' ∧ b < w'.heap.size ∧ w'.cell? ⟨b, o + i * 14, none⟩ = some (.int .i64 a.kind) ∧ w'.cell? ⟨b, o + i * 14 + 1, none⟩ = some (.int .i64 a.side) ∧ w'.cell? ⟨b, o + i * 14 + 2, none⟩ = some (.int .i64 a.said) ∧ w'.cell? ⟨b, o + i * 14 + 3, none⟩ = some (.int .i64 a.v.size) ∧ w'.cell? ⟨b, o + i * 14 + 4, none⟩ = some (.slice a.A a.n a.c) ∧ w'.cell? ⟨b, o + i * 14 + 5, none⟩ = some (.int .i64 a.v.wrong) ∧ w'.cell? ⟨b, o + i * 14 + 6, none⟩ = some (.int .i64 a.v.hxl) ∧ w'.cell? ⟨b, o + i * 14 + 7, none⟩ = some (.int .i64 a.v.hxh) ∧ w'.cell? ⟨b, o + i * 14 + 8, none⟩ = some (.int .i64 a.v.hyl) ∧ w'.cell? ⟨b, o + i * 14 + 9, none⟩ = some (.int .i64 a.v.hyh) ∧ w'.cell? ⟨b, o + i * 14 + 10, none⟩ = some (.int .i64 a.b.l) ∧ w'.cell? ⟨b, o + i * 14 + 11, none⟩ = some (.int .i64 a.b.r) ∧ w'.cell? ⟨b, o + i * 14 + 12, none⟩ = some (.int .i64 a.b.b) ∧ w'.cell? ⟨b, o + i * 14 + 13, none⟩ = some (.int .i64 a.b.t))) (by kernel_rfl) ?_ (fun hHeld0 => ?_)
  · (try dsimp only); (first | (go_keep; done) | (go_split_ands; (repeat' apply And.intro) <;> first | (go_keep; done) | (simp [*, zcA, zcP, zfA, zfP]; done) | (simp [zcA, zcP] <;> rfl) | (simp [*, zsS, zsO, zsA]; done) | ((first | refine (hc _ _ ?_).trans ?_ | refine (hf _ _ ?_).trans ?_) <;> first | assumption | (simp; done) | (simp; omega) | omega | (go_keep; done) | (simp [*, zcA, zcP, zfA, zfP]; done) | (simp [zcA, zcP]; rfl)) | (repeat' first | exact zbR _ _ | assumption | refine zbD ?_ | refine zbA ?_ ?_ _ | refine zbS ?_ ?_ _ | refine zbT ?_ (by assumption) ?_ | (simp; done) | (simp; omega) | omega)))
  refine tL (v := ?_) 0 rfl (by kernel_rfl) (fun _ _ _ h => hp _ _ _ _ _ h) (Or.inl ⟨by rfl, ?_⟩) (by assumption) ?_; rotate_left
  · (intro w hSw; (try dsimp only at hSw); go_simp; try with_reducible rfl)
  try simp only [Act.put, zl, z0, z1]
  refine tL (v := ?_) 1 rfl (by kernel_rfl) (fun _ _ _ h => hp _ _ _ _ _ h) (Or.inl ⟨by rfl, ?_⟩) (by assumption) ?_; rotate_left
  · (intro w hSw; (try dsimp only at hSw); go_simp; try with_reducible rfl)
  try simp only [Act.put, zl, z0, z1]
  refine tL (v := ?_) 2 rfl (by kernel_rfl) (fun _ _ _ h => hp _ _ _ _ _ h) (Or.inl ⟨by rfl, ?_⟩) (by assumption) ?_; rotate_left
  · (intro w hSw; (try dsimp only at hSw); go_simp; try with_reducible rfl)
  try simp only [Act.put, zl, z0, z1]
  refine tL (v := ?_) 3 rfl (by kernel_rfl) (fun _ _ _ h => hp _ _ _ _ _ h) (Or.inl ⟨by rfl, ?_⟩) (by assumption) ?_; rotate_left
  · (intro w hSw; (try dsimp only at hSw); go_simp; try with_reducible rfl)
  try simp only [Act.put, zl, z0, z1]
  refine tL (v := ?_) 4 rfl (by kernel_rfl) (fun _ _ _ h => hp _ _ _ _ _ h) (Or.inl ⟨by rfl, ?_⟩) (by assumption) ?_; rotate_left
  · (intro w hSw; (try dsimp only at hSw); go_simp; try with_reducible rfl)
  try simp only [Act.put, zl, z0, z1]
  refine tL (v := ?_) 5 rfl (by kernel_rfl) (fun _ _ _ h => hp _ _ _ _ _ h) (Or.inl ⟨by rfl, ?_⟩) (by assumption) ?_; rotate_left
  · (intro w hSw; (try dsimp only at hSw); go_simp; try with_reducible rfl)
  try simp only [Act.put, zl, z0, z1]
  refine tL (v := ?_) 6 rfl (by kernel_rfl) (fun _ _ _ h => hp _ _ _ _ _ h) (Or.inl ⟨by rfl, ?_⟩) (by assumption) ?_; rotate_left
  · (intro w hSw; (try dsimp only at hSw); go_simp; try with_reducible rfl)
  try simp only [Act.put, zl, z0, z1]
  refine tL (v := ?_) 7 rfl (by kernel_rfl) (fun _ _ _ h => hp _ _ _ _ _ h) (Or.inl ⟨by rfl, ?_⟩) (by assumption) ?_; rotate_left
  · (intro w hSw; (try dsimp only at hSw); go_simp; try with_reducible rfl)
  try simp only [Act.put, zl, z0, z1]
  refine tL (v := ?_) 8 rfl (by kernel_rfl) (fun _ _ _ h => hp _ _ _ _ _ h) (Or.inl ⟨by rfl, ?_⟩) (by assumption) ?_; rotate_left
  · (intro w hSw; (try dsimp only at hSw); go_simp; try with_reducible rfl)
  try simp only [Act.put, zl, z0, z1]
  refine tL (v := ?_) 9 rfl (by kernel_rfl) (fun _ _ _ h => hp _ _ _ _ _ h) (Or.inl ⟨by rfl, ?_⟩) (by assumption) ?_; rotate_left
  · (intro w hSw; (try dsimp only at hSw); go_simp; try with_reducible rfl)
  try simp only [Act.put, zl, z0, z1]
  refine tL (v := ?_) 10 rfl (by kernel_rfl) (fun _ _ _ h => hp _ _ _ _ _ h) (Or.inl ⟨by rfl, ?_⟩) (by assumption) ?_; rotate_left
  · (intro w hSw; (try dsimp only at hSw); go_simp; try with_reducible rfl)
  try simp only [Act.put, zl, z0, z1]
  refine tL (v := ?_) 11 rfl (by kernel_rfl) (fun _ _ _ h => hp _ _ _ _ _ h) (Or.inl ⟨by rfl, ?_⟩) (by assumption) ?_; rotate_left
  · (intro w hSw; (try dsimp only at hSw); go_simp; try with_reducible rfl)
  try simp only [Act.put, zl, z0, z1]
  refine tL (v := ?_) 12 rfl (by kernel_rfl) (fun _ _ _ h => hp _ _ _ _ _ h) (Or.inl ⟨by rfl, ?_⟩) (by assumption) ?_; rotate_left
  · (intro w hSw; (try dsimp only at hSw); go_simp; try with_reducible rfl)
  try simp only [Act.put, zl, z0, z1]
  refine tL (v := ?_) 13 rfl (by kernel_rfl) (fun _ _ _ h => hp _ _ _ _ _ h) (Or.inl ⟨by rfl, ?_⟩) (by assumption) ?_; rotate_left
  · (intro w hSw; (try dsimp only at hSw); go_simp; try with_reducible rfl)
  try simp only [Act.put, zl, z0, z1]
  refine tL (v := ?_) 14 rfl (by kernel_rfl) (fun _ _ _ h => hp _ _ _ _ _ h) (Or.inl ⟨by rfl, ?_⟩) (by assumption) ?_; rotate_left
  · (intro w hSw; (try dsimp only at hSw); go_simp; try with_reducible rfl)
  try simp only [Act.put, zl, z0, z1]
  refine tL (v := ?_) 15 rfl (by kernel_rfl) (fun _ _ _ h => hp _ _ _ _ _ h) (Or.inl ⟨by rfl, ?_⟩) (by assumption) ?_; rotate_left
  · (intro w hSw; (try dsimp only at hSw); go_simp; try with_reducible rfl)
  try simp only [Act.put, zl, z0, z1]
  refine tL (v := ?_) 16 rfl (by kernel_rfl) (fun _ _ _ h => hp _ _ _ _ _ h) (Or.inl ⟨by rfl, ?_⟩) (by assumption) ?_; rotate_left
  · (intro w hSw; (try dsimp only at hSw); go_simp; try with_reducible rfl)
  try simp only [Act.put, zl, z0, z1]
  refine tL (v := ?_) 17 rfl (by kernel_rfl) (fun _ _ _ h => hp _ _ _ _ _ h) (Or.inl ⟨by rfl, ?_⟩) (by assumption) ?_; rotate_left
  · (intro w hSw; (try dsimp only at hSw); go_simp; try with_reducible rfl)
  try simp only [Act.put, zl, z0, z1]
  refine tL (v := ?_) 18 rfl (by kernel_rfl) (fun _ _ _ h => hp _ _ _ _ _ h) (Or.inl ⟨by rfl, ?_⟩) (by assumption) ?_; rotate_left
  · (intro w hSw; (try dsimp only at hSw); go_simp; try with_reducible rfl)
  try simp only [Act.put, zl, z0, z1]
  refine tL (v := ?_) 19 rfl (by kernel_rfl) (fun _ _ _ h => hp _ _ _ _ _ h) (Or.inl ⟨by rfl, ?_⟩) (by assumption) ?_; rotate_left
  · (intro w hSw; (try dsimp only at hSw); go_simp; try with_reducible rfl)
  try simp only [Act.put, zl, z0, z1]
  refine tL (v := ?_) 20 rfl (by kernel_rfl) (fun _ _ _ h => hp _ _ _ _ _ h) (Or.inl ⟨by rfl, ?_⟩) (by assumption) ?_; rotate_left
  · (intro w hSw; (try dsimp only at hSw); go_simp; try with_reducible rfl)
  try simp only [Act.put, zl, z0, z1]
  refine tL (v := ?_) 21 rfl (by kernel_rfl) (fun _ _ _ h => hp _ _ _ _ _ h) (Or.inl ⟨by rfl, ?_⟩) (by assumption) ?_; rotate_left
  · (intro w hSw; (try dsimp only at hSw); go_simp; try with_reducible rfl)
  try simp only [Act.put, zl, z0, z1]
  refine tL (v := ?_) 22 rfl (by kernel_rfl) (fun _ _ _ h => hp _ _ _ _ _ h) (Or.inl ⟨by rfl, ?_⟩) (by assumption) ?_; rotate_left
  · (intro w hSw; (try dsimp only at hSw); go_simp; try with_reducible rfl)
  try simp only [Act.put, zl, z0, z1]
  refine takeL 23 rfl (by kernel_rfl) (by kernel_rfl) (by kernel_rfl) (fun _ _ _ h => hp _ _ _ _ _ h) (Or.inr ⟨by rfl, rfl⟩) (by assumption) ?_
  try simp only [Act.put, zl, z0, z1]
  refine takeL 24 rfl (by kernel_rfl) (by kernel_rfl) (by kernel_rfl) (fun _ _ _ h => hp _ _ _ _ _ h) (Or.inr ⟨by rfl, rfl⟩) (by assumption) ?_
  try simp only [Act.put, zl, z0, z1]
  refine takeL 25 rfl (by kernel_rfl) (by kernel_rfl) (by kernel_rfl) (fun _ _ _ h => hp _ _ _ _ _ h) (Or.inr ⟨by rfl, rfl⟩) (by assumption) ?_
  try simp only [Act.put, zl, z0, z1]
  refine takeL 26 rfl (by kernel_rfl) (by kernel_rfl) (by kernel_rfl) (fun _ _ _ h => hp _ _ _ _ _ h) (Or.inr ⟨by rfl, rfl⟩) (by assumption) ?_
  try simp only [Act.put, zl, z0, z1]
  refine takeL 27 rfl (by kernel_rfl) (by kernel_rfl) (by kernel_rfl) (fun _ _ _ h => hp _ _ _ _ _ h) (Or.inr ⟨by rfl, rfl⟩) (by assumption) ?_
  try simp only [Act.put, zl, z0, z1]
  refine takeL 28 rfl (by kernel_rfl) (by kernel_rfl) (by kernel_rfl) (fun _ _ _ h => hp _ _ _ _ _ h) (Or.inr ⟨by rfl, rfl⟩) (by assumption) ?_
  try simp only [Act.put, zl, z0, z1]
  refine takeL 29 rfl (by kernel_rfl) (by kernel_rfl) (by kernel_rfl) (fun _ _ _ h => hp _ _ _ _ _ h) (Or.inr ⟨by rfl, rfl⟩) (by assumption) ?_
  try simp only [Act.put, zl, z0, z1]
  refine takeL 30 rfl (by kernel_rfl) (by kernel_rfl) (by kernel_rfl) (fun _ _ _ h => hp _ _ _ _ _ h) (Or.inr ⟨by rfl, rfl⟩) (by assumption) ?_
  try simp only [Act.put, zl, z0, z1]
  refine takeL 31 rfl (by kernel_rfl) (by kernel_rfl) (by kernel_rfl) (fun _ _ _ h => hp _ _ _ _ _ h) (Or.inr ⟨by rfl, rfl⟩) (by assumption) ?_
  try simp only [Act.put, zl, z0, z1]
  refine takeL 32 rfl (by kernel_rfl) (by kernel_rfl) (by kernel_rfl) (fun _ _ _ h => hp _ _ _ _ _ h) (Or.inr ⟨by rfl, rfl⟩) (by assumption) ?_
  try simp only [Act.put, zl, z0, z1]
  refine takeL 33 rfl (by kernel_rfl) (by kernel_rfl) (by kernel_rfl) (fun _ _ _ h => hp _ _ _ _ _ h) (Or.inr ⟨by rfl, rfl⟩) (by assumption) ?_
  try simp only [Act.put, zl, z0, z1]
  refine takeL 34 rfl (by kernel_rfl) (by kernel_rfl) (by kernel_rfl) (fun _ _ _ h => hp _ _ _ _ _ h) (Or.inr ⟨by rfl, rfl⟩) (by assumption) ?_
  try simp only [Act.put, zl, z0, z1]
  refine tL (v := ?_) 35 rfl (by kernel_rfl) (fun _ _ _ h => hp _ _ _ _ _ h) (Or.inl ⟨by rfl, ?_⟩) (by assumption) ?_; rotate_left
  · (intro w hSw; (try dsimp only at hSw); go_simp; try with_reducible rfl)
  try simp only [Act.put, zl, z0, z1]
  refine tL (v := ?_) 36 rfl (by kernel_rfl) (fun _ _ _ h => hp _ _ _ _ _ h) (Or.inl ⟨by rfl, ?_⟩) (by assumption) ?_; rotate_left
  · (intro w hSw; (try dsimp only at hSw); go_simp; try with_reducible rfl)
  try simp only [Act.put, zl, z0, z1]
  refine takeL 37 rfl (by kernel_rfl) (by kernel_rfl) (by kernel_rfl) (fun _ _ _ h => hp _ _ _ _ _ h) (Or.inr ⟨by rfl, rfl⟩) (by assumption) ?_
  try simp only [Act.put, zl, z0, z1]
  refine takeL 38 rfl (by kernel_rfl) (by kernel_rfl) (by kernel_rfl) (fun _ _ _ h => hp _ _ _ _ _ h) (Or.inr ⟨by rfl, rfl⟩) (by assumption) ?_
  try simp only [Act.put, zl, z0, z1]
  refine takeL 39 rfl (by kernel_rfl) (by kernel_rfl) (by kernel_rfl) (fun _ _ _ h => hp _ _ _ _ _ h) (Or.inr ⟨by rfl, rfl⟩) (by assumption) ?_
  try simp only [Act.put, zl, z0, z1]
  refine takeL 40 rfl (by kernel_rfl) (by kernel_rfl) (by kernel_rfl) (fun _ _ _ h => hp _ _ _ _ _ h) (Or.inr ⟨by rfl, rfl⟩) (by assumption) ?_
  try simp only [Act.put, zl, z0, z1]
  refine takeL 41 rfl (by kernel_rfl) (by kernel_rfl) (by kernel_rfl) (fun _ _ _ h => hp _ _ _ _ _ h) (Or.inr ⟨by rfl, rfl⟩) (by assumption) ?_
  try simp only [Act.put, zl, z0, z1]
  refine takeL 42 rfl (by kernel_rfl) (by kernel_rfl) (by kernel_rfl) (fun _ _ _ h => hp _ _ _ _ _ h) (Or.inr ⟨by rfl, rfl⟩) (by assumption) ?_
  try simp only [Act.put, zl, z0, z1]
  refine takeL 43 rfl (by kernel_rfl) (by kernel_rfl) (by kernel_rfl) (fun _ _ _ h => hp _ _ _ _ _ h) (Or.inr ⟨by rfl, rfl⟩) (by assumption) ?_
  try simp only [Act.put, zl, z0, z1]
  refine takeL 44 rfl (by kernel_rfl) (by kernel_rfl) (by kernel_rfl) (fun _ _ _ h => hp _ _ _ _ _ h) (Or.inr ⟨by rfl, rfl⟩) (by assumption) ?_
  try simp only [Act.put, zl, z0, z1]
  refine takeL 45 rfl (by kernel_rfl) (by kernel_rfl) (by kernel_rfl) (fun _ _ _ h => hp _ _ _ _ _ h) (Or.inr ⟨by rfl, rfl⟩) (by assumption) ?_
  try simp only [Act.put, zl, z0, z1]
  refine takeL 46 rfl (by kernel_rfl) (by kernel_rfl) (by kernel_rfl) (fun _ _ _ h => hp _ _ _ _ _ h) (Or.inr ⟨by rfl, rfl⟩) (by assumption) ?_
  try simp only [Act.put, zl, z0, z1]
  refine takeL 47 rfl (by kernel_rfl) (by kernel_rfl) (by kernel_rfl) (fun _ _ _ h => hp _ _ _ _ _ h) (Or.inr ⟨by rfl, rfl⟩) (by assumption) ?_
  try simp only [Act.put, zl, z0, z1]
  refine takeL 48 rfl (by kernel_rfl) (by kernel_rfl) (by kernel_rfl) (fun _ _ _ h => hp _ _ _ _ _ h) (Or.inr ⟨by rfl, rfl⟩) (by assumption) ?_
  try simp only [Act.put, zl, z0, z1]
  refine takeL 49 rfl (by kernel_rfl) (by kernel_rfl) (by kernel_rfl) (fun _ _ _ h => hp _ _ _ _ _ h) (Or.inr ⟨by rfl, rfl⟩) (by assumption) ?_
  try simp only [Act.put, zl, z0, z1]
  refine takeL 50 rfl (by kernel_rfl) (by kernel_rfl) (by kernel_rfl) (fun _ _ _ h => hp _ _ _ _ _ h) (Or.inr ⟨by rfl, rfl⟩) (by assumption) ?_
  try simp only [Act.put, zl, z0, z1]
  refine tL (v := ?_) 51 rfl (by kernel_rfl) (fun _ _ _ h => hp _ _ _ _ _ h) (Or.inl ⟨by rfl, ?_⟩) (by assumption) ?_; rotate_left
  · (intro w hSw; (try dsimp only at hSw); go_simp; try with_reducible rfl)
  try simp only [Act.put, zl, z0, z1]
  refine wpAnyH_done (by kernel_rfl) ?_ _
  refine hK _ _ _ _ _ _ _ _ _ _ _ _ _ _ _ _ _ _ _ _ _ _ _ _ _ _ _ _ _ _ _ _ _ _ _ _ _ _ _ _ _ _ _ _ _ _ _ _ _ _ _ _ (hide (show Below W1.heap.size W1 _ from by exact zbD (zbR _ _)))

set_option maxRecDepth 100000 in
set_option maxHeartbeats 64000000 in
theorem cnt8_view {K : Act → World → Prop} {Q : Exit → Act → World → Prop} (hp : ∀ c a d v w, Q (.panic c) (Act.put a d v) w → Q (.panic c) a w) (a : L.Ap) (b o i n c : Nat) (W1 : World) (hi0 : (0 : Int) ≤ (i : Int)) (hlt' : (i : Int) < (n : Int)) (hn8 : (n : Int) ≤ 8) (lbr : b < W1.heap.size) (HLEN : Hid (a.v.ss.length = a.n)) (HRD : Hid (RdS W1 W1.heap.size a.A a.v.ss)) (c0 : W1.cell? ⟨b, o + i * 14, none⟩ = some (.int .i64 a.kind)) (c1 : W1.cell? ⟨b, o + i * 14 + 1, none⟩ = some (.int .i64 a.side)) (c2 : W1.cell? ⟨b, o + i * 14 + 2, none⟩ = some (.int .i64 a.said)) (c3 : W1.cell? ⟨b, o + i * 14 + 3, none⟩ = some (.int .i64 a.v.size)) (c4 : W1.cell? ⟨b, o + i * 14 + 4, none⟩ = some (.slice a.A a.n a.c)) (c5 : W1.cell? ⟨b, o + i * 14 + 5, none⟩ = some (.int .i64 a.v.wrong)) (c6 : W1.cell? ⟨b, o + i * 14 + 6, none⟩ = some (.int .i64 a.v.hxl)) (c7 : W1.cell? ⟨b, o + i * 14 + 7, none⟩ = some (.int .i64 a.v.hxh)) (c8 : W1.cell? ⟨b, o + i * 14 + 8, none⟩ = some (.int .i64 a.v.hyl)) (c9 : W1.cell? ⟨b, o + i * 14 + 9, none⟩ = some (.int .i64 a.v.hyh)) (c10 : W1.cell? ⟨b, o + i * 14 + 10, none⟩ = some (.int .i64 a.b.l)) (c11 : W1.cell? ⟨b, o + i * 14 + 11, none⟩ = some (.int .i64 a.b.r)) (c12 : W1.cell? ⟨b, o + i * 14 + 12, none⟩ = some (.int .i64 a.b.b)) (c13 : W1.cell? ⟨b, o + i * 14 + 13, none⟩ = some (.int .i64 a.b.t)) (d1 : (a.kind != 3) = false) (v0 : decide (a.side < 0) = false) (v1 : decide (1 < a.side) = false) (HVD : Hid (L.validB a.v a.b = false)) (f0 f2 f3 f4 f5 f6 f8 f9 f10 f11 f12 f13 f14 f15 f16 f17 f18 f19 f20 f21 f22 f23 f24 f25 f26 f27 f28 f29 f30 f31 f32 f33 f34 f35 f36 f37 f38 f39 f40 f41 f42 f43 f44 f45 f46 f47 f48 f49 f50 f51 f52 f53 f54 f55 f56 f57 f58 f59 f60 f61 f62 f63 f64 f65 f66 f67 f68 f69 f70 f71 f72 f73 f74 f75 f76 f77 f78 f79 f80 f81 f82 f83 f84 f85 f86 f87 f88 f89 f90 f91 f92 f93 f94 f95 f96 f97 f98 f99 f100 f101 f102 f103 f104 f105 f106 f107 f108 f109 f110 f111 f112 f113 f114 f115 f116 f117 f118 f119 f120 f121 f122 f123 f124 f125 f126 f127 f128 f129 f130 f131 f132 f133 f134 f135 f136 f137 f138 f139 f140 f141 f142 f143 f144 f145 f146 f147 f148 f149 f150 f151 f152 f153 f154 f155 f156 f157 f158 f159 f160 f161 f162 f163 f164 f165 f166 f167 f168 f169 f170 f171 f172 f173 f174 f175 f176 f177 f178 f179 f180 f181 f182 f183 f184 f185 f186 f187 f188 f189 f190 f191 f192 f193 f194 f195 f196 f197 f198 f199 f200 f201 f202 f203 f204 f205 f206 f207 f208 f209 f210 f211 f212 f213 f214 f215 f216 f217 f218 f219 f220 f221 f222 f223 f224 f225 f226 f227 f228 f229 f230 f231 f232 f233 f234 f235 f236 f237 f238 f239 f240 f241 f242 f243 f244 f245 f246 f247 f248 f249 f250 f251 f252 f253 f254 f255 f256 f257 f258 f259 f260 f261 f262 f263 f264 f265 f266 f267 f268 f269 f270 f271 f272 f273 f274 f275 f276 f277 f278 f279 f280 f281 : Value)
    (hK : ∀ (u54 u55 u56 u57 u58 u59 u60 u61 u62 u63 u64 u65 u66 u67 u68 u69 u70 u71 u72 u73 u74 u75 u76 u77 u78 u79 u80 u81 u82 u83 u84 u85 u86 u87 u88 u89 u90 u91 u92 u93 u94 u95 u96 u97 u98 u99 u100 u101 u102 u103 u104 : Value) (w6 : World), Hid (Below W1.heap.size W1 w6) → K ⟨#[f0, .slice (some ⟨b, o, none⟩) n c, f2, f3, f4, f5, f6, .int .i64 (i : Int), f8, f9, f10, f11, f12, f13, f14, f15, f16, f17, f18, f19, f20, f21, f22, f23, f24, f25, f26, f27, f28, f29, f30, f31, f32, f33, f34, f35, f36, f37, f38, f39, f40, f41, f42, f43, f44, f45, f46, f47, f48, f49, f50, f51, f52, f53, u54, u55, u56, u57, u58, u59, u60, u61, u62, u63, u64, u65, u66, u67, u68, u69, u70, u71, u72, u73, u74, u75, u76, u77, u78, u79, u80, u81, u82, u83, u84, u85, u86, u87, u88, u89, u90, u91, u92, u93, u94, u95, u96, u97, u98, u99, u100, u101, u102, u103, u104, .bool true, f106, f107, f108, f109, f110, f111, f112, f113, f114, f115, f116, f117, f118, f119, f120, f121, f122, f123, f124, f125, f126, f127, f128, f129, f130, f131, f132, f133, f134, f135, f136, f137, f138, f139, f140, f141, f142, f143, f144, f145, f146, f147, f148, f149, f150, f151, f152, f153, f154, f155, f156, f157, f158, f159, f160, f161, f162, f163, f164, f165, f166, f167, f168, f169, f170, f171, f172, f173, f174, f175, f176, f177, f178, f179, f180, f181, f182, f183, f184, f185, f186, f187, f188, f189, f190, f191, f192, f193, f194, f195, f196, f197, f198, f199, f200, f201, f202, f203, f204, f205, f206, f207, f208, f209, f210, f211, f212, f213, f214, f215, f216, f217, f218, f219, f220, f221, f222, f223, f224, f225, f226, f227, f228, f229, f230, f231, f232, f233, f234, f235, f236, f237, f238, f239, f240, f241, f242, f243, f244, f245, f246, f247, f248, f249, f250, f251, f252, f253, f254, f255, f256, f257, f258, f259, f260, f261, f262, f263, f264, f265, f266, f267, f268, f269, f270, f271, f272, f273, f274, f275, f276, f277, f278, f279, f280, f281], []⟩ w6) :
    Code.wp Try.prog (cntReg 8) (Exit.then K Q) ⟨#[f0, .slice (some ⟨b, o, none⟩) n c, f2, f3, f4, f5, f6, .int .i64 (i : Int), f8, f9, f10, f11, f12, f13, f14, f15, f16, f17, f18, f19, f20, f21, f22, f23, f24, f25, f26, f27, f28, f29, f30, f31, f32, f33, f34, f35, f36, f37, f38, f39, f40, f41, f42, f43, f44, f45, f46, f47, f48, f49, f50, f51, f52, f53, f54, f55, f56, f57, f58, f59, f60, f61, f62, f63, f64, f65, f66, f67, f68, f69, f70, f71, f72, f73, f74, f75, f76, f77, f78, f79, f80, f81, f82, f83, f84, f85, f86, f87, f88, f89, f90, f91, f92, f93, f94, f95, f96, f97, f98, f99, f100, f101, f102, f103, f104, f105, f106, f107, f108, f109, f110, f111, f112, f113, f114, f115, f116, f117, f118, f119, f120, f121, f122, f123, f124, f125, f126, f127, f128, f129, f130, f131, f132, f133, f134, f135, f136, f137, f138, f139, f140, f141, f142, f143, f144, f145, f146, f147, f148, f149, f150, f151, f152, f153, f154, f155, f156, f157, f158, f159, f160, f161, f162, f163, f164, f165, f166, f167, f168, f169, f170, f171, f172, f173, f174, f175, f176, f177, f178, f179, f180, f181, f182, f183, f184, f185, f186, f187, f188, f189, f190, f191, f192, f193, f194, f195, f196, f197, f198, f199, f200, f201, f202, f203, f204, f205, f206, f207, f208, f209, f210, f211, f212, f213, f214, f215, f216, f217, f218, f219, f220, f221, f222, f223, f224, f225, f226, f227, f228, f229, f230, f231, f232, f233, f234, f235, f236, f237, f238, f239, f240, f241, f242, f243, f244, f245, f246, f247, f248, f249, f250, f251, f252, f253, f254, f255, f256, f257, f258, f259, f260, f261, f262, f263, f264, f265, f266, f267, f268, f269, f270, f271, f272, f273, f274, f275, f276, f277, f278, f279, f280, f281], []⟩ W1 := by
  conv => arg 2; whnf
  have hS : (fun w' => Below W1.heap.size W1 w' ∧ b < w'.heap.size ∧ w'.cell? ⟨b, o + i * 14, none⟩ = some (.int .i64 a.kind) ∧ w'.cell? ⟨b, o + i * 14 + 1, none⟩ = some (.int .i64 a.side) ∧ w'.cell? ⟨b, o + i * 14 + 2, none⟩ = some (.int .i64 a.said) ∧ w'.cell? ⟨b, o + i * 14 + 3, none⟩ = some (.int .i64 a.v.size) ∧ w'.cell? ⟨b, o + i * 14 + 4, none⟩ = some (.slice a.A a.n a.c) ∧ w'.cell? ⟨b, o + i * 14 + 5, none⟩ = some (.int .i64 a.v.wrong) ∧ w'.cell? ⟨b, o + i * 14 + 6, none⟩ = some (.int .i64 a.v.hxl) ∧ w'.cell? ⟨b, o + i * 14 + 7, none⟩ = some (.int .i64 a.v.hxh) ∧ w'.cell? ⟨b, o + i * 14 + 8, none⟩ = some (.int .i64 a.v.hyl) ∧ w'.cell? ⟨b, o + i * 14 + 9, none⟩ = some (.int .i64 a.v.hyh) ∧ w'.cell? ⟨b, o + i * 14 + 10, none⟩ = some (.int .i64 a.b.l) ∧ w'.cell? ⟨b, o + i * 14 + 11, none⟩ = some (.int .i64 a.b.r) ∧ w'.cell? ⟨b, o + i * 14 + 12, none⟩ = some (.int .i64 a.b.b) ∧ w'.cell? ⟨b, o + i * 14 + 13, none⟩ = some (.int .i64 a.b.t)) W1 := ⟨Below.refl _ _, lbr, c0, c1, c2, c3, c4, c5, c6, c7, c8, c9, c10, c11, c12, c13⟩
  have hkeep : ∀ u u' : World, Below u.heap.size u u' → (Below W1.heap.size W1 u ∧ b < u.heap.size ∧ u.cell? ⟨b, o + i * 14, none⟩ = some (.int .i64 a.kind) ∧ u.cell? ⟨b, o + i * 14 + 1, none⟩ = some (.int .i64 a.side) ∧ u.cell? ⟨b, o + i * 14 + 2, none⟩ = some (.int .i64 a.said) ∧ u.cell? ⟨b, o + i * 14 + 3, none⟩ = some (.int .i64 a.v.size) ∧ u.cell? ⟨b, o + i * 14 + 4, none⟩ = some (.slice a.A a.n a.c) ∧ u.cell? ⟨b, o + i * 14 + 5, none⟩ = some (.int .i64 a.v.wrong) ∧ u.cell? ⟨b, o + i * 14 + 6, none⟩ = some (.int .i64 a.v.hxl) ∧ u.cell? ⟨b, o + i * 14 + 7, none⟩ = some (.int .i64 a.v.hxh) ∧ u.cell? ⟨b, o + i * 14 + 8, none⟩ = some (.int .i64 a.v.hyl) ∧ u.cell? ⟨b, o + i * 14 + 9, none⟩ = some (.int .i64 a.v.hyh) ∧ u.cell? ⟨b, o + i * 14 + 10, none⟩ = some (.int .i64 a.b.l) ∧ u.cell? ⟨b, o + i * 14 + 11, none⟩ = some (.int .i64 a.b.r) ∧ u.cell? ⟨b, o + i * 14 + 12, none⟩ = some (.int .i64 a.b.b) ∧ u.cell? ⟨b, o + i * 14 + 13, none⟩ = some (.int .i64 a.b.t)) → (Below W1.heap.size W1 u' ∧ b < u'.heap.size ∧ u'.cell? ⟨b, o + i * 14, none⟩ = some (.int .i64 a.kind) ∧ u'.cell? ⟨b, o + i * 14 + 1, none⟩ = some (.int .i64 a.side) ∧ u'.cell? ⟨b, o + i * 14 + 2, none⟩ = some (.int .i64 a.said) ∧ u'.cell? ⟨b, o + i * 14 + 3, none⟩ = some (.int .i64 a.v.size) ∧ u'.cell? ⟨b, o + i * 14 + 4, none⟩ = some (.slice a.A a.n a.c) ∧ u'.cell? ⟨b, o + i * 14 + 5, none⟩ = some (.int .i64 a.v.wrong) ∧ u'.cell? ⟨b, o + i * 14 + 6, none⟩ = some (.int .i64 a.v.hxl) ∧ u'.cell? ⟨b, o + i * 14 + 7, none⟩ = some (.int .i64 a.v.hxh) ∧ u'.cell? ⟨b, o + i * 14 + 8, none⟩ = some (.int .i64 a.v.hyl) ∧ u'.cell? ⟨b, o + i * 14 + 9, none⟩ = some (.int .i64 a.v.hyh) ∧ u'.cell? ⟨b, o + i * 14 + 10, none⟩ = some (.int .i64 a.b.l) ∧ u'.cell? ⟨b, o + i * 14 + 11, none⟩ = some (.int .i64 a.b.r) ∧ u'.cell? ⟨b, o + i * 14 + 12, none⟩ = some (.int .i64 a.b.b) ∧ u'.cell? ⟨b, o + i * 14 + 13, none⟩ = some (.int .i64 a.b.t)) := by
    rintro u u' hb ⟨hB, l_b, k0, k1, k2, k3, k4, k5, k6, k7, k8, k9, k10, k11, k12, k13⟩
    exact ⟨hB.trans (hb.mono hB.size), Nat.lt_of_lt_of_le l_b hb.size, (hb.cell (p := ⟨b, o + i * 14, none⟩) l_b).trans k0, (hb.cell (p := ⟨b, o + i * 14 + 1, none⟩) l_b).trans k1, (hb.cell (p := ⟨b, o + i * 14 + 2, none⟩) l_b).trans k2, (hb.cell (p := ⟨b, o + i * 14 + 3, none⟩) l_b).trans k3, (hb.cell (p := ⟨b, o + i * 14 + 4, none⟩) l_b).trans k4, (hb.cell (p := ⟨b, o + i * 14 + 5, none⟩) l_b).trans k5, (hb.cell (p := ⟨b, o + i * 14 + 6, none⟩) l_b).trans k6, (hb.cell (p := ⟨b, o + i * 14 + 7, none⟩) l_b).trans k7, (hb.cell (p := ⟨b, o + i * 14 + 8, none⟩) l_b).trans k8, (hb.cell (p := ⟨b, o + i * 14 + 9, none⟩) l_b).trans k9, (hb.cell (p := ⟨b, o + i * 14 + 10, none⟩) l_b).trans k10, (hb.cell (p := ⟨b, o + i * 14 + 11, none⟩) l_b).trans k11, (hb.cell (p := ⟨b, o + i * 14 + 12, none⟩) l_b).trans k12, (hb.cell (p := ⟨b, o + i * 14 + 13, none⟩) l_b).trans k13⟩
  (try dsimp only at hS)
  refine wp_region_held_drew (S := (fun w' => Below W1.heap.size W1 w' ∧ b < w'.heap.size ∧ w'.cell? ⟨b, o + i * 14, none⟩ = some (.int .i64 a.kind) ∧ w'.cell? ⟨b, o + i * 14 + 1, none⟩ = some (.int .i64 a.side) ∧ w'.cell? ⟨b, o + i * 14 + 2, none⟩ = some (.int .i64 a.said) ∧ w'.cell? ⟨b, o + i * 14 + 3, none⟩ = some (.int .i64 a.v.size) ∧ w'.cell? ⟨b, o + i * 14 + 4, none⟩ = some (.slice a.A a.n a.c) ∧ w'.cell? ⟨b, o + i * 14 + 5, none⟩ = some (.int .i64 a.v.wrong) ∧ w'.cell? ⟨b, o + i * 14 + 6, none⟩ = some (.int .i64 a.v.hxl) ∧ w'.cell? ⟨b, o + i * 14 + 7, none⟩ = some (.int .i64 a.v.hxh) ∧ w'.cell? ⟨b, o + i * 14 + 8, none⟩ = some (.int .i64 a.v.hyl) ∧ w'.cell? ⟨b, o + i * 14 + 9, none⟩ = some (.int .i64 a.v.hyh) ∧ w'.cell? ⟨b, o + i * 14 + 10, none⟩ = some (.int .i64 a.b.l) ∧ w'.cell? ⟨b, o + i * 14 + 11, none⟩ = some (.int .i64 a.b.r) ∧ w'.cell? ⟨b, o + i * 14 + 12, none⟩ = some (.int .i64 a.b.b) ∧ w'.cell? ⟨b, o + i * 14 + 13, none⟩ = some (.int .i64 a.b.t))) (by kernel_rfl) ?_ (fun hHeld0 => ?_)
  · (try dsimp only); (first | (go_keep; done) | (go_split_ands; (repeat' apply And.intro) <;> first | (go_keep; done) | (simp [*, zcA, zcP, zfA, zfP]; done) | (simp [zcA, zcP] <;> rfl) | (simp [*, zsS, zsO, zsA]; done) | ((first | refine (hc _ _ ?_).trans ?_ | refine (hf _ _ ?_).trans ?_) <;> first | assumption | (simp; done) | (simp; omega) | omega | (go_keep; done) | (simp [*, zcA, zcP, zfA, zfP]; done) | (simp [zcA, zcP]; rfl)) | (repeat' first | exact zbR _ _ | assumption | refine zbD ?_ | refine zbA ?_ ?_ _ | refine zbS ?_ ?_ _ | refine zbT ?_ (by assumption) ?_ | (simp; done) | (simp; omega) | omega)))
  refine tL (v := ?_) 0 rfl (by kernel_rfl) (fun _ _ _ h => hp _ _ _ _ _ h) (Or.inl ⟨by rfl, ?_⟩) (by assumption) ?_; rotate_left
  · (intro w hSw; (try dsimp only at hSw); go_simp; try with_reducible rfl)
  try simp only [Act.put, zl, z0, z1]
  refine tL (v := ?_) 1 rfl (by kernel_rfl) (fun _ _ _ h => hp _ _ _ _ _ h) (Or.inl ⟨by rfl, ?_⟩) (by assumption) ?_; rotate_left
  · (intro w hSw; (try dsimp only at hSw); go_simp; try with_reducible rfl)
  try simp only [Act.put, zl, z0, z1]
  refine tL (v := ?_) 2 rfl (by kernel_rfl) (fun _ _ _ h => hp _ _ _ _ _ h) (Or.inl ⟨by rfl, ?_⟩) (by assumption) ?_; rotate_left
  · (intro w hSw; (try dsimp only at hSw); go_simp; try with_reducible rfl)
  try simp only [Act.put, zl, z0, z1]
  refine tL (v := ?_) 3 rfl (by kernel_rfl) (fun _ _ _ h => hp _ _ _ _ _ h) (Or.inl ⟨by rfl, ?_⟩) (by assumption) ?_; rotate_left
  · (intro w hSw; (try dsimp only at hSw); go_simp; try with_reducible rfl)
  try simp only [Act.put, zl, z0, z1]
  refine tL (v := ?_) 4 rfl (by kernel_rfl) (fun _ _ _ h => hp _ _ _ _ _ h) (Or.inl ⟨by rfl, ?_⟩) (by assumption) ?_; rotate_left
  · (intro w hSw; (try dsimp only at hSw); go_simp; try with_reducible rfl)
  try simp only [Act.put, zl, z0, z1]
  refine tL (v := ?_) 5 rfl (by kernel_rfl) (fun _ _ _ h => hp _ _ _ _ _ h) (Or.inl ⟨by rfl, ?_⟩) (by assumption) ?_; rotate_left
  · (intro w hSw; (try dsimp only at hSw); go_simp; try with_reducible rfl)
  try simp only [Act.put, zl, z0, z1]
  refine tL (v := ?_) 6 rfl (by kernel_rfl) (fun _ _ _ h => hp _ _ _ _ _ h) (Or.inl ⟨by rfl, ?_⟩) (by assumption) ?_; rotate_left
  · (intro w hSw; (try dsimp only at hSw); go_simp; try with_reducible rfl)
  try simp only [Act.put, zl, z0, z1]
  refine tL (v := ?_) 7 rfl (by kernel_rfl) (fun _ _ _ h => hp _ _ _ _ _ h) (Or.inl ⟨by rfl, ?_⟩) (by assumption) ?_; rotate_left
  · (intro w hSw; (try dsimp only at hSw); go_simp; try with_reducible rfl)
  try simp only [Act.put, zl, z0, z1]
  refine tL (v := ?_) 8 rfl (by kernel_rfl) (fun _ _ _ h => hp _ _ _ _ _ h) (Or.inl ⟨by rfl, ?_⟩) (by assumption) ?_; rotate_left
  · (intro w hSw; (try dsimp only at hSw); go_simp; try with_reducible rfl)
  try simp only [Act.put, zl, z0, z1]
  refine tL (v := ?_) 9 rfl (by kernel_rfl) (fun _ _ _ h => hp _ _ _ _ _ h) (Or.inl ⟨by rfl, ?_⟩) (by assumption) ?_; rotate_left
  · (intro w hSw; (try dsimp only at hSw); go_simp; try with_reducible rfl)
  try simp only [Act.put, zl, z0, z1]
  refine tL (v := ?_) 10 rfl (by kernel_rfl) (fun _ _ _ h => hp _ _ _ _ _ h) (Or.inl ⟨by rfl, ?_⟩) (by assumption) ?_; rotate_left
  · (intro w hSw; (try dsimp only at hSw); go_simp; try with_reducible rfl)
  try simp only [Act.put, zl, z0, z1]
  refine tL (v := ?_) 11 rfl (by kernel_rfl) (fun _ _ _ h => hp _ _ _ _ _ h) (Or.inl ⟨by rfl, ?_⟩) (by assumption) ?_; rotate_left
  · (intro w hSw; (try dsimp only at hSw); go_simp; try with_reducible rfl)
  try simp only [Act.put, zl, z0, z1]
  refine tL (v := ?_) 12 rfl (by kernel_rfl) (fun _ _ _ h => hp _ _ _ _ _ h) (Or.inl ⟨by rfl, ?_⟩) (by assumption) ?_; rotate_left
  · (intro w hSw; (try dsimp only at hSw); go_simp; try with_reducible rfl)
  try simp only [Act.put, zl, z0, z1]
  refine tL (v := ?_) 13 rfl (by kernel_rfl) (fun _ _ _ h => hp _ _ _ _ _ h) (Or.inl ⟨by rfl, ?_⟩) (by assumption) ?_; rotate_left
  · (intro w hSw; (try dsimp only at hSw); go_simp; try with_reducible rfl)
  try simp only [Act.put, zl, z0, z1]
  refine tL (v := ?_) 14 rfl (by kernel_rfl) (fun _ _ _ h => hp _ _ _ _ _ h) (Or.inl ⟨by rfl, ?_⟩) (by assumption) ?_; rotate_left
  · (intro w hSw; (try dsimp only at hSw); go_simp; try with_reducible rfl)
  try simp only [Act.put, zl, z0, z1]
  refine tL (v := ?_) 15 rfl (by kernel_rfl) (fun _ _ _ h => hp _ _ _ _ _ h) (Or.inl ⟨by rfl, ?_⟩) (by assumption) ?_; rotate_left
  · (intro w hSw; (try dsimp only at hSw); go_simp; try with_reducible rfl)
  try simp only [Act.put, zl, z0, z1]
  refine tL (v := ?_) 16 rfl (by kernel_rfl) (fun _ _ _ h => hp _ _ _ _ _ h) (Or.inl ⟨by rfl, ?_⟩) (by assumption) ?_; rotate_left
  · (intro w hSw; (try dsimp only at hSw); go_simp; try with_reducible rfl)
  try simp only [Act.put, zl, z0, z1]
  refine tL (v := ?_) 17 rfl (by kernel_rfl) (fun _ _ _ h => hp _ _ _ _ _ h) (Or.inl ⟨by rfl, ?_⟩) (by assumption) ?_; rotate_left
  · (intro w hSw; (try dsimp only at hSw); go_simp; try with_reducible rfl)
  try simp only [Act.put, zl, z0, z1]
  refine tL (v := ?_) 18 rfl (by kernel_rfl) (fun _ _ _ h => hp _ _ _ _ _ h) (Or.inl ⟨by rfl, ?_⟩) (by assumption) ?_; rotate_left
  · (intro w hSw; (try dsimp only at hSw); go_simp; try with_reducible rfl)
  try simp only [Act.put, zl, z0, z1]
  refine tL (v := ?_) 19 rfl (by kernel_rfl) (fun _ _ _ h => hp _ _ _ _ _ h) (Or.inl ⟨by rfl, ?_⟩) (by assumption) ?_; rotate_left
  · (intro w hSw; (try dsimp only at hSw); go_simp; try with_reducible rfl)
  try simp only [Act.put, zl, z0, z1]
  refine tL (v := ?_) 20 rfl (by kernel_rfl) (fun _ _ _ h => hp _ _ _ _ _ h) (Or.inl ⟨by rfl, ?_⟩) (by assumption) ?_; rotate_left
  · (intro w hSw; (try dsimp only at hSw); go_simp; try with_reducible rfl)
  try simp only [Act.put, zl, z0, z1]
  refine tL (v := ?_) 21 rfl (by kernel_rfl) (fun _ _ _ h => hp _ _ _ _ _ h) (Or.inl ⟨by rfl, ?_⟩) (by assumption) ?_; rotate_left
  · (intro w hSw; (try dsimp only at hSw); go_simp; try with_reducible rfl)
  try simp only [Act.put, zl, z0, z1]
  refine tL (v := ?_) 22 rfl (by kernel_rfl) (fun _ _ _ h => hp _ _ _ _ _ h) (Or.inl ⟨by rfl, ?_⟩) (by assumption) ?_; rotate_left
  · (intro w hSw; (try dsimp only at hSw); go_simp; try with_reducible rfl)
  try simp only [Act.put, zl, z0, z1]
  refine tL (v := ?_) 23 rfl (by kernel_rfl) (fun _ _ _ h => hp _ _ _ _ _ h) (Or.inl ⟨by rfl, ?_⟩) (by assumption) ?_; rotate_left
  · (intro w hSw; (try dsimp only at hSw); go_simp; try with_reducible rfl)
  try simp only [Act.put, zl, z0, z1]
  refine tL (v := ?_) 24 rfl (by kernel_rfl) (fun _ _ _ h => hp _ _ _ _ _ h) (Or.inl ⟨by rfl, ?_⟩) (by assumption) ?_; rotate_left
  · (intro w hSw; (try dsimp only at hSw); go_simp; try with_reducible rfl)
  try simp only [Act.put, zl, z0, z1]
  refine tL (v := ?_) 25 rfl (by kernel_rfl) (fun _ _ _ h => hp _ _ _ _ _ h) (Or.inl ⟨by rfl, ?_⟩) (by assumption) ?_; rotate_left
  · (intro w hSw; (try dsimp only at hSw); go_simp; try with_reducible rfl)
  try simp only [Act.put, zl, z0, z1]
  refine tL (v := ?_) 26 rfl (by kernel_rfl) (fun _ _ _ h => hp _ _ _ _ _ h) (Or.inl ⟨by rfl, ?_⟩) (by assumption) ?_; rotate_left
  · (intro w hSw; (try dsimp only at hSw); go_simp; try with_reducible rfl)
  try simp only [Act.put, zl, z0, z1]
  refine tL (v := ?_) 27 rfl (by kernel_rfl) (fun _ _ _ h => hp _ _ _ _ _ h) (Or.inl ⟨by rfl, ?_⟩) (by assumption) ?_; rotate_left
  · (intro w hSw; (try dsimp only at hSw); go_simp; try with_reducible rfl)
  try simp only [Act.put, zl, z0, z1]
  refine tL (v := ?_) 28 rfl (by kernel_rfl) (fun _ _ _ h => hp _ _ _ _ _ h) (Or.inl ⟨by rfl, ?_⟩) (by assumption) ?_; rotate_left
  · (intro w hSw; (try dsimp only at hSw); go_simp; try with_reducible rfl)
  try simp only [Act.put, zl, z0, z1]
  refine tL (v := ?_) 29 rfl (by kernel_rfl) (fun _ _ _ h => hp _ _ _ _ _ h) (Or.inl ⟨by rfl, ?_⟩) (by assumption) ?_; rotate_left
  · (intro w hSw; (try dsimp only at hSw); go_simp; try with_reducible rfl)
  try simp only [Act.put, zl, z0, z1]
  refine tL (v := ?_) 30 rfl (by kernel_rfl) (fun _ _ _ h => hp _ _ _ _ _ h) (Or.inl ⟨by rfl, ?_⟩) (by assumption) ?_; rotate_left
  · (intro w hSw; (try dsimp only at hSw); go_simp; try with_reducible rfl)
  try simp only [Act.put, zl, z0, z1]
  refine tL (v := ?_) 31 rfl (by kernel_rfl) (fun _ _ _ h => hp _ _ _ _ _ h) (Or.inl ⟨by rfl, ?_⟩) (by assumption) ?_; rotate_left
  · (intro w hSw; (try dsimp only at hSw); go_simp; try with_reducible rfl)
  try simp only [Act.put, zl, z0, z1]
  refine tL (v := ?_) 32 rfl (by kernel_rfl) (fun _ _ _ h => hp _ _ _ _ _ h) (Or.inl ⟨by rfl, ?_⟩) (by assumption) ?_; rotate_left
  · (intro w hSw; (try dsimp only at hSw); go_simp; try with_reducible rfl)
  try simp only [Act.put, zl, z0, z1]
  refine wpAnyH_ready (rs := [33]) (by kernel_rfl) (by simp) ?_
  refine consL 33 rfl (fun K hK => ?_) AllReadyH.nil
  go_simp
  ((go_at_call 15; refine (valid_any a.v a.A a.n a.c a.b _ HLEN.out ((HRD.out.below (by first | exact hS.1 | exact zbD hS.1)).mono (by first | exact hS.1.size | exact (zbD hS.1).size))).mono ?_; rintro e w6 ⟨rfl, hb⟩; rw [HVD.out]; have hSn := hkeep _ _ hb (by assumption); (try clear hS); have hS := hSn; clear hSn))
  refine hK.out _ _ ?_ (fun hHeld1 => ?_)
  · (try dsimp only); exact hS
  clear hK K hHeld0
  try simp only [Act.put, zl, z0, z1]
  refine tL (v := ?_) 34 rfl (by kernel_rfl) (fun _ _ _ h => hp _ _ _ _ _ h) (Or.inl ⟨by rfl, ?_⟩) (by assumption) ?_; rotate_left
  · (intro w hSw; (try dsimp only at hSw); go_simp; try with_reducible rfl)
  try simp only [Act.put, zl, z0, z1]
  refine tL (v := ?_) 35 rfl (by kernel_rfl) (fun _ _ _ h => hp _ _ _ _ _ h) (Or.inl ⟨by rfl, ?_⟩) (by assumption) ?_; rotate_left
  · (intro w hSw; (try dsimp only at hSw); go_simp; try with_reducible rfl)
  try simp only [Act.put, zl, z0, z1]
  refine tL (v := ?_) 36 rfl (by kernel_rfl) (fun _ _ _ h => hp _ _ _ _ _ h) (Or.inl ⟨by rfl, ?_⟩) (by assumption) ?_; rotate_left
  · (intro w hSw; (try dsimp only at hSw); go_simp; try with_reducible rfl)
  try simp only [Act.put, zl, z0, z1]
  refine takeL 37 rfl (by kernel_rfl) (by kernel_rfl) (by kernel_rfl) (fun _ _ _ h => hp _ _ _ _ _ h) (Or.inr ⟨by rfl, rfl⟩) (by assumption) ?_
  try simp only [Act.put, zl, z0, z1]
  refine takeL 38 rfl (by kernel_rfl) (by kernel_rfl) (by kernel_rfl) (fun _ _ _ h => hp _ _ _ _ _ h) (Or.inr ⟨by rfl, rfl⟩) (by assumption) ?_
  try simp only [Act.put, zl, z0, z1]
  refine takeL 39 rfl (by kernel_rfl) (by kernel_rfl) (by kernel_rfl) (fun _ _ _ h => hp _ _ _ _ _ h) (Or.inr ⟨by rfl, rfl⟩) (by assumption) ?_
  try simp only [Act.put, zl, z0, z1]
  refine takeL 40 rfl (by kernel_rfl) (by kernel_rfl) (by kernel_rfl) (fun _ _ _ h => hp _ _ _ _ _ h) (Or.inr ⟨by rfl, rfl⟩) (by assumption) ?_
  try simp only [Act.put, zl, z0, z1]
  refine takeL 41 rfl (by kernel_rfl) (by kernel_rfl) (by kernel_rfl) (fun _ _ _ h => hp _ _ _ _ _ h) (Or.inr ⟨by rfl, rfl⟩) (by assumption) ?_
  try simp only [Act.put, zl, z0, z1]
  refine takeL 42 rfl (by kernel_rfl) (by kernel_rfl) (by kernel_rfl) (fun _ _ _ h => hp _ _ _ _ _ h) (Or.inr ⟨by rfl, rfl⟩) (by assumption) ?_
  try simp only [Act.put, zl, z0, z1]
  refine takeL 43 rfl (by kernel_rfl) (by kernel_rfl) (by kernel_rfl) (fun _ _ _ h => hp _ _ _ _ _ h) (Or.inr ⟨by rfl, rfl⟩) (by assumption) ?_
  try simp only [Act.put, zl, z0, z1]
  refine takeL 44 rfl (by kernel_rfl) (by kernel_rfl) (by kernel_rfl) (fun _ _ _ h => hp _ _ _ _ _ h) (Or.inr ⟨by rfl, rfl⟩) (by assumption) ?_
  try simp only [Act.put, zl, z0, z1]
  refine takeL 45 rfl (by kernel_rfl) (by kernel_rfl) (by kernel_rfl) (fun _ _ _ h => hp _ _ _ _ _ h) (Or.inr ⟨by rfl, rfl⟩) (by assumption) ?_
  try simp only [Act.put, zl, z0, z1]
  refine takeL 46 rfl (by kernel_rfl) (by kernel_rfl) (by kernel_rfl) (fun _ _ _ h => hp _ _ _ _ _ h) (Or.inr ⟨by rfl, rfl⟩) (by assumption) ?_
  try simp only [Act.put, zl, z0, z1]
  refine takeL 47 rfl (by kernel_rfl) (by kernel_rfl) (by kernel_rfl) (fun _ _ _ h => hp _ _ _ _ _ h) (Or.inr ⟨by rfl, rfl⟩) (by assumption) ?_
  try simp only [Act.put, zl, z0, z1]
  refine takeL 48 rfl (by kernel_rfl) (by kernel_rfl) (by kernel_rfl) (fun _ _ _ h => hp _ _ _ _ _ h) (Or.inr ⟨by rfl, rfl⟩) (by assumption) ?_
  try simp only [Act.put, zl, z0, z1]
  refine takeL 49 rfl (by kernel_rfl) (by kernel_rfl) (by kernel_rfl) (fun _ _ _ h => hp _ _ _ _ _ h) (Or.inr ⟨by rfl, rfl⟩) (by assumption) ?_
  try simp only [Act.put, zl, z0, z1]
  refine takeL 50 rfl (by kernel_rfl) (by kernel_rfl) (by kernel_rfl) (fun _ _ _ h => hp _ _ _ _ _ h) (Or.inr ⟨by rfl, rfl⟩) (by assumption) ?_
  try simp only [Act.put, zl, z0, z1]
  refine tL (v := ?_) 51 rfl (by kernel_rfl) (fun _ _ _ h => hp _ _ _ _ _ h) (Or.inl ⟨by rfl, ?_⟩) (by assumption) ?_; rotate_left
  · (intro w hSw; (try dsimp only at hSw); go_simp; try with_reducible rfl)
  try simp only [Act.put, zl, z0, z1]
  refine wpAnyH_done (by kernel_rfl) ?_ _
  refine hK _ _ _ _ _ _ _ _ _ _ _ _ _ _ _ _ _ _ _ _ _ _ _ _ _ _ _ _ _ _ _ _ _ _ _ _ _ _ _ _ _ _ _ _ _ _ _ _ _ _ _ _ (hide hS.1)

set_option maxRecDepth 100000 in
set_option maxHeartbeats 64000000 in
theorem cnt8_unsure {K : Act → World → Prop} {Q : Exit → Act → World → Prop} (hp : ∀ c a d v w, Q (.panic c) (Act.put a d v) w → Q (.panic c) a w) (a : L.Ap) (b o i n c : Nat) (W1 : World) (hi0 : (0 : Int) ≤ (i : Int)) (hlt' : (i : Int) < (n : Int)) (hn8 : (n : Int) ≤ 8) (lbr : b < W1.heap.size) (HLEN : Hid (a.v.ss.length = a.n)) (HRD : Hid (RdS W1 W1.heap.size a.A a.v.ss)) (c0 : W1.cell? ⟨b, o + i * 14, none⟩ = some (.int .i64 a.kind)) (c1 : W1.cell? ⟨b, o + i * 14 + 1, none⟩ = some (.int .i64 a.side)) (c2 : W1.cell? ⟨b, o + i * 14 + 2, none⟩ = some (.int .i64 a.said)) (c3 : W1.cell? ⟨b, o + i * 14 + 3, none⟩ = some (.int .i64 a.v.size)) (c4 : W1.cell? ⟨b, o + i * 14 + 4, none⟩ = some (.slice a.A a.n a.c)) (c5 : W1.cell? ⟨b, o + i * 14 + 5, none⟩ = some (.int .i64 a.v.wrong)) (c6 : W1.cell? ⟨b, o + i * 14 + 6, none⟩ = some (.int .i64 a.v.hxl)) (c7 : W1.cell? ⟨b, o + i * 14 + 7, none⟩ = some (.int .i64 a.v.hxh)) (c8 : W1.cell? ⟨b, o + i * 14 + 8, none⟩ = some (.int .i64 a.v.hyl)) (c9 : W1.cell? ⟨b, o + i * 14 + 9, none⟩ = some (.int .i64 a.v.hyh)) (c10 : W1.cell? ⟨b, o + i * 14 + 10, none⟩ = some (.int .i64 a.b.l)) (c11 : W1.cell? ⟨b, o + i * 14 + 11, none⟩ = some (.int .i64 a.b.r)) (c12 : W1.cell? ⟨b, o + i * 14 + 12, none⟩ = some (.int .i64 a.b.b)) (c13 : W1.cell? ⟨b, o + i * 14 + 13, none⟩ = some (.int .i64 a.b.t)) (d1 : (a.kind != 3) = false) (v0 : decide (a.side < 0) = false) (v1 : decide (1 < a.side) = false) (HVD : Hid (L.validB a.v a.b = true)) (u3 : (a.said != 1) = true) (u4 : (a.said != 2) = true) (f0 f2 f3 f4 f5 f6 f8 f9 f10 f11 f12 f13 f14 f15 f16 f17 f18 f19 f20 f21 f22 f23 f24 f25 f26 f27 f28 f29 f30 f31 f32 f33 f34 f35 f36 f37 f38 f39 f40 f41 f42 f43 f44 f45 f46 f47 f48 f49 f50 f51 f52 f53 f54 f55 f56 f57 f58 f59 f60 f61 f62 f63 f64 f65 f66 f67 f68 f69 f70 f71 f72 f73 f74 f75 f76 f77 f78 f79 f80 f81 f82 f83 f84 f85 f86 f87 f88 f89 f90 f91 f92 f93 f94 f95 f96 f97 f98 f99 f100 f101 f102 f103 f104 f105 f106 f107 f108 f109 f110 f111 f112 f113 f114 f115 f116 f117 f118 f119 f120 f121 f122 f123 f124 f125 f126 f127 f128 f129 f130 f131 f132 f133 f134 f135 f136 f137 f138 f139 f140 f141 f142 f143 f144 f145 f146 f147 f148 f149 f150 f151 f152 f153 f154 f155 f156 f157 f158 f159 f160 f161 f162 f163 f164 f165 f166 f167 f168 f169 f170 f171 f172 f173 f174 f175 f176 f177 f178 f179 f180 f181 f182 f183 f184 f185 f186 f187 f188 f189 f190 f191 f192 f193 f194 f195 f196 f197 f198 f199 f200 f201 f202 f203 f204 f205 f206 f207 f208 f209 f210 f211 f212 f213 f214 f215 f216 f217 f218 f219 f220 f221 f222 f223 f224 f225 f226 f227 f228 f229 f230 f231 f232 f233 f234 f235 f236 f237 f238 f239 f240 f241 f242 f243 f244 f245 f246 f247 f248 f249 f250 f251 f252 f253 f254 f255 f256 f257 f258 f259 f260 f261 f262 f263 f264 f265 f266 f267 f268 f269 f270 f271 f272 f273 f274 f275 f276 f277 f278 f279 f280 f281 : Value)
    (hK : ∀ (u54 u55 u56 u57 u58 u59 u60 u61 u62 u63 u64 u65 u66 u67 u68 u69 u70 u71 u72 u73 u74 u75 u76 u77 u78 u79 u80 u81 u82 u83 u84 u85 u86 u87 u88 u89 u90 u91 u92 u93 u94 u95 u96 u97 u98 u99 u100 u101 u102 u103 u104 : Value) (w6 : World), Hid (Below W1.heap.size W1 w6) → K ⟨#[f0, .slice (some ⟨b, o, none⟩) n c, f2, f3, f4, f5, f6, .int .i64 (i : Int), f8, f9, f10, f11, f12, f13, f14, f15, f16, f17, f18, f19, f20, f21, f22, f23, f24, f25, f26, f27, f28, f29, f30, f31, f32, f33, f34, f35, f36, f37, f38, f39, f40, f41, f42, f43, f44, f45, f46, f47, f48, f49, f50, f51, f52, f53, u54, u55, u56, u57, u58, u59, u60, u61, u62, u63, u64, u65, u66, u67, u68, u69, u70, u71, u72, u73, u74, u75, u76, u77, u78, u79, u80, u81, u82, u83, u84, u85, u86, u87, u88, u89, u90, u91, u92, u93, u94, u95, u96, u97, u98, u99, u100, u101, u102, u103, u104, .bool true, f106, f107, f108, f109, f110, f111, f112, f113, f114, f115, f116, f117, f118, f119, f120, f121, f122, f123, f124, f125, f126, f127, f128, f129, f130, f131, f132, f133, f134, f135, f136, f137, f138, f139, f140, f141, f142, f143, f144, f145, f146, f147, f148, f149, f150, f151, f152, f153, f154, f155, f156, f157, f158, f159, f160, f161, f162, f163, f164, f165, f166, f167, f168, f169, f170, f171, f172, f173, f174, f175, f176, f177, f178, f179, f180, f181, f182, f183, f184, f185, f186, f187, f188, f189, f190, f191, f192, f193, f194, f195, f196, f197, f198, f199, f200, f201, f202, f203, f204, f205, f206, f207, f208, f209, f210, f211, f212, f213, f214, f215, f216, f217, f218, f219, f220, f221, f222, f223, f224, f225, f226, f227, f228, f229, f230, f231, f232, f233, f234, f235, f236, f237, f238, f239, f240, f241, f242, f243, f244, f245, f246, f247, f248, f249, f250, f251, f252, f253, f254, f255, f256, f257, f258, f259, f260, f261, f262, f263, f264, f265, f266, f267, f268, f269, f270, f271, f272, f273, f274, f275, f276, f277, f278, f279, f280, f281], []⟩ w6) :
    Code.wp Try.prog (cntReg 8) (Exit.then K Q) ⟨#[f0, .slice (some ⟨b, o, none⟩) n c, f2, f3, f4, f5, f6, .int .i64 (i : Int), f8, f9, f10, f11, f12, f13, f14, f15, f16, f17, f18, f19, f20, f21, f22, f23, f24, f25, f26, f27, f28, f29, f30, f31, f32, f33, f34, f35, f36, f37, f38, f39, f40, f41, f42, f43, f44, f45, f46, f47, f48, f49, f50, f51, f52, f53, f54, f55, f56, f57, f58, f59, f60, f61, f62, f63, f64, f65, f66, f67, f68, f69, f70, f71, f72, f73, f74, f75, f76, f77, f78, f79, f80, f81, f82, f83, f84, f85, f86, f87, f88, f89, f90, f91, f92, f93, f94, f95, f96, f97, f98, f99, f100, f101, f102, f103, f104, f105, f106, f107, f108, f109, f110, f111, f112, f113, f114, f115, f116, f117, f118, f119, f120, f121, f122, f123, f124, f125, f126, f127, f128, f129, f130, f131, f132, f133, f134, f135, f136, f137, f138, f139, f140, f141, f142, f143, f144, f145, f146, f147, f148, f149, f150, f151, f152, f153, f154, f155, f156, f157, f158, f159, f160, f161, f162, f163, f164, f165, f166, f167, f168, f169, f170, f171, f172, f173, f174, f175, f176, f177, f178, f179, f180, f181, f182, f183, f184, f185, f186, f187, f188, f189, f190, f191, f192, f193, f194, f195, f196, f197, f198, f199, f200, f201, f202, f203, f204, f205, f206, f207, f208, f209, f210, f211, f212, f213, f214, f215, f216, f217, f218, f219, f220, f221, f222, f223, f224, f225, f226, f227, f228, f229, f230, f231, f232, f233, f234, f235, f236, f237, f238, f239, f240, f241, f242, f243, f244, f245, f246, f247, f248, f249, f250, f251, f252, f253, f254, f255, f256, f257, f258, f259, f260, f261, f262, f263, f264, f265, f266, f267, f268, f269, f270, f271, f272, f273, f274, f275, f276, f277, f278, f279, f280, f281], []⟩ W1 := by
  conv => arg 2; whnf
  have hS : (fun w' => Below W1.heap.size W1 w' ∧ b < w'.heap.size ∧ w'.cell? ⟨b, o + i * 14, none⟩ = some (.int .i64 a.kind) ∧ w'.cell? ⟨b, o + i * 14 + 1, none⟩ = some (.int .i64 a.side) ∧ w'.cell? ⟨b, o + i * 14 + 2, none⟩ = some (.int .i64 a.said) ∧ w'.cell? ⟨b, o + i * 14 + 3, none⟩ = some (.int .i64 a.v.size) ∧ w'.cell? ⟨b, o + i * 14 + 4, none⟩ = some (.slice a.A a.n a.c) ∧ w'.cell? ⟨b, o + i * 14 + 5, none⟩ = some (.int .i64 a.v.wrong) ∧ w'.cell? ⟨b, o + i * 14 + 6, none⟩ = some (.int .i64 a.v.hxl) ∧ w'.cell? ⟨b, o + i * 14 + 7, none⟩ = some (.int .i64 a.v.hxh) ∧ w'.cell? ⟨b, o + i * 14 + 8, none⟩ = some (.int .i64 a.v.hyl) ∧ w'.cell? ⟨b, o + i * 14 + 9, none⟩ = some (.int .i64 a.v.hyh) ∧ w'.cell? ⟨b, o + i * 14 + 10, none⟩ = some (.int .i64 a.b.l) ∧ w'.cell? ⟨b, o + i * 14 + 11, none⟩ = some (.int .i64 a.b.r) ∧ w'.cell? ⟨b, o + i * 14 + 12, none⟩ = some (.int .i64 a.b.b) ∧ w'.cell? ⟨b, o + i * 14 + 13, none⟩ = some (.int .i64 a.b.t)) W1 := ⟨Below.refl _ _, lbr, c0, c1, c2, c3, c4, c5, c6, c7, c8, c9, c10, c11, c12, c13⟩
  have hkeep : ∀ u u' : World, Below u.heap.size u u' → (Below W1.heap.size W1 u ∧ b < u.heap.size ∧ u.cell? ⟨b, o + i * 14, none⟩ = some (.int .i64 a.kind) ∧ u.cell? ⟨b, o + i * 14 + 1, none⟩ = some (.int .i64 a.side) ∧ u.cell? ⟨b, o + i * 14 + 2, none⟩ = some (.int .i64 a.said) ∧ u.cell? ⟨b, o + i * 14 + 3, none⟩ = some (.int .i64 a.v.size) ∧ u.cell? ⟨b, o + i * 14 + 4, none⟩ = some (.slice a.A a.n a.c) ∧ u.cell? ⟨b, o + i * 14 + 5, none⟩ = some (.int .i64 a.v.wrong) ∧ u.cell? ⟨b, o + i * 14 + 6, none⟩ = some (.int .i64 a.v.hxl) ∧ u.cell? ⟨b, o + i * 14 + 7, none⟩ = some (.int .i64 a.v.hxh) ∧ u.cell? ⟨b, o + i * 14 + 8, none⟩ = some (.int .i64 a.v.hyl) ∧ u.cell? ⟨b, o + i * 14 + 9, none⟩ = some (.int .i64 a.v.hyh) ∧ u.cell? ⟨b, o + i * 14 + 10, none⟩ = some (.int .i64 a.b.l) ∧ u.cell? ⟨b, o + i * 14 + 11, none⟩ = some (.int .i64 a.b.r) ∧ u.cell? ⟨b, o + i * 14 + 12, none⟩ = some (.int .i64 a.b.b) ∧ u.cell? ⟨b, o + i * 14 + 13, none⟩ = some (.int .i64 a.b.t)) → (Below W1.heap.size W1 u' ∧ b < u'.heap.size ∧ u'.cell? ⟨b, o + i * 14, none⟩ = some (.int .i64 a.kind) ∧ u'.cell? ⟨b, o + i * 14 + 1, none⟩ = some (.int .i64 a.side) ∧ u'.cell? ⟨b, o + i * 14 + 2, none⟩ = some (.int .i64 a.said) ∧ u'.cell? ⟨b, o + i * 14 + 3, none⟩ = some (.int .i64 a.v.size) ∧ u'.cell? ⟨b, o + i * 14 + 4, none⟩ = some (.slice a.A a.n a.c) ∧ u'.cell? ⟨b, o + i * 14 + 5, none⟩ = some (.int .i64 a.v.wrong) ∧ u'.cell? ⟨b, o + i * 14 + 6, none⟩ = some (.int .i64 a.v.hxl) ∧ u'.cell? ⟨b, o + i * 14 + 7, none⟩ = some (.int .i64 a.v.hxh) ∧ u'.cell? ⟨b, o + i * 14 + 8, none⟩ = some (.int .i64 a.v.hyl) ∧ u'.cell? ⟨b, o + i * 14 + 9, none⟩ = some (.int .i64 a.v.hyh) ∧ u'.cell? ⟨b, o + i * 14 + 10, none⟩ = some (.int .i64 a.b.l) ∧ u'.cell? ⟨b, o + i * 14 + 11, none⟩ = some (.int .i64 a.b.r) ∧ u'.cell? ⟨b, o + i * 14 + 12, none⟩ = some (.int .i64 a.b.b) ∧ u'.cell? ⟨b, o + i * 14 + 13, none⟩ = some (.int .i64 a.b.t)) := by
    rintro u u' hb ⟨hB, l_b, k0, k1, k2, k3, k4, k5, k6, k7, k8, k9, k10, k11, k12, k13⟩
    exact ⟨hB.trans (hb.mono hB.size), Nat.lt_of_lt_of_le l_b hb.size, (hb.cell (p := ⟨b, o + i * 14, none⟩) l_b).trans k0, (hb.cell (p := ⟨b, o + i * 14 + 1, none⟩) l_b).trans k1, (hb.cell (p := ⟨b, o + i * 14 + 2, none⟩) l_b).trans k2, (hb.cell (p := ⟨b, o + i * 14 + 3, none⟩) l_b).trans k3, (hb.cell (p := ⟨b, o + i * 14 + 4, none⟩) l_b).trans k4, (hb.cell (p := ⟨b, o + i * 14 + 5, none⟩) l_b).trans k5, (hb.cell (p := ⟨b, o + i * 14 + 6, none⟩) l_b).trans k6, (hb.cell (p := ⟨b, o + i * 14 + 7, none⟩) l_b).trans k7, (hb.cell (p := ⟨b, o + i * 14 + 8, none⟩) l_b).trans k8, (hb.cell (p := ⟨b, o + i * 14 + 9, none⟩) l_b).trans k9, (hb.cell (p := ⟨b, o + i * 14 + 10, none⟩) l_b).trans k10, (hb.cell (p := ⟨b, o + i * 14 + 11, none⟩) l_b).trans k11, (hb.cell (p := ⟨b, o + i * 14 + 12, none⟩) l_b).trans k12, (hb.cell (p := ⟨b, o + i * 14 + 13, none⟩) l_b).trans k13⟩
  (try dsimp only at hS)
  refine wp_region_held_drew (S := (fun w' => Below W1.heap.size W1 w' ∧ b < w'.heap.size ∧ w'.cell? ⟨b, o + i * 14, none⟩ = some (.int .i64 a.kind) ∧ w'.cell? ⟨b, o + i * 14 + 1, none⟩ = some (.int .i64 a.side) ∧ w'.cell? ⟨b, o + i * 14 + 2, none⟩ = some (.int .i64 a.said) ∧ w'.cell? ⟨b, o + i * 14 + 3, none⟩ = some (.int .i64 a.v.size) ∧ w'.cell? ⟨b, o + i * 14 + 4, none⟩ = some (.slice a.A a.n a.c) ∧ w'.cell? ⟨b, o + i * 14 + 5, none⟩ = some (.int .i64 a.v.wrong) ∧ w'.cell? ⟨b, o + i * 14 + 6, none⟩ = some (.int .i64 a.v.hxl) ∧ w'.cell? ⟨b, o + i * 14 + 7, none⟩ = some (.int .i64 a.v.hxh) ∧ w'.cell? ⟨b, o + i * 14 + 8, none⟩ = some (.int .i64 a.v.hyl) ∧ w'.cell? ⟨b, o + i * 14 + 9, none⟩ = some (.int .i64 a.v.hyh) ∧ w'.cell? ⟨b, o + i * 14 + 10, none⟩ = some (.int .i64 a.b.l) ∧ w'.cell? ⟨b, o + i * 14 + 11, none⟩ = some (.int .i64 a.b.r) ∧ w'.cell? ⟨b, o + i * 14 + 12, none⟩ = some (.int .i64 a.b.b) ∧ w'.cell? ⟨b, o + i * 14 + 13, none⟩ = some (.int .i64 a.b.t))) (by kernel_rfl) ?_ (fun hHeld0 => ?_)
  · (try dsimp only); (first | (go_keep; done) | (go_split_ands; (repeat' apply And.intro) <;> first | (go_keep; done) | (simp [*, zcA, zcP, zfA, zfP]; done) | (simp [zcA, zcP] <;> rfl) | (simp [*, zsS, zsO, zsA]; done) | ((first | refine (hc _ _ ?_).trans ?_ | refine (hf _ _ ?_).trans ?_) <;> first | assumption | (simp; done) | (simp; omega) | omega | (go_keep; done) | (simp [*, zcA, zcP, zfA, zfP]; done) | (simp [zcA, zcP]; rfl)) | (repeat' first | exact zbR _ _ | assumption | refine zbD ?_ | refine zbA ?_ ?_ _ | refine zbS ?_ ?_ _ | refine zbT ?_ (by assumption) ?_ | (simp; done) | (simp; omega) | omega)))
  refine tL (v := ?_) 0 rfl (by kernel_rfl) (fun _ _ _ h => hp _ _ _ _ _ h) (Or.inl ⟨by rfl, ?_⟩) (by assumption) ?_; rotate_left
  · (intro w hSw; (try dsimp only at hSw); go_simp; try with_reducible rfl)
  try simp only [Act.put, zl, z0, z1]
  refine tL (v := ?_) 1 rfl (by kernel_rfl) (fun _ _ _ h => hp _ _ _ _ _ h) (Or.inl ⟨by rfl, ?_⟩) (by assumption) ?_; rotate_left
  · (intro w hSw; (try dsimp only at hSw); go_simp; try with_reducible rfl)
  try simp only [Act.put, zl, z0, z1]
  refine tL (v := ?_) 2 rfl (by kernel_rfl) (fun _ _ _ h => hp _ _ _ _ _ h) (Or.inl ⟨by rfl, ?_⟩) (by assumption) ?_; rotate_left
  · (intro w hSw; (try dsimp only at hSw); go_simp; try with_reducible rfl)
  try simp only [Act.put, zl, z0, z1]
  refine tL (v := ?_) 3 rfl (by kernel_rfl) (fun _ _ _ h => hp _ _ _ _ _ h) (Or.inl ⟨by rfl, ?_⟩) (by assumption) ?_; rotate_left
  · (intro w hSw; (try dsimp only at hSw); go_simp; try with_reducible rfl)
  try simp only [Act.put, zl, z0, z1]
  refine tL (v := ?_) 4 rfl (by kernel_rfl) (fun _ _ _ h => hp _ _ _ _ _ h) (Or.inl ⟨by rfl, ?_⟩) (by assumption) ?_; rotate_left
  · (intro w hSw; (try dsimp only at hSw); go_simp; try with_reducible rfl)
  try simp only [Act.put, zl, z0, z1]
  refine tL (v := ?_) 5 rfl (by kernel_rfl) (fun _ _ _ h => hp _ _ _ _ _ h) (Or.inl ⟨by rfl, ?_⟩) (by assumption) ?_; rotate_left
  · (intro w hSw; (try dsimp only at hSw); go_simp; try with_reducible rfl)
  try simp only [Act.put, zl, z0, z1]
  refine tL (v := ?_) 6 rfl (by kernel_rfl) (fun _ _ _ h => hp _ _ _ _ _ h) (Or.inl ⟨by rfl, ?_⟩) (by assumption) ?_; rotate_left
  · (intro w hSw; (try dsimp only at hSw); go_simp; try with_reducible rfl)
  try simp only [Act.put, zl, z0, z1]
  refine tL (v := ?_) 7 rfl (by kernel_rfl) (fun _ _ _ h => hp _ _ _ _ _ h) (Or.inl ⟨by rfl, ?_⟩) (by assumption) ?_; rotate_left
  · (intro w hSw; (try dsimp only at hSw); go_simp; try with_reducible rfl)
  try simp only [Act.put, zl, z0, z1]
  refine tL (v := ?_) 8 rfl (by kernel_rfl) (fun _ _ _ h => hp _ _ _ _ _ h) (Or.inl ⟨by rfl, ?_⟩) (by assumption) ?_; rotate_left
  · (intro w hSw; (try dsimp only at hSw); go_simp; try with_reducible rfl)
  try simp only [Act.put, zl, z0, z1]
  refine tL (v := ?_) 9 rfl (by kernel_rfl) (fun _ _ _ h => hp _ _ _ _ _ h) (Or.inl ⟨by rfl, ?_⟩) (by assumption) ?_; rotate_left
  · (intro w hSw; (try dsimp only at hSw); go_simp; try with_reducible rfl)
  try simp only [Act.put, zl, z0, z1]
  refine tL (v := ?_) 10 rfl (by kernel_rfl) (fun _ _ _ h => hp _ _ _ _ _ h) (Or.inl ⟨by rfl, ?_⟩) (by assumption) ?_; rotate_left
  · (intro w hSw; (try dsimp only at hSw); go_simp; try with_reducible rfl)
  try simp only [Act.put, zl, z0, z1]
  refine tL (v := ?_) 11 rfl (by kernel_rfl) (fun _ _ _ h => hp _ _ _ _ _ h) (Or.inl ⟨by rfl, ?_⟩) (by assumption) ?_; rotate_left
  · (intro w hSw; (try dsimp only at hSw); go_simp; try with_reducible rfl)
  try simp only [Act.put, zl, z0, z1]
  refine tL (v := ?_) 12 rfl (by kernel_rfl) (fun _ _ _ h => hp _ _ _ _ _ h) (Or.inl ⟨by rfl, ?_⟩) (by assumption) ?_; rotate_left
  · (intro w hSw; (try dsimp only at hSw); go_simp; try with_reducible rfl)
  try simp only [Act.put, zl, z0, z1]
  refine tL (v := ?_) 13 rfl (by kernel_rfl) (fun _ _ _ h => hp _ _ _ _ _ h) (Or.inl ⟨by rfl, ?_⟩) (by assumption) ?_; rotate_left
  · (intro w hSw; (try dsimp only at hSw); go_simp; try with_reducible rfl)
  try simp only [Act.put, zl, z0, z1]
  refine tL (v := ?_) 14 rfl (by kernel_rfl) (fun _ _ _ h => hp _ _ _ _ _ h) (Or.inl ⟨by rfl, ?_⟩) (by assumption) ?_; rotate_left
  · (intro w hSw; (try dsimp only at hSw); go_simp; try with_reducible rfl)
  try simp only [Act.put, zl, z0, z1]
  refine tL (v := ?_) 15 rfl (by kernel_rfl) (fun _ _ _ h => hp _ _ _ _ _ h) (Or.inl ⟨by rfl, ?_⟩) (by assumption) ?_; rotate_left
  · (intro w hSw; (try dsimp only at hSw); go_simp; try with_reducible rfl)
  try simp only [Act.put, zl, z0, z1]
  refine tL (v := ?_) 16 rfl (by kernel_rfl) (fun _ _ _ h => hp _ _ _ _ _ h) (Or.inl ⟨by rfl, ?_⟩) (by assumption) ?_; rotate_left
  · (intro w hSw; (try dsimp only at hSw); go_simp; try with_reducible rfl)
  try simp only [Act.put, zl, z0, z1]
  refine tL (v := ?_) 17 rfl (by kernel_rfl) (fun _ _ _ h => hp _ _ _ _ _ h) (Or.inl ⟨by rfl, ?_⟩) (by assumption) ?_; rotate_left
  · (intro w hSw; (try dsimp only at hSw); go_simp; try with_reducible rfl)
  try simp only [Act.put, zl, z0, z1]
  refine tL (v := ?_) 18 rfl (by kernel_rfl) (fun _ _ _ h => hp _ _ _ _ _ h) (Or.inl ⟨by rfl, ?_⟩) (by assumption) ?_; rotate_left
  · (intro w hSw; (try dsimp only at hSw); go_simp; try with_reducible rfl)
  try simp only [Act.put, zl, z0, z1]
  refine tL (v := ?_) 19 rfl (by kernel_rfl) (fun _ _ _ h => hp _ _ _ _ _ h) (Or.inl ⟨by rfl, ?_⟩) (by assumption) ?_; rotate_left
  · (intro w hSw; (try dsimp only at hSw); go_simp; try with_reducible rfl)
  try simp only [Act.put, zl, z0, z1]
  refine tL (v := ?_) 20 rfl (by kernel_rfl) (fun _ _ _ h => hp _ _ _ _ _ h) (Or.inl ⟨by rfl, ?_⟩) (by assumption) ?_; rotate_left
  · (intro w hSw; (try dsimp only at hSw); go_simp; try with_reducible rfl)
  try simp only [Act.put, zl, z0, z1]
  refine tL (v := ?_) 21 rfl (by kernel_rfl) (fun _ _ _ h => hp _ _ _ _ _ h) (Or.inl ⟨by rfl, ?_⟩) (by assumption) ?_; rotate_left
  · (intro w hSw; (try dsimp only at hSw); go_simp; try with_reducible rfl)
  try simp only [Act.put, zl, z0, z1]
  refine tL (v := ?_) 22 rfl (by kernel_rfl) (fun _ _ _ h => hp _ _ _ _ _ h) (Or.inl ⟨by rfl, ?_⟩) (by assumption) ?_; rotate_left
  · (intro w hSw; (try dsimp only at hSw); go_simp; try with_reducible rfl)
  try simp only [Act.put, zl, z0, z1]
  refine tL (v := ?_) 23 rfl (by kernel_rfl) (fun _ _ _ h => hp _ _ _ _ _ h) (Or.inl ⟨by rfl, ?_⟩) (by assumption) ?_; rotate_left
  · (intro w hSw; (try dsimp only at hSw); go_simp; try with_reducible rfl)
  try simp only [Act.put, zl, z0, z1]
  refine tL (v := ?_) 24 rfl (by kernel_rfl) (fun _ _ _ h => hp _ _ _ _ _ h) (Or.inl ⟨by rfl, ?_⟩) (by assumption) ?_; rotate_left
  · (intro w hSw; (try dsimp only at hSw); go_simp; try with_reducible rfl)
  try simp only [Act.put, zl, z0, z1]
  refine tL (v := ?_) 25 rfl (by kernel_rfl) (fun _ _ _ h => hp _ _ _ _ _ h) (Or.inl ⟨by rfl, ?_⟩) (by assumption) ?_; rotate_left
  · (intro w hSw; (try dsimp only at hSw); go_simp; try with_reducible rfl)
  try simp only [Act.put, zl, z0, z1]
  refine tL (v := ?_) 26 rfl (by kernel_rfl) (fun _ _ _ h => hp _ _ _ _ _ h) (Or.inl ⟨by rfl, ?_⟩) (by assumption) ?_; rotate_left
  · (intro w hSw; (try dsimp only at hSw); go_simp; try with_reducible rfl)
  try simp only [Act.put, zl, z0, z1]
  refine tL (v := ?_) 27 rfl (by kernel_rfl) (fun _ _ _ h => hp _ _ _ _ _ h) (Or.inl ⟨by rfl, ?_⟩) (by assumption) ?_; rotate_left
  · (intro w hSw; (try dsimp only at hSw); go_simp; try with_reducible rfl)
  try simp only [Act.put, zl, z0, z1]
  refine tL (v := ?_) 28 rfl (by kernel_rfl) (fun _ _ _ h => hp _ _ _ _ _ h) (Or.inl ⟨by rfl, ?_⟩) (by assumption) ?_; rotate_left
  · (intro w hSw; (try dsimp only at hSw); go_simp; try with_reducible rfl)
  try simp only [Act.put, zl, z0, z1]
  refine tL (v := ?_) 29 rfl (by kernel_rfl) (fun _ _ _ h => hp _ _ _ _ _ h) (Or.inl ⟨by rfl, ?_⟩) (by assumption) ?_; rotate_left
  · (intro w hSw; (try dsimp only at hSw); go_simp; try with_reducible rfl)
  try simp only [Act.put, zl, z0, z1]
  refine tL (v := ?_) 30 rfl (by kernel_rfl) (fun _ _ _ h => hp _ _ _ _ _ h) (Or.inl ⟨by rfl, ?_⟩) (by assumption) ?_; rotate_left
  · (intro w hSw; (try dsimp only at hSw); go_simp; try with_reducible rfl)
  try simp only [Act.put, zl, z0, z1]
  refine tL (v := ?_) 31 rfl (by kernel_rfl) (fun _ _ _ h => hp _ _ _ _ _ h) (Or.inl ⟨by rfl, ?_⟩) (by assumption) ?_; rotate_left
  · (intro w hSw; (try dsimp only at hSw); go_simp; try with_reducible rfl)
  try simp only [Act.put, zl, z0, z1]
  refine tL (v := ?_) 32 rfl (by kernel_rfl) (fun _ _ _ h => hp _ _ _ _ _ h) (Or.inl ⟨by rfl, ?_⟩) (by assumption) ?_; rotate_left
  · (intro w hSw; (try dsimp only at hSw); go_simp; try with_reducible rfl)
  try simp only [Act.put, zl, z0, z1]
  refine wpAnyH_ready (rs := [33]) (by kernel_rfl) (by simp) ?_
  refine consL 33 rfl (fun K hK => ?_) AllReadyH.nil
  go_simp
  ((go_at_call 15; refine (valid_any a.v a.A a.n a.c a.b _ HLEN.out ((HRD.out.below (by first | exact hS.1 | exact zbD hS.1)).mono (by first | exact hS.1.size | exact (zbD hS.1).size))).mono ?_; rintro e w6 ⟨rfl, hb⟩; rw [HVD.out]; have hSn := hkeep _ _ hb (by assumption); (try clear hS); have hS := hSn; clear hSn))
  refine hK.out _ _ ?_ (fun hHeld1 => ?_)
  · (try dsimp only); exact hS
  clear hK K hHeld0
  try simp only [Act.put, zl, z0, z1]
  refine tL (v := ?_) 34 rfl (by kernel_rfl) (fun _ _ _ h => hp _ _ _ _ _ h) (Or.inl ⟨by rfl, ?_⟩) (by assumption) ?_; rotate_left
  · (intro w hSw; (try dsimp only at hSw); go_simp; try with_reducible rfl)
  try simp only [Act.put, zl, z0, z1]
  refine tL (v := ?_) 35 rfl (by kernel_rfl) (fun _ _ _ h => hp _ _ _ _ _ h) (Or.inl ⟨by rfl, ?_⟩) (by assumption) ?_; rotate_left
  · (intro w hSw; (try dsimp only at hSw); go_simp; try with_reducible rfl)
  try simp only [Act.put, zl, z0, z1]
  refine tL (v := ?_) 36 rfl (by kernel_rfl) (fun _ _ _ h => hp _ _ _ _ _ h) (Or.inl ⟨by rfl, ?_⟩) (by assumption) ?_; rotate_left
  · (intro w hSw; (try dsimp only at hSw); go_simp; try with_reducible rfl)
  try simp only [Act.put, zl, z0, z1]
  refine tL (v := ?_) 37 rfl (by kernel_rfl) (fun _ _ _ h => hp _ _ _ _ _ h) (Or.inl ⟨by rfl, ?_⟩) (by assumption) ?_; rotate_left
  · (intro w hSw; (try dsimp only at hSw); go_simp; try with_reducible rfl)
  try simp only [Act.put, zl, z0, z1]
  refine tL (v := ?_) 38 rfl (by kernel_rfl) (fun _ _ _ h => hp _ _ _ _ _ h) (Or.inl ⟨by rfl, ?_⟩) (by assumption) ?_; rotate_left
  · (intro w hSw; (try dsimp only at hSw); go_simp; try with_reducible rfl)
  try simp only [Act.put, zl, z0, z1]
  refine tL (v := ?_) 39 rfl (by kernel_rfl) (fun _ _ _ h => hp _ _ _ _ _ h) (Or.inl ⟨by rfl, ?_⟩) (by assumption) ?_; rotate_left
  · (intro w hSw; (try dsimp only at hSw); go_simp; try with_reducible rfl)
  try simp only [Act.put, zl, z0, z1]
  refine tL (v := ?_) 40 rfl (by kernel_rfl) (fun _ _ _ h => hp _ _ _ _ _ h) (Or.inl ⟨by rfl, ?_⟩) (by assumption) ?_; rotate_left
  · (intro w hSw; (try dsimp only at hSw); go_simp; try with_reducible rfl)
  try simp only [Act.put, zl, z0, z1]
  refine tL (v := ?_) 41 rfl (by kernel_rfl) (fun _ _ _ h => hp _ _ _ _ _ h) (Or.inl ⟨by rfl, ?_⟩) (by assumption) ?_; rotate_left
  · (intro w hSw; (try dsimp only at hSw); go_simp; try with_reducible rfl)
  try simp only [Act.put, zl, z0, z1]
  refine tL (v := ?_) 42 rfl (by kernel_rfl) (fun _ _ _ h => hp _ _ _ _ _ h) (Or.inl ⟨by rfl, ?_⟩) (by assumption) ?_; rotate_left
  · (intro w hSw; (try dsimp only at hSw); go_simp; try with_reducible rfl)
  try simp only [Act.put, zl, z0, z1]
  refine tL (v := ?_) 43 rfl (by kernel_rfl) (fun _ _ _ h => hp _ _ _ _ _ h) (Or.inl ⟨by rfl, ?_⟩) (by assumption) ?_; rotate_left
  · (intro w hSw; (try dsimp only at hSw); go_simp; try with_reducible rfl)
  try simp only [Act.put, zl, z0, z1]
  refine tL (v := ?_) 44 rfl (by kernel_rfl) (fun _ _ _ h => hp _ _ _ _ _ h) (Or.inl ⟨by rfl, ?_⟩) (by assumption) ?_; rotate_left
  · (intro w hSw; (try dsimp only at hSw); go_simp; try with_reducible rfl)
  try simp only [Act.put, zl, z0, z1]
  refine tL (v := ?_) 45 rfl (by kernel_rfl) (fun _ _ _ h => hp _ _ _ _ _ h) (Or.inl ⟨by rfl, ?_⟩) (by assumption) ?_; rotate_left
  · (intro w hSw; (try dsimp only at hSw); go_simp; try with_reducible rfl)
  try simp only [Act.put, zl, z0, z1]
  refine tL (v := ?_) 46 rfl (by kernel_rfl) (fun _ _ _ h => hp _ _ _ _ _ h) (Or.inl ⟨by rfl, ?_⟩) (by assumption) ?_; rotate_left
  · (intro w hSw; (try dsimp only at hSw); go_simp; try with_reducible rfl)
  try simp only [Act.put, zl, z0, z1]
  refine tL (v := ?_) 47 rfl (by kernel_rfl) (fun _ _ _ h => hp _ _ _ _ _ h) (Or.inl ⟨by rfl, ?_⟩) (by assumption) ?_; rotate_left
  · (intro w hSw; (try dsimp only at hSw); go_simp; try with_reducible rfl)
  try simp only [Act.put, zl, z0, z1]
  refine tL (v := ?_) 48 rfl (by kernel_rfl) (fun _ _ _ h => hp _ _ _ _ _ h) (Or.inl ⟨by rfl, ?_⟩) (by assumption) ?_; rotate_left
  · (intro w hSw; (try dsimp only at hSw); go_simp; try with_reducible rfl)
  try simp only [Act.put, zl, z0, z1]
  refine tL (v := ?_) 49 rfl (by kernel_rfl) (fun _ _ _ h => hp _ _ _ _ _ h) (Or.inl ⟨by rfl, ?_⟩) (by assumption) ?_; rotate_left
  · (intro w hSw; (try dsimp only at hSw); go_simp; try with_reducible rfl)
  try simp only [Act.put, zl, z0, z1]
  refine tL (v := ?_) 50 rfl (by kernel_rfl) (fun _ _ _ h => hp _ _ _ _ _ h) (Or.inl ⟨by rfl, ?_⟩) (by assumption) ?_; rotate_left
  · (intro w hSw; (try dsimp only at hSw); go_simp; try with_reducible rfl)
  try simp only [Act.put, zl, z0, z1]
  refine tL (v := ?_) 51 rfl (by kernel_rfl) (fun _ _ _ h => hp _ _ _ _ _ h) (Or.inl ⟨by rfl, ?_⟩) (by assumption) ?_; rotate_left
  · (intro w hSw; (try dsimp only at hSw); go_simp; try with_reducible rfl)
  try simp only [Act.put, zl, z0, z1]
  refine wpAnyH_done (by kernel_rfl) ?_ _
  refine hK _ _ _ _ _ _ _ _ _ _ _ _ _ _ _ _ _ _ _ _ _ _ _ _ _ _ _ _ _ _ _ _ _ _ _ _ _ _ _ _ _ _ _ _ _ _ _ _ _ _ _ _ (hide hS.1)

set_option maxRecDepth 100000 in
set_option maxHeartbeats 64000000 in
theorem cnt8_in {K : Act → World → Prop} {Q : Exit → Act → World → Prop} (hp : ∀ c a d v w, Q (.panic c) (Act.put a d v) w → Q (.panic c) a w) (a : L.Ap) (b o i n c : Nat) (W1 : World) (hi0 : (0 : Int) ≤ (i : Int)) (hlt' : (i : Int) < (n : Int)) (hn8 : (n : Int) ≤ 8) (lbr : b < W1.heap.size) (HLEN : Hid (a.v.ss.length = a.n)) (HRD : Hid (RdS W1 W1.heap.size a.A a.v.ss)) (c0 : W1.cell? ⟨b, o + i * 14, none⟩ = some (.int .i64 a.kind)) (c1 : W1.cell? ⟨b, o + i * 14 + 1, none⟩ = some (.int .i64 a.side)) (c2 : W1.cell? ⟨b, o + i * 14 + 2, none⟩ = some (.int .i64 a.said)) (c3 : W1.cell? ⟨b, o + i * 14 + 3, none⟩ = some (.int .i64 a.v.size)) (c4 : W1.cell? ⟨b, o + i * 14 + 4, none⟩ = some (.slice a.A a.n a.c)) (c5 : W1.cell? ⟨b, o + i * 14 + 5, none⟩ = some (.int .i64 a.v.wrong)) (c6 : W1.cell? ⟨b, o + i * 14 + 6, none⟩ = some (.int .i64 a.v.hxl)) (c7 : W1.cell? ⟨b, o + i * 14 + 7, none⟩ = some (.int .i64 a.v.hxh)) (c8 : W1.cell? ⟨b, o + i * 14 + 8, none⟩ = some (.int .i64 a.v.hyl)) (c9 : W1.cell? ⟨b, o + i * 14 + 9, none⟩ = some (.int .i64 a.v.hyh)) (c10 : W1.cell? ⟨b, o + i * 14 + 10, none⟩ = some (.int .i64 a.b.l)) (c11 : W1.cell? ⟨b, o + i * 14 + 11, none⟩ = some (.int .i64 a.b.r)) (c12 : W1.cell? ⟨b, o + i * 14 + 12, none⟩ = some (.int .i64 a.b.b)) (c13 : W1.cell? ⟨b, o + i * 14 + 13, none⟩ = some (.int .i64 a.b.t)) (d1 : (a.kind != 3) = false) (v0 : decide (a.side < 0) = false) (v1 : decide (1 < a.side) = false) (HVD : Hid (L.validB a.v a.b = true)) (u1 : (a.said != 1) = false) (u2 : (a.said != 2) = true) (f0 f2 f3 f4 f5 f6 f8 f9 f10 f11 f12 f13 f14 f15 f16 f17 f18 f19 f20 f21 f22 f23 f24 f25 f26 f27 f28 f29 f30 f31 f32 f33 f34 f35 f36 f37 f38 f39 f40 f41 f42 f43 f44 f45 f46 f47 f48 f49 f50 f51 f52 f53 f54 f55 f56 f57 f58 f59 f60 f61 f62 f63 f64 f65 f66 f67 f68 f69 f70 f71 f72 f73 f74 f75 f76 f77 f78 f79 f80 f81 f82 f83 f84 f85 f86 f87 f88 f89 f90 f91 f92 f93 f94 f95 f96 f97 f98 f99 f100 f101 f102 f103 f104 f105 f106 f107 f108 f109 f110 f111 f112 f113 f114 f115 f116 f117 f118 f119 f120 f121 f122 f123 f124 f125 f126 f127 f128 f129 f130 f131 f132 f133 f134 f135 f136 f137 f138 f139 f140 f141 f142 f143 f144 f145 f146 f147 f148 f149 f150 f151 f152 f153 f154 f155 f156 f157 f158 f159 f160 f161 f162 f163 f164 f165 f166 f167 f168 f169 f170 f171 f172 f173 f174 f175 f176 f177 f178 f179 f180 f181 f182 f183 f184 f185 f186 f187 f188 f189 f190 f191 f192 f193 f194 f195 f196 f197 f198 f199 f200 f201 f202 f203 f204 f205 f206 f207 f208 f209 f210 f211 f212 f213 f214 f215 f216 f217 f218 f219 f220 f221 f222 f223 f224 f225 f226 f227 f228 f229 f230 f231 f232 f233 f234 f235 f236 f237 f238 f239 f240 f241 f242 f243 f244 f245 f246 f247 f248 f249 f250 f251 f252 f253 f254 f255 f256 f257 f258 f259 f260 f261 f262 f263 f264 f265 f266 f267 f268 f269 f270 f271 f272 f273 f274 f275 f276 f277 f278 f279 f280 f281 : Value)
    (hK : ∀ (u54 u55 u56 u57 u58 u59 u60 u61 u62 u63 u64 u65 u66 u67 u68 u69 u70 u71 u72 u73 u74 u75 u76 u77 u78 u79 u80 u81 u82 u83 u84 u85 u86 u87 u88 u89 u90 u91 u92 u93 u94 u95 u96 u97 u98 u99 u100 u101 u102 u103 u104 : Value) (w6 : World), Hid (Below W1.heap.size W1 w6) → K ⟨#[f0, .slice (some ⟨b, o, none⟩) n c, f2, f3, f4, f5, f6, .int .i64 (i : Int), f8, f9, f10, f11, f12, f13, f14, f15, f16, f17, f18, f19, f20, f21, f22, f23, f24, f25, f26, f27, f28, f29, f30, f31, f32, f33, f34, f35, f36, f37, f38, f39, f40, f41, f42, f43, f44, f45, f46, f47, f48, f49, f50, f51, f52, f53, u54, u55, u56, u57, u58, u59, u60, u61, u62, u63, u64, u65, u66, u67, u68, u69, u70, u71, u72, u73, u74, u75, u76, u77, u78, u79, u80, u81, u82, u83, u84, u85, u86, u87, u88, u89, u90, u91, u92, u93, u94, u95, u96, u97, u98, u99, u100, u101, u102, u103, u104, .bool false, f106, f107, f108, f109, f110, f111, f112, f113, f114, f115, f116, f117, f118, f119, f120, f121, f122, f123, f124, f125, f126, f127, f128, f129, f130, f131, f132, f133, f134, f135, f136, f137, f138, f139, f140, f141, f142, f143, f144, f145, f146, f147, f148, f149, f150, f151, f152, f153, f154, f155, f156, f157, f158, f159, f160, f161, f162, f163, f164, f165, f166, f167, f168, f169, f170, f171, f172, f173, f174, f175, f176, f177, f178, f179, f180, f181, f182, f183, f184, f185, f186, f187, f188, f189, f190, f191, f192, f193, f194, f195, f196, f197, f198, f199, f200, f201, f202, f203, f204, f205, f206, f207, f208, f209, f210, f211, f212, f213, f214, f215, f216, f217, f218, f219, f220, f221, f222, f223, f224, f225, f226, f227, f228, f229, f230, f231, f232, f233, f234, f235, f236, f237, f238, f239, f240, f241, f242, f243, f244, f245, f246, f247, f248, f249, f250, f251, f252, f253, f254, f255, f256, f257, f258, f259, f260, f261, f262, f263, f264, f265, f266, f267, f268, f269, f270, f271, f272, f273, f274, f275, f276, f277, f278, f279, f280, f281], []⟩ w6) :
    Code.wp Try.prog (cntReg 8) (Exit.then K Q) ⟨#[f0, .slice (some ⟨b, o, none⟩) n c, f2, f3, f4, f5, f6, .int .i64 (i : Int), f8, f9, f10, f11, f12, f13, f14, f15, f16, f17, f18, f19, f20, f21, f22, f23, f24, f25, f26, f27, f28, f29, f30, f31, f32, f33, f34, f35, f36, f37, f38, f39, f40, f41, f42, f43, f44, f45, f46, f47, f48, f49, f50, f51, f52, f53, f54, f55, f56, f57, f58, f59, f60, f61, f62, f63, f64, f65, f66, f67, f68, f69, f70, f71, f72, f73, f74, f75, f76, f77, f78, f79, f80, f81, f82, f83, f84, f85, f86, f87, f88, f89, f90, f91, f92, f93, f94, f95, f96, f97, f98, f99, f100, f101, f102, f103, f104, f105, f106, f107, f108, f109, f110, f111, f112, f113, f114, f115, f116, f117, f118, f119, f120, f121, f122, f123, f124, f125, f126, f127, f128, f129, f130, f131, f132, f133, f134, f135, f136, f137, f138, f139, f140, f141, f142, f143, f144, f145, f146, f147, f148, f149, f150, f151, f152, f153, f154, f155, f156, f157, f158, f159, f160, f161, f162, f163, f164, f165, f166, f167, f168, f169, f170, f171, f172, f173, f174, f175, f176, f177, f178, f179, f180, f181, f182, f183, f184, f185, f186, f187, f188, f189, f190, f191, f192, f193, f194, f195, f196, f197, f198, f199, f200, f201, f202, f203, f204, f205, f206, f207, f208, f209, f210, f211, f212, f213, f214, f215, f216, f217, f218, f219, f220, f221, f222, f223, f224, f225, f226, f227, f228, f229, f230, f231, f232, f233, f234, f235, f236, f237, f238, f239, f240, f241, f242, f243, f244, f245, f246, f247, f248, f249, f250, f251, f252, f253, f254, f255, f256, f257, f258, f259, f260, f261, f262, f263, f264, f265, f266, f267, f268, f269, f270, f271, f272, f273, f274, f275, f276, f277, f278, f279, f280, f281], []⟩ W1 := by
  conv => arg 2; whnf
  have hS : (fun w' => Below W1.heap.size W1 w' ∧ b < w'.heap.size ∧ w'.cell? ⟨b, o + i * 14, none⟩ = some (.int .i64 a.kind) ∧ w'.cell? ⟨b, o + i * 14 + 1, none⟩ = some (.int .i64 a.side) ∧ w'.cell? ⟨b, o + i * 14 + 2, none⟩ = some (.int .i64 a.said) ∧ w'.cell? ⟨b, o + i * 14 + 3, none⟩ = some (.int .i64 a.v.size) ∧ w'.cell? ⟨b, o + i * 14 + 4, none⟩ = some (.slice a.A a.n a.c) ∧ w'.cell? ⟨b, o + i * 14 + 5, none⟩ = some (.int .i64 a.v.wrong) ∧ w'.cell? ⟨b, o + i * 14 + 6, none⟩ = some (.int .i64 a.v.hxl) ∧ w'.cell? ⟨b, o + i * 14 + 7, none⟩ = some (.int .i64 a.v.hxh) ∧ w'.cell? ⟨b, o + i * 14 + 8, none⟩ = some (.int .i64 a.v.hyl) ∧ w'.cell? ⟨b, o + i * 14 + 9, none⟩ = some (.int .i64 a.v.hyh) ∧ w'.cell? ⟨b, o + i * 14 + 10, none⟩ = some (.int .i64 a.b.l) ∧ w'.cell? ⟨b, o + i * 14 + 11, none⟩ = some (.int .i64 a.b.r) ∧ w'.cell? ⟨b, o + i * 14 + 12, none⟩ = some (.int .i64 a.b.b) ∧ w'.cell? ⟨b, o + i * 14 + 13, none⟩ = some (.int .i64 a.b.t)) W1 := ⟨Below.refl _ _, lbr, c0, c1, c2, c3, c4, c5, c6, c7, c8, c9, c10, c11, c12, c13⟩
  have hkeep : ∀ u u' : World, Below u.heap.size u u' → (Below W1.heap.size W1 u ∧ b < u.heap.size ∧ u.cell? ⟨b, o + i * 14, none⟩ = some (.int .i64 a.kind) ∧ u.cell? ⟨b, o + i * 14 + 1, none⟩ = some (.int .i64 a.side) ∧ u.cell? ⟨b, o + i * 14 + 2, none⟩ = some (.int .i64 a.said) ∧ u.cell? ⟨b, o + i * 14 + 3, none⟩ = some (.int .i64 a.v.size) ∧ u.cell? ⟨b, o + i * 14 + 4, none⟩ = some (.slice a.A a.n a.c) ∧ u.cell? ⟨b, o + i * 14 + 5, none⟩ = some (.int .i64 a.v.wrong) ∧ u.cell? ⟨b, o + i * 14 + 6, none⟩ = some (.int .i64 a.v.hxl) ∧ u.cell? ⟨b, o + i * 14 + 7, none⟩ = some (.int .i64 a.v.hxh) ∧ u.cell? ⟨b, o + i * 14 + 8, none⟩ = some (.int .i64 a.v.hyl) ∧ u.cell? ⟨b, o + i * 14 + 9, none⟩ = some (.int .i64 a.v.hyh) ∧ u.cell? ⟨b, o + i * 14 + 10, none⟩ = some (.int .i64 a.b.l) ∧ u.cell? ⟨b, o + i * 14 + 11, none⟩ = some (.int .i64 a.b.r) ∧ u.cell? ⟨b, o + i * 14 + 12, none⟩ = some (.int .i64 a.b.b) ∧ u.cell? ⟨b, o + i * 14 + 13, none⟩ = some (.int .i64 a.b.t)) → (Below W1.heap.size W1 u' ∧ b < u'.heap.size ∧ u'.cell? ⟨b, o + i * 14, none⟩ = some (.int .i64 a.kind) ∧ u'.cell? ⟨b, o + i * 14 + 1, none⟩ = some (.int .i64 a.side) ∧ u'.cell? ⟨b, o + i * 14 + 2, none⟩ = some (.int .i64 a.said) ∧ u'.cell? ⟨b, o + i * 14 + 3, none⟩ = some (.int .i64 a.v.size) ∧ u'.cell? ⟨b, o + i * 14 + 4, none⟩ = some (.slice a.A a.n a.c) ∧ u'.cell? ⟨b, o + i * 14 + 5, none⟩ = some (.int .i64 a.v.wrong) ∧ u'.cell? ⟨b, o + i * 14 + 6, none⟩ = some (.int .i64 a.v.hxl) ∧ u'.cell? ⟨b, o + i * 14 + 7, none⟩ = some (.int .i64 a.v.hxh) ∧ u'.cell? ⟨b, o + i * 14 + 8, none⟩ = some (.int .i64 a.v.hyl) ∧ u'.cell? ⟨b, o + i * 14 + 9, none⟩ = some (.int .i64 a.v.hyh) ∧ u'.cell? ⟨b, o + i * 14 + 10, none⟩ = some (.int .i64 a.b.l) ∧ u'.cell? ⟨b, o + i * 14 + 11, none⟩ = some (.int .i64 a.b.r) ∧ u'.cell? ⟨b, o + i * 14 + 12, none⟩ = some (.int .i64 a.b.b) ∧ u'.cell? ⟨b, o + i * 14 + 13, none⟩ = some (.int .i64 a.b.t)) := by
    rintro u u' hb ⟨hB, l_b, k0, k1, k2, k3, k4, k5, k6, k7, k8, k9, k10, k11, k12, k13⟩
    exact ⟨hB.trans (hb.mono hB.size), Nat.lt_of_lt_of_le l_b hb.size, (hb.cell (p := ⟨b, o + i * 14, none⟩) l_b).trans k0, (hb.cell (p := ⟨b, o + i * 14 + 1, none⟩) l_b).trans k1, (hb.cell (p := ⟨b, o + i * 14 + 2, none⟩) l_b).trans k2, (hb.cell (p := ⟨b, o + i * 14 + 3, none⟩) l_b).trans k3, (hb.cell (p := ⟨b, o + i * 14 + 4, none⟩) l_b).trans k4, (hb.cell (p := ⟨b, o + i * 14 + 5, none⟩) l_b).trans k5, (hb.cell (p := ⟨b, o + i * 14 + 6, none⟩) l_b).trans k6, (hb.cell (p := ⟨b, o + i * 14 + 7, none⟩) l_b).trans k7, (hb.cell (p := ⟨b, o + i * 14 + 8, none⟩) l_b).trans k8, (hb.cell (p := ⟨b, o + i * 14 + 9, none⟩) l_b).trans k9, (hb.cell (p := ⟨b, o + i * 14 + 10, none⟩) l_b).trans k10, (hb.cell (p := ⟨b, o + i * 14 + 11, none⟩) l_b).trans k11, (hb.cell (p := ⟨b, o + i * 14 + 12, none⟩) l_b).trans k12, (hb.cell (p := ⟨b, o + i * 14 + 13, none⟩) l_b).trans k13⟩
  (try dsimp only at hS)
  refine wp_region_held_drew (S := (fun w' => Below W1.heap.size W1 w' ∧ b < w'.heap.size ∧ w'.cell? ⟨b, o + i * 14, none⟩ = some (.int .i64 a.kind) ∧ w'.cell? ⟨b, o + i * 14 + 1, none⟩ = some (.int .i64 a.side) ∧ w'.cell? ⟨b, o + i * 14 + 2, none⟩ = some (.int .i64 a.said) ∧ w'.cell? ⟨b, o + i * 14 + 3, none⟩ = some (.int .i64 a.v.size) ∧ w'.cell? ⟨b, o + i * 14 + 4, none⟩ = some (.slice a.A a.n a.c) ∧ w'.cell? ⟨b, o + i * 14 + 5, none⟩ = some (.int .i64 a.v.wrong) ∧ w'.cell? ⟨b, o + i * 14 + 6, none⟩ = some (.int .i64 a.v.hxl) ∧ w'.cell? ⟨b, o + i * 14 + 7, none⟩ = some (.int .i64 a.v.hxh) ∧ w'.cell? ⟨b, o + i * 14 + 8, none⟩ = some (.int .i64 a.v.hyl) ∧ w'.cell? ⟨b, o + i * 14 + 9, none⟩ = some (.int .i64 a.v.hyh) ∧ w'.cell? ⟨b, o + i * 14 + 10, none⟩ = some (.int .i64 a.b.l) ∧ w'.cell? ⟨b, o + i * 14 + 11, none⟩ = some (.int .i64 a.b.r) ∧ w'.cell? ⟨b, o + i * 14 + 12, none⟩ = some (.int .i64 a.b.b) ∧ w'.cell? ⟨b, o + i * 14 + 13, none⟩ = some (.int .i64 a.b.t))) (by kernel_rfl) ?_ (fun hHeld0 => ?_)
  · (try dsimp only); (first | (go_keep; done) | (go_split_ands; (repeat' apply And.intro) <;> first | (go_keep; done) | (simp [*, zcA, zcP, zfA, zfP]; done) | (simp [zcA, zcP] <;> rfl) | (simp [*, zsS, zsO, zsA]; done) | ((first | refine (hc _ _ ?_).trans ?_ | refine (hf _ _ ?_).trans ?_) <;> first | assumption | (simp; done) | (simp; omega) | omega | (go_keep; done) | (simp [*, zcA, zcP, zfA, zfP]; done) | (simp [zcA, zcP]; rfl)) | (repeat' first | exact zbR _ _ | assumption | refine zbD ?_ | refine zbA ?_ ?_ _ | refine zbS ?_ ?_ _ | refine zbT ?_ (by assumption) ?_ | (simp; done) | (simp; omega) | omega)))
  refine tL (v := ?_) 0 rfl (by kernel_rfl) (fun _ _ _ h => hp _ _ _ _ _ h) (Or.inl ⟨by rfl, ?_⟩) (by assumption) ?_; rotate_left
  · (intro w hSw; (try dsimp only at hSw); go_simp; try with_reducible rfl)
  try simp only [Act.put, zl, z0, z1]
  refine tL (v := ?_) 1 rfl (by kernel_rfl) (fun _ _ _ h => hp _ _ _ _ _ h) (Or.inl ⟨by rfl, ?_⟩) (by assumption) ?_; rotate_left
  · (intro w hSw; (try dsimp only at hSw); go_simp; try with_reducible rfl)
  try simp only [Act.put, zl, z0, z1]
  refine tL (v := ?_) 2 rfl (by kernel_rfl) (fun _ _ _ h => hp _ _ _ _ _ h) (Or.inl ⟨by rfl, ?_⟩) (by assumption) ?_; rotate_left
  · (intro w hSw; (try dsimp only at hSw); go_simp; try with_reducible rfl)
  try simp only [Act.put, zl, z0, z1]
  refine tL (v := ?_) 3 rfl (by kernel_rfl) (fun _ _ _ h => hp _ _ _ _ _ h) (Or.inl ⟨by rfl, ?_⟩) (by assumption) ?_; rotate_left
  · (intro w hSw; (try dsimp only at hSw); go_simp; try with_reducible rfl)
  try simp only [Act.put, zl, z0, z1]
  refine tL (v := ?_) 4 rfl (by kernel_rfl) (fun _ _ _ h => hp _ _ _ _ _ h) (Or.inl ⟨by rfl, ?_⟩) (by assumption) ?_; rotate_left
  · (intro w hSw; (try dsimp only at hSw); go_simp; try with_reducible rfl)
  try simp only [Act.put, zl, z0, z1]
  refine tL (v := ?_) 5 rfl (by kernel_rfl) (fun _ _ _ h => hp _ _ _ _ _ h) (Or.inl ⟨by rfl, ?_⟩) (by assumption) ?_; rotate_left
  · (intro w hSw; (try dsimp only at hSw); go_simp; try with_reducible rfl)
  try simp only [Act.put, zl, z0, z1]
  refine tL (v := ?_) 6 rfl (by kernel_rfl) (fun _ _ _ h => hp _ _ _ _ _ h) (Or.inl ⟨by rfl, ?_⟩) (by assumption) ?_; rotate_left
  · (intro w hSw; (try dsimp only at hSw); go_simp; try with_reducible rfl)
  try simp only [Act.put, zl, z0, z1]
  refine tL (v := ?_) 7 rfl (by kernel_rfl) (fun _ _ _ h => hp _ _ _ _ _ h) (Or.inl ⟨by rfl, ?_⟩) (by assumption) ?_; rotate_left
  · (intro w hSw; (try dsimp only at hSw); go_simp; try with_reducible rfl)
  try simp only [Act.put, zl, z0, z1]
  refine tL (v := ?_) 8 rfl (by kernel_rfl) (fun _ _ _ h => hp _ _ _ _ _ h) (Or.inl ⟨by rfl, ?_⟩) (by assumption) ?_; rotate_left
  · (intro w hSw; (try dsimp only at hSw); go_simp; try with_reducible rfl)
  try simp only [Act.put, zl, z0, z1]
  refine tL (v := ?_) 9 rfl (by kernel_rfl) (fun _ _ _ h => hp _ _ _ _ _ h) (Or.inl ⟨by rfl, ?_⟩) (by assumption) ?_; rotate_left
  · (intro w hSw; (try dsimp only at hSw); go_simp; try with_reducible rfl)
  try simp only [Act.put, zl, z0, z1]
  refine tL (v := ?_) 10 rfl (by kernel_rfl) (fun _ _ _ h => hp _ _ _ _ _ h) (Or.inl ⟨by rfl, ?_⟩) (by assumption) ?_; rotate_left
  · (intro w hSw; (try dsimp only at hSw); go_simp; try with_reducible rfl)
  try simp only [Act.put, zl, z0, z1]
  refine tL (v := ?_) 11 rfl (by kernel_rfl) (fun _ _ _ h => hp _ _ _ _ _ h) (Or.inl ⟨by rfl, ?_⟩) (by assumption) ?_; rotate_left
  · (intro w hSw; (try dsimp only at hSw); go_simp; try with_reducible rfl)
  try simp only [Act.put, zl, z0, z1]
  refine tL (v := ?_) 12 rfl (by kernel_rfl) (fun _ _ _ h => hp _ _ _ _ _ h) (Or.inl ⟨by rfl, ?_⟩) (by assumption) ?_; rotate_left
  · (intro w hSw; (try dsimp only at hSw); go_simp; try with_reducible rfl)
  try simp only [Act.put, zl, z0, z1]
  refine tL (v := ?_) 13 rfl (by kernel_rfl) (fun _ _ _ h => hp _ _ _ _ _ h) (Or.inl ⟨by rfl, ?_⟩) (by assumption) ?_; rotate_left
  · (intro w hSw; (try dsimp only at hSw); go_simp; try with_reducible rfl)
  try simp only [Act.put, zl, z0, z1]
  refine tL (v := ?_) 14 rfl (by kernel_rfl) (fun _ _ _ h => hp _ _ _ _ _ h) (Or.inl ⟨by rfl, ?_⟩) (by assumption) ?_; rotate_left
  · (intro w hSw; (try dsimp only at hSw); go_simp; try with_reducible rfl)
  try simp only [Act.put, zl, z0, z1]
  refine tL (v := ?_) 15 rfl (by kernel_rfl) (fun _ _ _ h => hp _ _ _ _ _ h) (Or.inl ⟨by rfl, ?_⟩) (by assumption) ?_; rotate_left
  · (intro w hSw; (try dsimp only at hSw); go_simp; try with_reducible rfl)
  try simp only [Act.put, zl, z0, z1]
  refine tL (v := ?_) 16 rfl (by kernel_rfl) (fun _ _ _ h => hp _ _ _ _ _ h) (Or.inl ⟨by rfl, ?_⟩) (by assumption) ?_; rotate_left
  · (intro w hSw; (try dsimp only at hSw); go_simp; try with_reducible rfl)
  try simp only [Act.put, zl, z0, z1]
  refine tL (v := ?_) 17 rfl (by kernel_rfl) (fun _ _ _ h => hp _ _ _ _ _ h) (Or.inl ⟨by rfl, ?_⟩) (by assumption) ?_; rotate_left
  · (intro w hSw; (try dsimp only at hSw); go_simp; try with_reducible rfl)
  try simp only [Act.put, zl, z0, z1]
  refine tL (v := ?_) 18 rfl (by kernel_rfl) (fun _ _ _ h => hp _ _ _ _ _ h) (Or.inl ⟨by rfl, ?_⟩) (by assumption) ?_; rotate_left
  · (intro w hSw; (try dsimp only at hSw); go_simp; try with_reducible rfl)
  try simp only [Act.put, zl, z0, z1]
  refine tL (v := ?_) 19 rfl (by kernel_rfl) (fun _ _ _ h => hp _ _ _ _ _ h) (Or.inl ⟨by rfl, ?_⟩) (by assumption) ?_; rotate_left
  · (intro w hSw; (try dsimp only at hSw); go_simp; try with_reducible rfl)
  try simp only [Act.put, zl, z0, z1]
  refine tL (v := ?_) 20 rfl (by kernel_rfl) (fun _ _ _ h => hp _ _ _ _ _ h) (Or.inl ⟨by rfl, ?_⟩) (by assumption) ?_; rotate_left
  · (intro w hSw; (try dsimp only at hSw); go_simp; try with_reducible rfl)
  try simp only [Act.put, zl, z0, z1]
  refine tL (v := ?_) 21 rfl (by kernel_rfl) (fun _ _ _ h => hp _ _ _ _ _ h) (Or.inl ⟨by rfl, ?_⟩) (by assumption) ?_; rotate_left
  · (intro w hSw; (try dsimp only at hSw); go_simp; try with_reducible rfl)
  try simp only [Act.put, zl, z0, z1]
  refine tL (v := ?_) 22 rfl (by kernel_rfl) (fun _ _ _ h => hp _ _ _ _ _ h) (Or.inl ⟨by rfl, ?_⟩) (by assumption) ?_; rotate_left
  · (intro w hSw; (try dsimp only at hSw); go_simp; try with_reducible rfl)
  try simp only [Act.put, zl, z0, z1]
  refine tL (v := ?_) 23 rfl (by kernel_rfl) (fun _ _ _ h => hp _ _ _ _ _ h) (Or.inl ⟨by rfl, ?_⟩) (by assumption) ?_; rotate_left
  · (intro w hSw; (try dsimp only at hSw); go_simp; try with_reducible rfl)
  try simp only [Act.put, zl, z0, z1]
  refine tL (v := ?_) 24 rfl (by kernel_rfl) (fun _ _ _ h => hp _ _ _ _ _ h) (Or.inl ⟨by rfl, ?_⟩) (by assumption) ?_; rotate_left
  · (intro w hSw; (try dsimp only at hSw); go_simp; try with_reducible rfl)
  try simp only [Act.put, zl, z0, z1]
  refine tL (v := ?_) 25 rfl (by kernel_rfl) (fun _ _ _ h => hp _ _ _ _ _ h) (Or.inl ⟨by rfl, ?_⟩) (by assumption) ?_; rotate_left
  · (intro w hSw; (try dsimp only at hSw); go_simp; try with_reducible rfl)
  try simp only [Act.put, zl, z0, z1]
  refine tL (v := ?_) 26 rfl (by kernel_rfl) (fun _ _ _ h => hp _ _ _ _ _ h) (Or.inl ⟨by rfl, ?_⟩) (by assumption) ?_; rotate_left
  · (intro w hSw; (try dsimp only at hSw); go_simp; try with_reducible rfl)
  try simp only [Act.put, zl, z0, z1]
  refine tL (v := ?_) 27 rfl (by kernel_rfl) (fun _ _ _ h => hp _ _ _ _ _ h) (Or.inl ⟨by rfl, ?_⟩) (by assumption) ?_; rotate_left
  · (intro w hSw; (try dsimp only at hSw); go_simp; try with_reducible rfl)
  try simp only [Act.put, zl, z0, z1]
  refine tL (v := ?_) 28 rfl (by kernel_rfl) (fun _ _ _ h => hp _ _ _ _ _ h) (Or.inl ⟨by rfl, ?_⟩) (by assumption) ?_; rotate_left
  · (intro w hSw; (try dsimp only at hSw); go_simp; try with_reducible rfl)
  try simp only [Act.put, zl, z0, z1]
  refine tL (v := ?_) 29 rfl (by kernel_rfl) (fun _ _ _ h => hp _ _ _ _ _ h) (Or.inl ⟨by rfl, ?_⟩) (by assumption) ?_; rotate_left
  · (intro w hSw; (try dsimp only at hSw); go_simp; try with_reducible rfl)
  try simp only [Act.put, zl, z0, z1]
  refine tL (v := ?_) 30 rfl (by kernel_rfl) (fun _ _ _ h => hp _ _ _ _ _ h) (Or.inl ⟨by rfl, ?_⟩) (by assumption) ?_; rotate_left
  · (intro w hSw; (try dsimp only at hSw); go_simp; try with_reducible rfl)
  try simp only [Act.put, zl, z0, z1]
  refine tL (v := ?_) 31 rfl (by kernel_rfl) (fun _ _ _ h => hp _ _ _ _ _ h) (Or.inl ⟨by rfl, ?_⟩) (by assumption) ?_; rotate_left
  · (intro w hSw; (try dsimp only at hSw); go_simp; try with_reducible rfl)
  try simp only [Act.put, zl, z0, z1]
  refine tL (v := ?_) 32 rfl (by kernel_rfl) (fun _ _ _ h => hp _ _ _ _ _ h) (Or.inl ⟨by rfl, ?_⟩) (by assumption) ?_; rotate_left
  · (intro w hSw; (try dsimp only at hSw); go_simp; try with_reducible rfl)
  try simp only [Act.put, zl, z0, z1]
  refine wpAnyH_ready (rs := [33]) (by kernel_rfl) (by simp) ?_
  refine consL 33 rfl (fun K hK => ?_) AllReadyH.nil
  go_simp
  ((go_at_call 15; refine (valid_any a.v a.A a.n a.c a.b _ HLEN.out ((HRD.out.below (by first | exact hS.1 | exact zbD hS.1)).mono (by first | exact hS.1.size | exact (zbD hS.1).size))).mono ?_; rintro e w6 ⟨rfl, hb⟩; rw [HVD.out]; have hSn := hkeep _ _ hb (by assumption); (try clear hS); have hS := hSn; clear hSn))
  refine hK.out _ _ ?_ (fun hHeld1 => ?_)
  · (try dsimp only); exact hS
  clear hK K hHeld0
  try simp only [Act.put, zl, z0, z1]
  refine tL (v := ?_) 34 rfl (by kernel_rfl) (fun _ _ _ h => hp _ _ _ _ _ h) (Or.inl ⟨by rfl, ?_⟩) (by assumption) ?_; rotate_left
  · (intro w hSw; (try dsimp only at hSw); go_simp; try with_reducible rfl)
  try simp only [Act.put, zl, z0, z1]
  refine tL (v := ?_) 35 rfl (by kernel_rfl) (fun _ _ _ h => hp _ _ _ _ _ h) (Or.inl ⟨by rfl, ?_⟩) (by assumption) ?_; rotate_left
  · (intro w hSw; (try dsimp only at hSw); go_simp; try with_reducible rfl)
  try simp only [Act.put, zl, z0, z1]
  refine tL (v := ?_) 36 rfl (by kernel_rfl) (fun _ _ _ h => hp _ _ _ _ _ h) (Or.inl ⟨by rfl, ?_⟩) (by assumption) ?_; rotate_left
  · (intro w hSw; (try dsimp only at hSw); go_simp; try with_reducible rfl)
  try simp only [Act.put, zl, z0, z1]
  refine tL (v := ?_) 37 rfl (by kernel_rfl) (fun _ _ _ h => hp _ _ _ _ _ h) (Or.inl ⟨by rfl, ?_⟩) (by assumption) ?_; rotate_left
  · (intro w hSw; (try dsimp only at hSw); go_simp; try with_reducible rfl)
  try simp only [Act.put, zl, z0, z1]
  refine tL (v := ?_) 38 rfl (by kernel_rfl) (fun _ _ _ h => hp _ _ _ _ _ h) (Or.inl ⟨by rfl, ?_⟩) (by assumption) ?_; rotate_left
  · (intro w hSw; (try dsimp only at hSw); go_simp; try with_reducible rfl)
  try simp only [Act.put, zl, z0, z1]
  refine tL (v := ?_) 39 rfl (by kernel_rfl) (fun _ _ _ h => hp _ _ _ _ _ h) (Or.inl ⟨by rfl, ?_⟩) (by assumption) ?_; rotate_left
  · (intro w hSw; (try dsimp only at hSw); go_simp; try with_reducible rfl)
  try simp only [Act.put, zl, z0, z1]
  refine tL (v := ?_) 40 rfl (by kernel_rfl) (fun _ _ _ h => hp _ _ _ _ _ h) (Or.inl ⟨by rfl, ?_⟩) (by assumption) ?_; rotate_left
  · (intro w hSw; (try dsimp only at hSw); go_simp; try with_reducible rfl)
  try simp only [Act.put, zl, z0, z1]
  refine tL (v := ?_) 41 rfl (by kernel_rfl) (fun _ _ _ h => hp _ _ _ _ _ h) (Or.inl ⟨by rfl, ?_⟩) (by assumption) ?_; rotate_left
  · (intro w hSw; (try dsimp only at hSw); go_simp; try with_reducible rfl)
  try simp only [Act.put, zl, z0, z1]
  refine tL (v := ?_) 42 rfl (by kernel_rfl) (fun _ _ _ h => hp _ _ _ _ _ h) (Or.inl ⟨by rfl, ?_⟩) (by assumption) ?_; rotate_left
  · (intro w hSw; (try dsimp only at hSw); go_simp; try with_reducible rfl)
  try simp only [Act.put, zl, z0, z1]
  refine tL (v := ?_) 43 rfl (by kernel_rfl) (fun _ _ _ h => hp _ _ _ _ _ h) (Or.inl ⟨by rfl, ?_⟩) (by assumption) ?_; rotate_left
  · (intro w hSw; (try dsimp only at hSw); go_simp; try with_reducible rfl)
  try simp only [Act.put, zl, z0, z1]
  refine takeL 44 rfl (by kernel_rfl) (by kernel_rfl) (by kernel_rfl) (fun _ _ _ h => hp _ _ _ _ _ h) (Or.inr ⟨by rfl, rfl⟩) (by assumption) ?_
  try simp only [Act.put, zl, z0, z1]
  refine takeL 45 rfl (by kernel_rfl) (by kernel_rfl) (by kernel_rfl) (fun _ _ _ h => hp _ _ _ _ _ h) (Or.inr ⟨by rfl, rfl⟩) (by assumption) ?_
  try simp only [Act.put, zl, z0, z1]
  refine takeL 46 rfl (by kernel_rfl) (by kernel_rfl) (by kernel_rfl) (fun _ _ _ h => hp _ _ _ _ _ h) (Or.inr ⟨by rfl, rfl⟩) (by assumption) ?_
  try simp only [Act.put, zl, z0, z1]
  refine takeL 47 rfl (by kernel_rfl) (by kernel_rfl) (by kernel_rfl) (fun _ _ _ h => hp _ _ _ _ _ h) (Or.inr ⟨by rfl, rfl⟩) (by assumption) ?_
  try simp only [Act.put, zl, z0, z1]
  refine takeL 48 rfl (by kernel_rfl) (by kernel_rfl) (by kernel_rfl) (fun _ _ _ h => hp _ _ _ _ _ h) (Or.inr ⟨by rfl, rfl⟩) (by assumption) ?_
  try simp only [Act.put, zl, z0, z1]
  refine takeL 49 rfl (by kernel_rfl) (by kernel_rfl) (by kernel_rfl) (fun _ _ _ h => hp _ _ _ _ _ h) (Or.inr ⟨by rfl, rfl⟩) (by assumption) ?_
  try simp only [Act.put, zl, z0, z1]
  refine tL (v := ?_) 50 rfl (by kernel_rfl) (fun _ _ _ h => hp _ _ _ _ _ h) (Or.inl ⟨by rfl, ?_⟩) (by assumption) ?_; rotate_left
  · (intro w hSw; (try dsimp only at hSw); go_simp; try with_reducible rfl)
  try simp only [Act.put, zl, z0, z1]
  refine tL (v := ?_) 51 rfl (by kernel_rfl) (fun _ _ _ h => hp _ _ _ _ _ h) (Or.inl ⟨by rfl, ?_⟩) (by assumption) ?_; rotate_left
  · (intro w hSw; (try dsimp only at hSw); go_simp; try with_reducible rfl)
  try simp only [Act.put, zl, z0, z1]
  refine wpAnyH_done (by kernel_rfl) ?_ _
  refine hK _ _ _ _ _ _ _ _ _ _ _ _ _ _ _ _ _ _ _ _ _ _ _ _ _ _ _ _ _ _ _ _ _ _ _ _ _ _ _ _ _ _ _ _ _ _ _ _ _ _ _ _ (hide hS.1)

set_option maxRecDepth 100000 in
set_option maxHeartbeats 64000000 in
theorem cnt8_out {K : Act → World → Prop} {Q : Exit → Act → World → Prop} (hp : ∀ c a d v w, Q (.panic c) (Act.put a d v) w → Q (.panic c) a w) (a : L.Ap) (b o i n c : Nat) (W1 : World) (hi0 : (0 : Int) ≤ (i : Int)) (hlt' : (i : Int) < (n : Int)) (hn8 : (n : Int) ≤ 8) (lbr : b < W1.heap.size) (HLEN : Hid (a.v.ss.length = a.n)) (HRD : Hid (RdS W1 W1.heap.size a.A a.v.ss)) (c0 : W1.cell? ⟨b, o + i * 14, none⟩ = some (.int .i64 a.kind)) (c1 : W1.cell? ⟨b, o + i * 14 + 1, none⟩ = some (.int .i64 a.side)) (c2 : W1.cell? ⟨b, o + i * 14 + 2, none⟩ = some (.int .i64 a.said)) (c3 : W1.cell? ⟨b, o + i * 14 + 3, none⟩ = some (.int .i64 a.v.size)) (c4 : W1.cell? ⟨b, o + i * 14 + 4, none⟩ = some (.slice a.A a.n a.c)) (c5 : W1.cell? ⟨b, o + i * 14 + 5, none⟩ = some (.int .i64 a.v.wrong)) (c6 : W1.cell? ⟨b, o + i * 14 + 6, none⟩ = some (.int .i64 a.v.hxl)) (c7 : W1.cell? ⟨b, o + i * 14 + 7, none⟩ = some (.int .i64 a.v.hxh)) (c8 : W1.cell? ⟨b, o + i * 14 + 8, none⟩ = some (.int .i64 a.v.hyl)) (c9 : W1.cell? ⟨b, o + i * 14 + 9, none⟩ = some (.int .i64 a.v.hyh)) (c10 : W1.cell? ⟨b, o + i * 14 + 10, none⟩ = some (.int .i64 a.b.l)) (c11 : W1.cell? ⟨b, o + i * 14 + 11, none⟩ = some (.int .i64 a.b.r)) (c12 : W1.cell? ⟨b, o + i * 14 + 12, none⟩ = some (.int .i64 a.b.b)) (c13 : W1.cell? ⟨b, o + i * 14 + 13, none⟩ = some (.int .i64 a.b.t)) (d1 : (a.kind != 3) = false) (v0 : decide (a.side < 0) = false) (v1 : decide (1 < a.side) = false) (HVD : Hid (L.validB a.v a.b = true)) (u1 : (a.said != 1) = true) (u2 : (a.said != 2) = false) (f0 f2 f3 f4 f5 f6 f8 f9 f10 f11 f12 f13 f14 f15 f16 f17 f18 f19 f20 f21 f22 f23 f24 f25 f26 f27 f28 f29 f30 f31 f32 f33 f34 f35 f36 f37 f38 f39 f40 f41 f42 f43 f44 f45 f46 f47 f48 f49 f50 f51 f52 f53 f54 f55 f56 f57 f58 f59 f60 f61 f62 f63 f64 f65 f66 f67 f68 f69 f70 f71 f72 f73 f74 f75 f76 f77 f78 f79 f80 f81 f82 f83 f84 f85 f86 f87 f88 f89 f90 f91 f92 f93 f94 f95 f96 f97 f98 f99 f100 f101 f102 f103 f104 f105 f106 f107 f108 f109 f110 f111 f112 f113 f114 f115 f116 f117 f118 f119 f120 f121 f122 f123 f124 f125 f126 f127 f128 f129 f130 f131 f132 f133 f134 f135 f136 f137 f138 f139 f140 f141 f142 f143 f144 f145 f146 f147 f148 f149 f150 f151 f152 f153 f154 f155 f156 f157 f158 f159 f160 f161 f162 f163 f164 f165 f166 f167 f168 f169 f170 f171 f172 f173 f174 f175 f176 f177 f178 f179 f180 f181 f182 f183 f184 f185 f186 f187 f188 f189 f190 f191 f192 f193 f194 f195 f196 f197 f198 f199 f200 f201 f202 f203 f204 f205 f206 f207 f208 f209 f210 f211 f212 f213 f214 f215 f216 f217 f218 f219 f220 f221 f222 f223 f224 f225 f226 f227 f228 f229 f230 f231 f232 f233 f234 f235 f236 f237 f238 f239 f240 f241 f242 f243 f244 f245 f246 f247 f248 f249 f250 f251 f252 f253 f254 f255 f256 f257 f258 f259 f260 f261 f262 f263 f264 f265 f266 f267 f268 f269 f270 f271 f272 f273 f274 f275 f276 f277 f278 f279 f280 f281 : Value)
    (hK : ∀ (u54 u55 u56 u57 u58 u59 u60 u61 u62 u63 u64 u65 u66 u67 u68 u69 u70 u71 u72 u73 u74 u75 u76 u77 u78 u79 u80 u81 u82 u83 u84 u85 u86 u87 u88 u89 u90 u91 u92 u93 u94 u95 u96 u97 u98 u99 u100 u101 u102 u103 u104 : Value) (w6 : World), Hid (Below W1.heap.size W1 w6) → K ⟨#[f0, .slice (some ⟨b, o, none⟩) n c, f2, f3, f4, f5, f6, .int .i64 (i : Int), f8, f9, f10, f11, f12, f13, f14, f15, f16, f17, f18, f19, f20, f21, f22, f23, f24, f25, f26, f27, f28, f29, f30, f31, f32, f33, f34, f35, f36, f37, f38, f39, f40, f41, f42, f43, f44, f45, f46, f47, f48, f49, f50, f51, f52, f53, u54, u55, u56, u57, u58, u59, u60, u61, u62, u63, u64, u65, u66, u67, u68, u69, u70, u71, u72, u73, u74, u75, u76, u77, u78, u79, u80, u81, u82, u83, u84, u85, u86, u87, u88, u89, u90, u91, u92, u93, u94, u95, u96, u97, u98, u99, u100, u101, u102, u103, u104, .bool false, f106, f107, f108, f109, f110, f111, f112, f113, f114, f115, f116, f117, f118, f119, f120, f121, f122, f123, f124, f125, f126, f127, f128, f129, f130, f131, f132, f133, f134, f135, f136, f137, f138, f139, f140, f141, f142, f143, f144, f145, f146, f147, f148, f149, f150, f151, f152, f153, f154, f155, f156, f157, f158, f159, f160, f161, f162, f163, f164, f165, f166, f167, f168, f169, f170, f171, f172, f173, f174, f175, f176, f177, f178, f179, f180, f181, f182, f183, f184, f185, f186, f187, f188, f189, f190, f191, f192, f193, f194, f195, f196, f197, f198, f199, f200, f201, f202, f203, f204, f205, f206, f207, f208, f209, f210, f211, f212, f213, f214, f215, f216, f217, f218, f219, f220, f221, f222, f223, f224, f225, f226, f227, f228, f229, f230, f231, f232, f233, f234, f235, f236, f237, f238, f239, f240, f241, f242, f243, f244, f245, f246, f247, f248, f249, f250, f251, f252, f253, f254, f255, f256, f257, f258, f259, f260, f261, f262, f263, f264, f265, f266, f267, f268, f269, f270, f271, f272, f273, f274, f275, f276, f277, f278, f279, f280, f281], []⟩ w6) :
    Code.wp Try.prog (cntReg 8) (Exit.then K Q) ⟨#[f0, .slice (some ⟨b, o, none⟩) n c, f2, f3, f4, f5, f6, .int .i64 (i : Int), f8, f9, f10, f11, f12, f13, f14, f15, f16, f17, f18, f19, f20, f21, f22, f23, f24, f25, f26, f27, f28, f29, f30, f31, f32, f33, f34, f35, f36, f37, f38, f39, f40, f41, f42, f43, f44, f45, f46, f47, f48, f49, f50, f51, f52, f53, f54, f55, f56, f57, f58, f59, f60, f61, f62, f63, f64, f65, f66, f67, f68, f69, f70, f71, f72, f73, f74, f75, f76, f77, f78, f79, f80, f81, f82, f83, f84, f85, f86, f87, f88, f89, f90, f91, f92, f93, f94, f95, f96, f97, f98, f99, f100, f101, f102, f103, f104, f105, f106, f107, f108, f109, f110, f111, f112, f113, f114, f115, f116, f117, f118, f119, f120, f121, f122, f123, f124, f125, f126, f127, f128, f129, f130, f131, f132, f133, f134, f135, f136, f137, f138, f139, f140, f141, f142, f143, f144, f145, f146, f147, f148, f149, f150, f151, f152, f153, f154, f155, f156, f157, f158, f159, f160, f161, f162, f163, f164, f165, f166, f167, f168, f169, f170, f171, f172, f173, f174, f175, f176, f177, f178, f179, f180, f181, f182, f183, f184, f185, f186, f187, f188, f189, f190, f191, f192, f193, f194, f195, f196, f197, f198, f199, f200, f201, f202, f203, f204, f205, f206, f207, f208, f209, f210, f211, f212, f213, f214, f215, f216, f217, f218, f219, f220, f221, f222, f223, f224, f225, f226, f227, f228, f229, f230, f231, f232, f233, f234, f235, f236, f237, f238, f239, f240, f241, f242, f243, f244, f245, f246, f247, f248, f249, f250, f251, f252, f253, f254, f255, f256, f257, f258, f259, f260, f261, f262, f263, f264, f265, f266, f267, f268, f269, f270, f271, f272, f273, f274, f275, f276, f277, f278, f279, f280, f281], []⟩ W1 := by
  conv => arg 2; whnf
  have hS : (fun w' => Below W1.heap.size W1 w' ∧ b < w'.heap.size ∧ w'.cell? ⟨b, o + i * 14, none⟩ = some (.int .i64 a.kind) ∧ w'.cell? ⟨b, o + i * 14 + 1, none⟩ = some (.int .i64 a.side) ∧ w'.cell? ⟨b, o + i * 14 + 2, none⟩ = some (.int .i64 a.said) ∧ w'.cell? ⟨b, o + i * 14 + 3, none⟩ = some (.int .i64 a.v.size) ∧ w'.cell? ⟨b, o + i * 14 + 4, none⟩ = some (.slice a.A a.n a.c) ∧ w'.cell? ⟨b, o + i * 14 + 5, none⟩ = some (.int .i64 a.v.wrong) ∧ w'.cell? ⟨b, o + i * 14 + 6, none⟩ = some (.int .i64 a.v.hxl) ∧ w'.cell? ⟨b, o + i * 14 + 7, none⟩ = some (.int .i64 a.v.hxh) ∧ w'.cell? ⟨b, o + i * 14 + 8, none⟩ = some (.int .i64 a.v.hyl) ∧ w'.cell? ⟨b, o + i * 14 + 9, none⟩ = some (.int .i64 a.v.hyh) ∧ w'.cell? ⟨b, o + i * 14 + 10, none⟩ = some (.int .i64 a.b.l) ∧ w'.cell? ⟨b, o + i * 14 + 11, none⟩ = some (.int .i64 a.b.r) ∧ w'.cell? ⟨b, o + i * 14 + 12, none⟩ = some (.int .i64 a.b.b) ∧ w'.cell? ⟨b, o + i * 14 + 13, none⟩ = some (.int .i64 a.b.t)) W1 := ⟨Below.refl _ _, lbr, c0, c1, c2, c3, c4, c5, c6, c7, c8, c9, c10, c11, c12, c13⟩
  have hkeep : ∀ u u' : World, Below u.heap.size u u' → (Below W1.heap.size W1 u ∧ b < u.heap.size ∧ u.cell? ⟨b, o + i * 14, none⟩ = some (.int .i64 a.kind) ∧ u.cell? ⟨b, o + i * 14 + 1, none⟩ = some (.int .i64 a.side) ∧ u.cell? ⟨b, o + i * 14 + 2, none⟩ = some (.int .i64 a.said) ∧ u.cell? ⟨b, o + i * 14 + 3, none⟩ = some (.int .i64 a.v.size) ∧ u.cell? ⟨b, o + i * 14 + 4, none⟩ = some (.slice a.A a.n a.c) ∧ u.cell? ⟨b, o + i * 14 + 5, none⟩ = some (.int .i64 a.v.wrong) ∧ u.cell? ⟨b, o + i * 14 + 6, none⟩ = some (.int .i64 a.v.hxl) ∧ u.cell? ⟨b, o + i * 14 + 7, none⟩ = some (.int .i64 a.v.hxh) ∧ u.cell? ⟨b, o + i * 14 + 8, none⟩ = some (.int .i64 a.v.hyl) ∧ u.cell? ⟨b, o + i * 14 + 9, none⟩ = some (.int .i64 a.v.hyh) ∧ u.cell? ⟨b, o + i * 14 + 10, none⟩ = some (.int .i64 a.b.l) ∧ u.cell? ⟨b, o + i * 14 + 11, none⟩ = some (.int .i64 a.b.r) ∧ u.cell? ⟨b, o + i * 14 + 12, none⟩ = some (.int .i64 a.b.b) ∧ u.cell? ⟨b, o + i * 14 + 13, none⟩ = some (.int .i64 a.b.t)) → (Below W1.heap.size W1 u' ∧ b < u'.heap.size ∧ u'.cell? ⟨b, o + i * 14, none⟩ = some (.int .i64 a.kind) ∧ u'.cell? ⟨b, o + i * 14 + 1, none⟩ = some (.int .i64 a.side) ∧ u'.cell? ⟨b, o + i * 14 + 2, none⟩ = some (.int .i64 a.said) ∧ u'.cell? ⟨b, o + i * 14 + 3, none⟩ = some (.int .i64 a.v.size) ∧ u'.cell? ⟨b, o + i * 14 + 4, none⟩ = some (.slice a.A a.n a.c) ∧ u'.cell? ⟨b, o + i * 14 + 5, none⟩ = some (.int .i64 a.v.wrong) ∧ u'.cell? ⟨b, o + i * 14 + 6, none⟩ = some (.int .i64 a.v.hxl) ∧ u'.cell? ⟨b, o + i * 14 + 7, none⟩ = some (.int .i64 a.v.hxh) ∧ u'.cell? ⟨b, o + i * 14 + 8, none⟩ = some (.int .i64 a.v.hyl) ∧ u'.cell? ⟨b, o + i * 14 + 9, none⟩ = some (.int .i64 a.v.hyh) ∧ u'.cell? ⟨b, o + i * 14 + 10, none⟩ = some (.int .i64 a.b.l) ∧ u'.cell? ⟨b, o + i * 14 + 11, none⟩ = some (.int .i64 a.b.r) ∧ u'.cell? ⟨b, o + i * 14 + 12, none⟩ = some (.int .i64 a.b.b) ∧ u'.cell? ⟨b, o + i * 14 + 13, none⟩ = some (.int .i64 a.b.t)) := by
    rintro u u' hb ⟨hB, l_b, k0, k1, k2, k3, k4, k5, k6, k7, k8, k9, k10, k11, k12, k13⟩
    exact ⟨hB.trans (hb.mono hB.size), Nat.lt_of_lt_of_le l_b hb.size, (hb.cell (p := ⟨b, o + i * 14, none⟩) l_b).trans k0, (hb.cell (p := ⟨b, o + i * 14 + 1, none⟩) l_b).trans k1, (hb.cell (p := ⟨b, o + i * 14 + 2, none⟩) l_b).trans k2, (hb.cell (p := ⟨b, o + i * 14 + 3, none⟩) l_b).trans k3, (hb.cell (p := ⟨b, o + i * 14 + 4, none⟩) l_b).trans k4, (hb.cell (p := ⟨b, o + i * 14 + 5, none⟩) l_b).trans k5, (hb.cell (p := ⟨b, o + i * 14 + 6, none⟩) l_b).trans k6, (hb.cell (p := ⟨b, o + i * 14 + 7, none⟩) l_b).trans k7, (hb.cell (p := ⟨b, o + i * 14 + 8, none⟩) l_b).trans k8, (hb.cell (p := ⟨b, o + i * 14 + 9, none⟩) l_b).trans k9, (hb.cell (p := ⟨b, o + i * 14 + 10, none⟩) l_b).trans k10, (hb.cell (p := ⟨b, o + i * 14 + 11, none⟩) l_b).trans k11, (hb.cell (p := ⟨b, o + i * 14 + 12, none⟩) l_b).trans k12, (hb.cell (p := ⟨b, o + i * 14 + 13, none⟩) l_b).trans k13⟩
  (try dsimp only at hS)
  refine wp_region_held_drew (S := (fun w' => Below W1.heap.size W1 w' ∧ b < w'.heap.size ∧ w'.cell? ⟨b, o + i * 14, none⟩ = some (.int .i64 a.kind) ∧ w'.cell? ⟨b, o + i * 14 + 1, none⟩ = some (.int .i64 a.side) ∧ w'.cell? ⟨b, o + i * 14 + 2, none⟩ = some (.int .i64 a.said) ∧ w'.cell? ⟨b, o + i * 14 + 3, none⟩ = some (.int .i64 a.v.size) ∧ w'.cell? ⟨b, o + i * 14 + 4, none⟩ = some (.slice a.A a.n a.c) ∧ w'.cell? ⟨b, o + i * 14 + 5, none⟩ = some (.int .i64 a.v.wrong) ∧ w'.cell? ⟨b, o + i * 14 + 6, none⟩ = some (.int .i64 a.v.hxl) ∧ w'.cell? ⟨b, o + i * 14 + 7, none⟩ = some (.int .i64 a.v.hxh) ∧ w'.cell? ⟨b, o + i * 14 + 8, none⟩ = some (.int .i64 a.v.hyl) ∧ w'.cell? ⟨b, o + i * 14 + 9, none⟩ = some (.int .i64 a.v.hyh) ∧ w'.cell? ⟨b, o + i * 14 + 10, none⟩ = some (.int .i64 a.b.l) ∧ w'.cell? ⟨b, o + i * 14 + 11, none⟩ = some (.int .i64 a.b.r) ∧ w'.cell? ⟨b, o + i * 14 + 12, none⟩ = some (.int .i64 a.b.b) ∧ w'.cell? ⟨b, o + i * 14 + 13, none⟩ = some (.int .i64 a.b.t))) (by kernel_rfl) ?_ (fun hHeld0 => ?_)
  · (try dsimp only); (first | (go_keep; done) | (go_split_ands; (repeat' apply And.intro) <;> first | (go_keep; done) | (simp [*, zcA, zcP, zfA, zfP]; done) | (simp [zcA, zcP] <;> rfl) | (simp [*, zsS, zsO, zsA]; done) | ((first | refine (hc _ _ ?_).trans ?_ | refine (hf _ _ ?_).trans ?_) <;> first | assumption | (simp; done) | (simp; omega) | omega | (go_keep; done) | (simp [*, zcA, zcP, zfA, zfP]; done) | (simp [zcA, zcP]; rfl)) | (repeat' first | exact zbR _ _ | assumption | refine zbD ?_ | refine zbA ?_ ?_ _ | refine zbS ?_ ?_ _ | refine zbT ?_ (by assumption) ?_ | (simp; done) | (simp; omega) | omega)))
  refine tL (v := ?_) 0 rfl (by kernel_rfl) (fun _ _ _ h => hp _ _ _ _ _ h) (Or.inl ⟨by rfl, ?_⟩) (by assumption) ?_; rotate_left
  · (intro w hSw; (try dsimp only at hSw); go_simp; try with_reducible rfl)
  try simp only [Act.put, zl, z0, z1]
  refine tL (v := ?_) 1 rfl (by kernel_rfl) (fun _ _ _ h => hp _ _ _ _ _ h) (Or.inl ⟨by rfl, ?_⟩) (by assumption) ?_; rotate_left
  · (intro w hSw; (try dsimp only at hSw); go_simp; try with_reducible rfl)
  try simp only [Act.put, zl, z0, z1]
  refine tL (v := ?_) 2 rfl (by kernel_rfl) (fun _ _ _ h => hp _ _ _ _ _ h) (Or.inl ⟨by rfl, ?_⟩) (by assumption) ?_; rotate_left
  · (intro w hSw; (try dsimp only at hSw); go_simp; try with_reducible rfl)
  try simp only [Act.put, zl, z0, z1]
  refine tL (v := ?_) 3 rfl (by kernel_rfl) (fun _ _ _ h => hp _ _ _ _ _ h) (Or.inl ⟨by rfl, ?_⟩) (by assumption) ?_; rotate_left
  · (intro w hSw; (try dsimp only at hSw); go_simp; try with_reducible rfl)
  try simp only [Act.put, zl, z0, z1]
  refine tL (v := ?_) 4 rfl (by kernel_rfl) (fun _ _ _ h => hp _ _ _ _ _ h) (Or.inl ⟨by rfl, ?_⟩) (by assumption) ?_; rotate_left
  · (intro w hSw; (try dsimp only at hSw); go_simp; try with_reducible rfl)
  try simp only [Act.put, zl, z0, z1]
  refine tL (v := ?_) 5 rfl (by kernel_rfl) (fun _ _ _ h => hp _ _ _ _ _ h) (Or.inl ⟨by rfl, ?_⟩) (by assumption) ?_; rotate_left
  · (intro w hSw; (try dsimp only at hSw); go_simp; try with_reducible rfl)
  try simp only [Act.put, zl, z0, z1]
  refine tL (v := ?_) 6 rfl (by kernel_rfl) (fun _ _ _ h => hp _ _ _ _ _ h) (Or.inl ⟨by rfl, ?_⟩) (by assumption) ?_; rotate_left
  · (intro w hSw; (try dsimp only at hSw); go_simp; try with_reducible rfl)
  try simp only [Act.put, zl, z0, z1]
  refine tL (v := ?_) 7 rfl (by kernel_rfl) (fun _ _ _ h => hp _ _ _ _ _ h) (Or.inl ⟨by rfl, ?_⟩) (by assumption) ?_; rotate_left
  · (intro w hSw; (try dsimp only at hSw); go_simp; try with_reducible rfl)
  try simp only [Act.put, zl, z0, z1]
  refine tL (v := ?_) 8 rfl (by kernel_rfl) (fun _ _ _ h => hp _ _ _ _ _ h) (Or.inl ⟨by rfl, ?_⟩) (by assumption) ?_; rotate_left
  · (intro w hSw; (try dsimp only at hSw); go_simp; try with_reducible rfl)
  try simp only [Act.put, zl, z0, z1]
  refine tL (v := ?_) 9 rfl (by kernel_rfl) (fun _ _ _ h => hp _ _ _ _ _ h) (Or.inl ⟨by rfl, ?_⟩) (by assumption) ?_; rotate_left
  · (intro w hSw; (try dsimp only at hSw); go_simp; try with_reducible rfl)
  try simp only [Act.put, zl, z0, z1]
  refine tL (v := ?_) 10 rfl (by kernel_rfl) (fun _ _ _ h => hp _ _ _ _ _ h) (Or.inl ⟨by rfl, ?_⟩) (by assumption) ?_; rotate_left
  · (intro w hSw; (try dsimp only at hSw); go_simp; try with_reducible rfl)
  try simp only [Act.put, zl, z0, z1]
  refine tL (v := ?_) 11 rfl (by kernel_rfl) (fun _ _ _ h => hp _ _ _ _ _ h) (Or.inl ⟨by rfl, ?_⟩) (by assumption) ?_; rotate_left
  · (intro w hSw; (try dsimp only at hSw); go_simp; try with_reducible rfl)
  try simp only [Act.put, zl, z0, z1]
  refine tL (v := ?_) 12 rfl (by kernel_rfl) (fun _ _ _ h => hp _ _ _ _ _ h) (Or.inl ⟨by rfl, ?_⟩) (by assumption) ?_; rotate_left
  · (intro w hSw; (try dsimp only at hSw); go_simp; try with_reducible rfl)
  try simp only [Act.put, zl, z0, z1]
  refine tL (v := ?_) 13 rfl (by kernel_rfl) (fun _ _ _ h => hp _ _ _ _ _ h) (Or.inl ⟨by rfl, ?_⟩) (by assumption) ?_; rotate_left
  · (intro w hSw; (try dsimp only at hSw); go_simp; try with_reducible rfl)
  try simp only [Act.put, zl, z0, z1]
  refine tL (v := ?_) 14 rfl (by kernel_rfl) (fun _ _ _ h => hp _ _ _ _ _ h) (Or.inl ⟨by rfl, ?_⟩) (by assumption) ?_; rotate_left
  · (intro w hSw; (try dsimp only at hSw); go_simp; try with_reducible rfl)
  try simp only [Act.put, zl, z0, z1]
  refine tL (v := ?_) 15 rfl (by kernel_rfl) (fun _ _ _ h => hp _ _ _ _ _ h) (Or.inl ⟨by rfl, ?_⟩) (by assumption) ?_; rotate_left
  · (intro w hSw; (try dsimp only at hSw); go_simp; try with_reducible rfl)
  try simp only [Act.put, zl, z0, z1]
  refine tL (v := ?_) 16 rfl (by kernel_rfl) (fun _ _ _ h => hp _ _ _ _ _ h) (Or.inl ⟨by rfl, ?_⟩) (by assumption) ?_; rotate_left
  · (intro w hSw; (try dsimp only at hSw); go_simp; try with_reducible rfl)
  try simp only [Act.put, zl, z0, z1]
  refine tL (v := ?_) 17 rfl (by kernel_rfl) (fun _ _ _ h => hp _ _ _ _ _ h) (Or.inl ⟨by rfl, ?_⟩) (by assumption) ?_; rotate_left
  · (intro w hSw; (try dsimp only at hSw); go_simp; try with_reducible rfl)
  try simp only [Act.put, zl, z0, z1]
  refine tL (v := ?_) 18 rfl (by kernel_rfl) (fun _ _ _ h => hp _ _ _ _ _ h) (Or.inl ⟨by rfl, ?_⟩) (by assumption) ?_; rotate_left
  · (intro w hSw; (try dsimp only at hSw); go_simp; try with_reducible rfl)
  try simp only [Act.put, zl, z0, z1]
  refine tL (v := ?_) 19 rfl (by kernel_rfl) (fun _ _ _ h => hp _ _ _ _ _ h) (Or.inl ⟨by rfl, ?_⟩) (by assumption) ?_; rotate_left
  · (intro w hSw; (try dsimp only at hSw); go_simp; try with_reducible rfl)
  try simp only [Act.put, zl, z0, z1]
  refine tL (v := ?_) 20 rfl (by kernel_rfl) (fun _ _ _ h => hp _ _ _ _ _ h) (Or.inl ⟨by rfl, ?_⟩) (by assumption) ?_; rotate_left
  · (intro w hSw; (try dsimp only at hSw); go_simp; try with_reducible rfl)
  try simp only [Act.put, zl, z0, z1]
  refine tL (v := ?_) 21 rfl (by kernel_rfl) (fun _ _ _ h => hp _ _ _ _ _ h) (Or.inl ⟨by rfl, ?_⟩) (by assumption) ?_; rotate_left
  · (intro w hSw; (try dsimp only at hSw); go_simp; try with_reducible rfl)
  try simp only [Act.put, zl, z0, z1]
  refine tL (v := ?_) 22 rfl (by kernel_rfl) (fun _ _ _ h => hp _ _ _ _ _ h) (Or.inl ⟨by rfl, ?_⟩) (by assumption) ?_; rotate_left
  · (intro w hSw; (try dsimp only at hSw); go_simp; try with_reducible rfl)
  try simp only [Act.put, zl, z0, z1]
  refine tL (v := ?_) 23 rfl (by kernel_rfl) (fun _ _ _ h => hp _ _ _ _ _ h) (Or.inl ⟨by rfl, ?_⟩) (by assumption) ?_; rotate_left
  · (intro w hSw; (try dsimp only at hSw); go_simp; try with_reducible rfl)
  try simp only [Act.put, zl, z0, z1]
  refine tL (v := ?_) 24 rfl (by kernel_rfl) (fun _ _ _ h => hp _ _ _ _ _ h) (Or.inl ⟨by rfl, ?_⟩) (by assumption) ?_; rotate_left
  · (intro w hSw; (try dsimp only at hSw); go_simp; try with_reducible rfl)
  try simp only [Act.put, zl, z0, z1]
  refine tL (v := ?_) 25 rfl (by kernel_rfl) (fun _ _ _ h => hp _ _ _ _ _ h) (Or.inl ⟨by rfl, ?_⟩) (by assumption) ?_; rotate_left
  · (intro w hSw; (try dsimp only at hSw); go_simp; try with_reducible rfl)
  try simp only [Act.put, zl, z0, z1]
  refine tL (v := ?_) 26 rfl (by kernel_rfl) (fun _ _ _ h => hp _ _ _ _ _ h) (Or.inl ⟨by rfl, ?_⟩) (by assumption) ?_; rotate_left
  · (intro w hSw; (try dsimp only at hSw); go_simp; try with_reducible rfl)
  try simp only [Act.put, zl, z0, z1]
  refine tL (v := ?_) 27 rfl (by kernel_rfl) (fun _ _ _ h => hp _ _ _ _ _ h) (Or.inl ⟨by rfl, ?_⟩) (by assumption) ?_; rotate_left
  · (intro w hSw; (try dsimp only at hSw); go_simp; try with_reducible rfl)
  try simp only [Act.put, zl, z0, z1]
  refine tL (v := ?_) 28 rfl (by kernel_rfl) (fun _ _ _ h => hp _ _ _ _ _ h) (Or.inl ⟨by rfl, ?_⟩) (by assumption) ?_; rotate_left
  · (intro w hSw; (try dsimp only at hSw); go_simp; try with_reducible rfl)
  try simp only [Act.put, zl, z0, z1]
  refine tL (v := ?_) 29 rfl (by kernel_rfl) (fun _ _ _ h => hp _ _ _ _ _ h) (Or.inl ⟨by rfl, ?_⟩) (by assumption) ?_; rotate_left
  · (intro w hSw; (try dsimp only at hSw); go_simp; try with_reducible rfl)
  try simp only [Act.put, zl, z0, z1]
  refine tL (v := ?_) 30 rfl (by kernel_rfl) (fun _ _ _ h => hp _ _ _ _ _ h) (Or.inl ⟨by rfl, ?_⟩) (by assumption) ?_; rotate_left
  · (intro w hSw; (try dsimp only at hSw); go_simp; try with_reducible rfl)
  try simp only [Act.put, zl, z0, z1]
  refine tL (v := ?_) 31 rfl (by kernel_rfl) (fun _ _ _ h => hp _ _ _ _ _ h) (Or.inl ⟨by rfl, ?_⟩) (by assumption) ?_; rotate_left
  · (intro w hSw; (try dsimp only at hSw); go_simp; try with_reducible rfl)
  try simp only [Act.put, zl, z0, z1]
  refine tL (v := ?_) 32 rfl (by kernel_rfl) (fun _ _ _ h => hp _ _ _ _ _ h) (Or.inl ⟨by rfl, ?_⟩) (by assumption) ?_; rotate_left
  · (intro w hSw; (try dsimp only at hSw); go_simp; try with_reducible rfl)
  try simp only [Act.put, zl, z0, z1]
  refine wpAnyH_ready (rs := [33]) (by kernel_rfl) (by simp) ?_
  refine consL 33 rfl (fun K hK => ?_) AllReadyH.nil
  go_simp
  ((go_at_call 15; refine (valid_any a.v a.A a.n a.c a.b _ HLEN.out ((HRD.out.below (by first | exact hS.1 | exact zbD hS.1)).mono (by first | exact hS.1.size | exact (zbD hS.1).size))).mono ?_; rintro e w6 ⟨rfl, hb⟩; rw [HVD.out]; have hSn := hkeep _ _ hb (by assumption); (try clear hS); have hS := hSn; clear hSn))
  refine hK.out _ _ ?_ (fun hHeld1 => ?_)
  · (try dsimp only); exact hS
  clear hK K hHeld0
  try simp only [Act.put, zl, z0, z1]
  refine tL (v := ?_) 34 rfl (by kernel_rfl) (fun _ _ _ h => hp _ _ _ _ _ h) (Or.inl ⟨by rfl, ?_⟩) (by assumption) ?_; rotate_left
  · (intro w hSw; (try dsimp only at hSw); go_simp; try with_reducible rfl)
  try simp only [Act.put, zl, z0, z1]
  refine tL (v := ?_) 35 rfl (by kernel_rfl) (fun _ _ _ h => hp _ _ _ _ _ h) (Or.inl ⟨by rfl, ?_⟩) (by assumption) ?_; rotate_left
  · (intro w hSw; (try dsimp only at hSw); go_simp; try with_reducible rfl)
  try simp only [Act.put, zl, z0, z1]
  refine tL (v := ?_) 36 rfl (by kernel_rfl) (fun _ _ _ h => hp _ _ _ _ _ h) (Or.inl ⟨by rfl, ?_⟩) (by assumption) ?_; rotate_left
  · (intro w hSw; (try dsimp only at hSw); go_simp; try with_reducible rfl)
  try simp only [Act.put, zl, z0, z1]
  refine tL (v := ?_) 37 rfl (by kernel_rfl) (fun _ _ _ h => hp _ _ _ _ _ h) (Or.inl ⟨by rfl, ?_⟩) (by assumption) ?_; rotate_left
  · (intro w hSw; (try dsimp only at hSw); go_simp; try with_reducible rfl)
  try simp only [Act.put, zl, z0, z1]
  refine tL (v := ?_) 38 rfl (by kernel_rfl) (fun _ _ _ h => hp _ _ _ _ _ h) (Or.inl ⟨by rfl, ?_⟩) (by assumption) ?_; rotate_left
  · (intro w hSw; (try dsimp only at hSw); go_simp; try with_reducible rfl)
  try simp only [Act.put, zl, z0, z1]
  refine tL (v := ?_) 39 rfl (by kernel_rfl) (fun _ _ _ h => hp _ _ _ _ _ h) (Or.inl ⟨by rfl, ?_⟩) (by assumption) ?_; rotate_left
  · (intro w hSw; (try dsimp only at hSw); go_simp; try with_reducible rfl)
  try simp only [Act.put, zl, z0, z1]
  refine tL (v := ?_) 40 rfl (by kernel_rfl) (fun _ _ _ h => hp _ _ _ _ _ h) (Or.inl ⟨by rfl, ?_⟩) (by assumption) ?_; rotate_left
  · (intro w hSw; (try dsimp only at hSw); go_simp; try with_reducible rfl)
  try simp only [Act.put, zl, z0, z1]
  refine tL (v := ?_) 41 rfl (by kernel_rfl) (fun _ _ _ h => hp _ _ _ _ _ h) (Or.inl ⟨by rfl, ?_⟩) (by assumption) ?_; rotate_left
  · (intro w hSw; (try dsimp only at hSw); go_simp; try with_reducible rfl)
  try simp only [Act.put, zl, z0, z1]
  refine tL (v := ?_) 42 rfl (by kernel_rfl) (fun _ _ _ h => hp _ _ _ _ _ h) (Or.inl ⟨by rfl, ?_⟩) (by assumption) ?_; rotate_left
  · (intro w hSw; (try dsimp only at hSw); go_simp; try with_reducible rfl)
  try simp only [Act.put, zl, z0, z1]
  refine tL (v := ?_) 43 rfl (by kernel_rfl) (fun _ _ _ h => hp _ _ _ _ _ h) (Or.inl ⟨by rfl, ?_⟩) (by assumption) ?_; rotate_left
  · (intro w hSw; (try dsimp only at hSw); go_simp; try with_reducible rfl)
  try simp only [Act.put, zl, z0, z1]
  refine tL (v := ?_) 44 rfl (by kernel_rfl) (fun _ _ _ h => hp _ _ _ _ _ h) (Or.inl ⟨by rfl, ?_⟩) (by assumption) ?_; rotate_left
  · (intro w hSw; (try dsimp only at hSw); go_simp; try with_reducible rfl)
  try simp only [Act.put, zl, z0, z1]
  refine tL (v := ?_) 45 rfl (by kernel_rfl) (fun _ _ _ h => hp _ _ _ _ _ h) (Or.inl ⟨by rfl, ?_⟩) (by assumption) ?_; rotate_left
  · (intro w hSw; (try dsimp only at hSw); go_simp; try with_reducible rfl)
  try simp only [Act.put, zl, z0, z1]
  refine tL (v := ?_) 46 rfl (by kernel_rfl) (fun _ _ _ h => hp _ _ _ _ _ h) (Or.inl ⟨by rfl, ?_⟩) (by assumption) ?_; rotate_left
  · (intro w hSw; (try dsimp only at hSw); go_simp; try with_reducible rfl)
  try simp only [Act.put, zl, z0, z1]
  refine tL (v := ?_) 47 rfl (by kernel_rfl) (fun _ _ _ h => hp _ _ _ _ _ h) (Or.inl ⟨by rfl, ?_⟩) (by assumption) ?_; rotate_left
  · (intro w hSw; (try dsimp only at hSw); go_simp; try with_reducible rfl)
  try simp only [Act.put, zl, z0, z1]
  refine tL (v := ?_) 48 rfl (by kernel_rfl) (fun _ _ _ h => hp _ _ _ _ _ h) (Or.inl ⟨by rfl, ?_⟩) (by assumption) ?_; rotate_left
  · (intro w hSw; (try dsimp only at hSw); go_simp; try with_reducible rfl)
  try simp only [Act.put, zl, z0, z1]
  refine tL (v := ?_) 49 rfl (by kernel_rfl) (fun _ _ _ h => hp _ _ _ _ _ h) (Or.inl ⟨by rfl, ?_⟩) (by assumption) ?_; rotate_left
  · (intro w hSw; (try dsimp only at hSw); go_simp; try with_reducible rfl)
  try simp only [Act.put, zl, z0, z1]
  refine tL (v := ?_) 50 rfl (by kernel_rfl) (fun _ _ _ h => hp _ _ _ _ _ h) (Or.inl ⟨by rfl, ?_⟩) (by assumption) ?_; rotate_left
  · (intro w hSw; (try dsimp only at hSw); go_simp; try with_reducible rfl)
  try simp only [Act.put, zl, z0, z1]
  refine tL (v := ?_) 51 rfl (by kernel_rfl) (fun _ _ _ h => hp _ _ _ _ _ h) (Or.inl ⟨by rfl, ?_⟩) (by assumption) ?_; rotate_left
  · (intro w hSw; (try dsimp only at hSw); go_simp; try with_reducible rfl)
  try simp only [Act.put, zl, z0, z1]
  refine wpAnyH_done (by kernel_rfl) ?_ _
  refine hK _ _ _ _ _ _ _ _ _ _ _ _ _ _ _ _ _ _ _ _ _ _ _ _ _ _ _ _ _ _ _ _ _ _ _ _ _ _ _ _ _ _ _ _ _ _ _ _ _ _ _ _ (hide hS.1)

set_option maxRecDepth 100000 in
set_option maxHeartbeats 64000000 in
theorem cnt8_bad {K : Act → World → Prop} {Q : Exit → Act → World → Prop} (hp : ∀ c a d v w, Q (.panic c) (Act.put a d v) w → Q (.panic c) a w) (a : L.Ap) (b o i n c : Nat) (W1 : World) (hi0 : (0 : Int) ≤ (i : Int)) (hlt' : (i : Int) < (n : Int)) (hn8 : (n : Int) ≤ 8) (lbr : b < W1.heap.size) (HLEN : Hid (a.v.ss.length = a.n)) (HRD : Hid (RdS W1 W1.heap.size a.A a.v.ss)) (c0 : W1.cell? ⟨b, o + i * 14, none⟩ = some (.int .i64 a.kind)) (c1 : W1.cell? ⟨b, o + i * 14 + 1, none⟩ = some (.int .i64 a.side)) (c2 : W1.cell? ⟨b, o + i * 14 + 2, none⟩ = some (.int .i64 a.said)) (c3 : W1.cell? ⟨b, o + i * 14 + 3, none⟩ = some (.int .i64 a.v.size)) (c4 : W1.cell? ⟨b, o + i * 14 + 4, none⟩ = some (.slice a.A a.n a.c)) (c5 : W1.cell? ⟨b, o + i * 14 + 5, none⟩ = some (.int .i64 a.v.wrong)) (c6 : W1.cell? ⟨b, o + i * 14 + 6, none⟩ = some (.int .i64 a.v.hxl)) (c7 : W1.cell? ⟨b, o + i * 14 + 7, none⟩ = some (.int .i64 a.v.hxh)) (c8 : W1.cell? ⟨b, o + i * 14 + 8, none⟩ = some (.int .i64 a.v.hyl)) (c9 : W1.cell? ⟨b, o + i * 14 + 9, none⟩ = some (.int .i64 a.v.hyh)) (c10 : W1.cell? ⟨b, o + i * 14 + 10, none⟩ = some (.int .i64 a.b.l)) (c11 : W1.cell? ⟨b, o + i * 14 + 11, none⟩ = some (.int .i64 a.b.r)) (c12 : W1.cell? ⟨b, o + i * 14 + 12, none⟩ = some (.int .i64 a.b.b)) (c13 : W1.cell? ⟨b, o + i * 14 + 13, none⟩ = some (.int .i64 a.b.t)) (hbad : (a.kind != 3) = true ∨ ((a.kind != 3) = false ∧ (decide (a.side < 0) = true ∨ (decide (a.side < 0) = false ∧ (decide (1 < a.side) = true ∨ (decide (1 < a.side) = false ∧ (Hid (L.validB a.v a.b = false) ∨ (Hid (L.validB a.v a.b = true) ∧ (a.said != 1) = true ∧ (a.said != 2) = true)))))))) (f0 f2 f3 f4 f5 f6 f8 f9 f10 f11 f12 f13 f14 f15 f16 f17 f18 f19 f20 f21 f22 f23 f24 f25 f26 f27 f28 f29 f30 f31 f32 f33 f34 f35 f36 f37 f38 f39 f40 f41 f42 f43 f44 f45 f46 f47 f48 f49 f50 f51 f52 f53 f54 f55 f56 f57 f58 f59 f60 f61 f62 f63 f64 f65 f66 f67 f68 f69 f70 f71 f72 f73 f74 f75 f76 f77 f78 f79 f80 f81 f82 f83 f84 f85 f86 f87 f88 f89 f90 f91 f92 f93 f94 f95 f96 f97 f98 f99 f100 f101 f102 f103 f104 f105 f106 f107 f108 f109 f110 f111 f112 f113 f114 f115 f116 f117 f118 f119 f120 f121 f122 f123 f124 f125 f126 f127 f128 f129 f130 f131 f132 f133 f134 f135 f136 f137 f138 f139 f140 f141 f142 f143 f144 f145 f146 f147 f148 f149 f150 f151 f152 f153 f154 f155 f156 f157 f158 f159 f160 f161 f162 f163 f164 f165 f166 f167 f168 f169 f170 f171 f172 f173 f174 f175 f176 f177 f178 f179 f180 f181 f182 f183 f184 f185 f186 f187 f188 f189 f190 f191 f192 f193 f194 f195 f196 f197 f198 f199 f200 f201 f202 f203 f204 f205 f206 f207 f208 f209 f210 f211 f212 f213 f214 f215 f216 f217 f218 f219 f220 f221 f222 f223 f224 f225 f226 f227 f228 f229 f230 f231 f232 f233 f234 f235 f236 f237 f238 f239 f240 f241 f242 f243 f244 f245 f246 f247 f248 f249 f250 f251 f252 f253 f254 f255 f256 f257 f258 f259 f260 f261 f262 f263 f264 f265 f266 f267 f268 f269 f270 f271 f272 f273 f274 f275 f276 f277 f278 f279 f280 f281 : Value)
    (hK : ∀ (u54 u55 u56 u57 u58 u59 u60 u61 u62 u63 u64 u65 u66 u67 u68 u69 u70 u71 u72 u73 u74 u75 u76 u77 u78 u79 u80 u81 u82 u83 u84 u85 u86 u87 u88 u89 u90 u91 u92 u93 u94 u95 u96 u97 u98 u99 u100 u101 u102 u103 u104 : Value) (w6 : World), Hid (Below W1.heap.size W1 w6) → K ⟨#[f0, .slice (some ⟨b, o, none⟩) n c, f2, f3, f4, f5, f6, .int .i64 (i : Int), f8, f9, f10, f11, f12, f13, f14, f15, f16, f17, f18, f19, f20, f21, f22, f23, f24, f25, f26, f27, f28, f29, f30, f31, f32, f33, f34, f35, f36, f37, f38, f39, f40, f41, f42, f43, f44, f45, f46, f47, f48, f49, f50, f51, f52, f53, u54, u55, u56, u57, u58, u59, u60, u61, u62, u63, u64, u65, u66, u67, u68, u69, u70, u71, u72, u73, u74, u75, u76, u77, u78, u79, u80, u81, u82, u83, u84, u85, u86, u87, u88, u89, u90, u91, u92, u93, u94, u95, u96, u97, u98, u99, u100, u101, u102, u103, u104, .bool true, f106, f107, f108, f109, f110, f111, f112, f113, f114, f115, f116, f117, f118, f119, f120, f121, f122, f123, f124, f125, f126, f127, f128, f129, f130, f131, f132, f133, f134, f135, f136, f137, f138, f139, f140, f141, f142, f143, f144, f145, f146, f147, f148, f149, f150, f151, f152, f153, f154, f155, f156, f157, f158, f159, f160, f161, f162, f163, f164, f165, f166, f167, f168, f169, f170, f171, f172, f173, f174, f175, f176, f177, f178, f179, f180, f181, f182, f183, f184, f185, f186, f187, f188, f189, f190, f191, f192, f193, f194, f195, f196, f197, f198, f199, f200, f201, f202, f203, f204, f205, f206, f207, f208, f209, f210, f211, f212, f213, f214, f215, f216, f217, f218, f219, f220, f221, f222, f223, f224, f225, f226, f227, f228, f229, f230, f231, f232, f233, f234, f235, f236, f237, f238, f239, f240, f241, f242, f243, f244, f245, f246, f247, f248, f249, f250, f251, f252, f253, f254, f255, f256, f257, f258, f259, f260, f261, f262, f263, f264, f265, f266, f267, f268, f269, f270, f271, f272, f273, f274, f275, f276, f277, f278, f279, f280, f281], []⟩ w6) :
    Code.wp Try.prog (cntReg 8) (Exit.then K Q) ⟨#[f0, .slice (some ⟨b, o, none⟩) n c, f2, f3, f4, f5, f6, .int .i64 (i : Int), f8, f9, f10, f11, f12, f13, f14, f15, f16, f17, f18, f19, f20, f21, f22, f23, f24, f25, f26, f27, f28, f29, f30, f31, f32, f33, f34, f35, f36, f37, f38, f39, f40, f41, f42, f43, f44, f45, f46, f47, f48, f49, f50, f51, f52, f53, f54, f55, f56, f57, f58, f59, f60, f61, f62, f63, f64, f65, f66, f67, f68, f69, f70, f71, f72, f73, f74, f75, f76, f77, f78, f79, f80, f81, f82, f83, f84, f85, f86, f87, f88, f89, f90, f91, f92, f93, f94, f95, f96, f97, f98, f99, f100, f101, f102, f103, f104, f105, f106, f107, f108, f109, f110, f111, f112, f113, f114, f115, f116, f117, f118, f119, f120, f121, f122, f123, f124, f125, f126, f127, f128, f129, f130, f131, f132, f133, f134, f135, f136, f137, f138, f139, f140, f141, f142, f143, f144, f145, f146, f147, f148, f149, f150, f151, f152, f153, f154, f155, f156, f157, f158, f159, f160, f161, f162, f163, f164, f165, f166, f167, f168, f169, f170, f171, f172, f173, f174, f175, f176, f177, f178, f179, f180, f181, f182, f183, f184, f185, f186, f187, f188, f189, f190, f191, f192, f193, f194, f195, f196, f197, f198, f199, f200, f201, f202, f203, f204, f205, f206, f207, f208, f209, f210, f211, f212, f213, f214, f215, f216, f217, f218, f219, f220, f221, f222, f223, f224, f225, f226, f227, f228, f229, f230, f231, f232, f233, f234, f235, f236, f237, f238, f239, f240, f241, f242, f243, f244, f245, f246, f247, f248, f249, f250, f251, f252, f253, f254, f255, f256, f257, f258, f259, f260, f261, f262, f263, f264, f265, f266, f267, f268, f269, f270, f271, f272, f273, f274, f275, f276, f277, f278, f279, f280, f281], []⟩ W1 := by
  rcases hbad with h | ⟨h, h2 | ⟨h2, h3 | ⟨h3, h4 | ⟨h4, h5, h6⟩⟩⟩⟩
  · exact cnt8_kind hp a b o i n c W1 hi0 hlt' hn8 lbr HLEN HRD c0 c1 c2 c3 c4 c5 c6 c7 c8 c9 c10 c11 c12 c13 h f0 f2 f3 f4 f5 f6 f8 f9 f10 f11 f12 f13 f14 f15 f16 f17 f18 f19 f20 f21 f22 f23 f24 f25 f26 f27 f28 f29 f30 f31 f32 f33 f34 f35 f36 f37 f38 f39 f40 f41 f42 f43 f44 f45 f46 f47 f48 f49 f50 f51 f52 f53 f54 f55 f56 f57 f58 f59 f60 f61 f62 f63 f64 f65 f66 f67 f68 f69 f70 f71 f72 f73 f74 f75 f76 f77 f78 f79 f80 f81 f82 f83 f84 f85 f86 f87 f88 f89 f90 f91 f92 f93 f94 f95 f96 f97 f98 f99 f100 f101 f102 f103 f104 f105 f106 f107 f108 f109 f110 f111 f112 f113 f114 f115 f116 f117 f118 f119 f120 f121 f122 f123 f124 f125 f126 f127 f128 f129 f130 f131 f132 f133 f134 f135 f136 f137 f138 f139 f140 f141 f142 f143 f144 f145 f146 f147 f148 f149 f150 f151 f152 f153 f154 f155 f156 f157 f158 f159 f160 f161 f162 f163 f164 f165 f166 f167 f168 f169 f170 f171 f172 f173 f174 f175 f176 f177 f178 f179 f180 f181 f182 f183 f184 f185 f186 f187 f188 f189 f190 f191 f192 f193 f194 f195 f196 f197 f198 f199 f200 f201 f202 f203 f204 f205 f206 f207 f208 f209 f210 f211 f212 f213 f214 f215 f216 f217 f218 f219 f220 f221 f222 f223 f224 f225 f226 f227 f228 f229 f230 f231 f232 f233 f234 f235 f236 f237 f238 f239 f240 f241 f242 f243 f244 f245 f246 f247 f248 f249 f250 f251 f252 f253 f254 f255 f256 f257 f258 f259 f260 f261 f262 f263 f264 f265 f266 f267 f268 f269 f270 f271 f272 f273 f274 f275 f276 f277 f278 f279 f280 f281 hK
  · exact cnt8_low hp a b o i n c W1 hi0 hlt' hn8 lbr HLEN HRD c0 c1 c2 c3 c4 c5 c6 c7 c8 c9 c10 c11 c12 c13 h h2 f0 f2 f3 f4 f5 f6 f8 f9 f10 f11 f12 f13 f14 f15 f16 f17 f18 f19 f20 f21 f22 f23 f24 f25 f26 f27 f28 f29 f30 f31 f32 f33 f34 f35 f36 f37 f38 f39 f40 f41 f42 f43 f44 f45 f46 f47 f48 f49 f50 f51 f52 f53 f54 f55 f56 f57 f58 f59 f60 f61 f62 f63 f64 f65 f66 f67 f68 f69 f70 f71 f72 f73 f74 f75 f76 f77 f78 f79 f80 f81 f82 f83 f84 f85 f86 f87 f88 f89 f90 f91 f92 f93 f94 f95 f96 f97 f98 f99 f100 f101 f102 f103 f104 f105 f106 f107 f108 f109 f110 f111 f112 f113 f114 f115 f116 f117 f118 f119 f120 f121 f122 f123 f124 f125 f126 f127 f128 f129 f130 f131 f132 f133 f134 f135 f136 f137 f138 f139 f140 f141 f142 f143 f144 f145 f146 f147 f148 f149 f150 f151 f152 f153 f154 f155 f156 f157 f158 f159 f160 f161 f162 f163 f164 f165 f166 f167 f168 f169 f170 f171 f172 f173 f174 f175 f176 f177 f178 f179 f180 f181 f182 f183 f184 f185 f186 f187 f188 f189 f190 f191 f192 f193 f194 f195 f196 f197 f198 f199 f200 f201 f202 f203 f204 f205 f206 f207 f208 f209 f210 f211 f212 f213 f214 f215 f216 f217 f218 f219 f220 f221 f222 f223 f224 f225 f226 f227 f228 f229 f230 f231 f232 f233 f234 f235 f236 f237 f238 f239 f240 f241 f242 f243 f244 f245 f246 f247 f248 f249 f250 f251 f252 f253 f254 f255 f256 f257 f258 f259 f260 f261 f262 f263 f264 f265 f266 f267 f268 f269 f270 f271 f272 f273 f274 f275 f276 f277 f278 f279 f280 f281 hK
  · exact cnt8_high hp a b o i n c W1 hi0 hlt' hn8 lbr HLEN HRD c0 c1 c2 c3 c4 c5 c6 c7 c8 c9 c10 c11 c12 c13 h h2 h3 f0 f2 f3 f4 f5 f6 f8 f9 f10 f11 f12 f13 f14 f15 f16 f17 f18 f19 f20 f21 f22 f23 f24 f25 f26 f27 f28 f29 f30 f31 f32 f33 f34 f35 f36 f37 f38 f39 f40 f41 f42 f43 f44 f45 f46 f47 f48 f49 f50 f51 f52 f53 f54 f55 f56 f57 f58 f59 f60 f61 f62 f63 f64 f65 f66 f67 f68 f69 f70 f71 f72 f73 f74 f75 f76 f77 f78 f79 f80 f81 f82 f83 f84 f85 f86 f87 f88 f89 f90 f91 f92 f93 f94 f95 f96 f97 f98 f99 f100 f101 f102 f103 f104 f105 f106 f107 f108 f109 f110 f111 f112 f113 f114 f115 f116 f117 f118 f119 f120 f121 f122 f123 f124 f125 f126 f127 f128 f129 f130 f131 f132 f133 f134 f135 f136 f137 f138 f139 f140 f141 f142 f143 f144 f145 f146 f147 f148 f149 f150 f151 f152 f153 f154 f155 f156 f157 f158 f159 f160 f161 f162 f163 f164 f165 f166 f167 f168 f169 f170 f171 f172 f173 f174 f175 f176 f177 f178 f179 f180 f181 f182 f183 f184 f185 f186 f187 f188 f189 f190 f191 f192 f193 f194 f195 f196 f197 f198 f199 f200 f201 f202 f203 f204 f205 f206 f207 f208 f209 f210 f211 f212 f213 f214 f215 f216 f217 f218 f219 f220 f221 f222 f223 f224 f225 f226 f227 f228 f229 f230 f231 f232 f233 f234 f235 f236 f237 f238 f239 f240 f241 f242 f243 f244 f245 f246 f247 f248 f249 f250 f251 f252 f253 f254 f255 f256 f257 f258 f259 f260 f261 f262 f263 f264 f265 f266 f267 f268 f269 f270 f271 f272 f273 f274 f275 f276 f277 f278 f279 f280 f281 hK
  · exact cnt8_view hp a b o i n c W1 hi0 hlt' hn8 lbr HLEN HRD c0 c1 c2 c3 c4 c5 c6 c7 c8 c9 c10 c11 c12 c13 h h2 h3 h4 f0 f2 f3 f4 f5 f6 f8 f9 f10 f11 f12 f13 f14 f15 f16 f17 f18 f19 f20 f21 f22 f23 f24 f25 f26 f27 f28 f29 f30 f31 f32 f33 f34 f35 f36 f37 f38 f39 f40 f41 f42 f43 f44 f45 f46 f47 f48 f49 f50 f51 f52 f53 f54 f55 f56 f57 f58 f59 f60 f61 f62 f63 f64 f65 f66 f67 f68 f69 f70 f71 f72 f73 f74 f75 f76 f77 f78 f79 f80 f81 f82 f83 f84 f85 f86 f87 f88 f89 f90 f91 f92 f93 f94 f95 f96 f97 f98 f99 f100 f101 f102 f103 f104 f105 f106 f107 f108 f109 f110 f111 f112 f113 f114 f115 f116 f117 f118 f119 f120 f121 f122 f123 f124 f125 f126 f127 f128 f129 f130 f131 f132 f133 f134 f135 f136 f137 f138 f139 f140 f141 f142 f143 f144 f145 f146 f147 f148 f149 f150 f151 f152 f153 f154 f155 f156 f157 f158 f159 f160 f161 f162 f163 f164 f165 f166 f167 f168 f169 f170 f171 f172 f173 f174 f175 f176 f177 f178 f179 f180 f181 f182 f183 f184 f185 f186 f187 f188 f189 f190 f191 f192 f193 f194 f195 f196 f197 f198 f199 f200 f201 f202 f203 f204 f205 f206 f207 f208 f209 f210 f211 f212 f213 f214 f215 f216 f217 f218 f219 f220 f221 f222 f223 f224 f225 f226 f227 f228 f229 f230 f231 f232 f233 f234 f235 f236 f237 f238 f239 f240 f241 f242 f243 f244 f245 f246 f247 f248 f249 f250 f251 f252 f253 f254 f255 f256 f257 f258 f259 f260 f261 f262 f263 f264 f265 f266 f267 f268 f269 f270 f271 f272 f273 f274 f275 f276 f277 f278 f279 f280 f281 hK
  · exact cnt8_unsure hp a b o i n c W1 hi0 hlt' hn8 lbr HLEN HRD c0 c1 c2 c3 c4 c5 c6 c7 c8 c9 c10 c11 c12 c13 h h2 h3 h4 h5 h6 f0 f2 f3 f4 f5 f6 f8 f9 f10 f11 f12 f13 f14 f15 f16 f17 f18 f19 f20 f21 f22 f23 f24 f25 f26 f27 f28 f29 f30 f31 f32 f33 f34 f35 f36 f37 f38 f39 f40 f41 f42 f43 f44 f45 f46 f47 f48 f49 f50 f51 f52 f53 f54 f55 f56 f57 f58 f59 f60 f61 f62 f63 f64 f65 f66 f67 f68 f69 f70 f71 f72 f73 f74 f75 f76 f77 f78 f79 f80 f81 f82 f83 f84 f85 f86 f87 f88 f89 f90 f91 f92 f93 f94 f95 f96 f97 f98 f99 f100 f101 f102 f103 f104 f105 f106 f107 f108 f109 f110 f111 f112 f113 f114 f115 f116 f117 f118 f119 f120 f121 f122 f123 f124 f125 f126 f127 f128 f129 f130 f131 f132 f133 f134 f135 f136 f137 f138 f139 f140 f141 f142 f143 f144 f145 f146 f147 f148 f149 f150 f151 f152 f153 f154 f155 f156 f157 f158 f159 f160 f161 f162 f163 f164 f165 f166 f167 f168 f169 f170 f171 f172 f173 f174 f175 f176 f177 f178 f179 f180 f181 f182 f183 f184 f185 f186 f187 f188 f189 f190 f191 f192 f193 f194 f195 f196 f197 f198 f199 f200 f201 f202 f203 f204 f205 f206 f207 f208 f209 f210 f211 f212 f213 f214 f215 f216 f217 f218 f219 f220 f221 f222 f223 f224 f225 f226 f227 f228 f229 f230 f231 f232 f233 f234 f235 f236 f237 f238 f239 f240 f241 f242 f243 f244 f245 f246 f247 f248 f249 f250 f251 f252 f253 f254 f255 f256 f257 f258 f259 f260 f261 f262 f263 f264 f265 f266 f267 f268 f269 f270 f271 f272 f273 f274 f275 f276 f277 f278 f279 f280 f281 hK

set_option maxRecDepth 100000 in
set_option maxHeartbeats 64000000 in
theorem cnt8_good {K : Act → World → Prop} {Q : Exit → Act → World → Prop} (hp : ∀ c a d v w, Q (.panic c) (Act.put a d v) w → Q (.panic c) a w) (a : L.Ap) (b o i n c : Nat) (W1 : World) (hi0 : (0 : Int) ≤ (i : Int)) (hlt' : (i : Int) < (n : Int)) (hn8 : (n : Int) ≤ 8) (lbr : b < W1.heap.size) (HLEN : Hid (a.v.ss.length = a.n)) (HRD : Hid (RdS W1 W1.heap.size a.A a.v.ss)) (c0 : W1.cell? ⟨b, o + i * 14, none⟩ = some (.int .i64 a.kind)) (c1 : W1.cell? ⟨b, o + i * 14 + 1, none⟩ = some (.int .i64 a.side)) (c2 : W1.cell? ⟨b, o + i * 14 + 2, none⟩ = some (.int .i64 a.said)) (c3 : W1.cell? ⟨b, o + i * 14 + 3, none⟩ = some (.int .i64 a.v.size)) (c4 : W1.cell? ⟨b, o + i * 14 + 4, none⟩ = some (.slice a.A a.n a.c)) (c5 : W1.cell? ⟨b, o + i * 14 + 5, none⟩ = some (.int .i64 a.v.wrong)) (c6 : W1.cell? ⟨b, o + i * 14 + 6, none⟩ = some (.int .i64 a.v.hxl)) (c7 : W1.cell? ⟨b, o + i * 14 + 7, none⟩ = some (.int .i64 a.v.hxh)) (c8 : W1.cell? ⟨b, o + i * 14 + 8, none⟩ = some (.int .i64 a.v.hyl)) (c9 : W1.cell? ⟨b, o + i * 14 + 9, none⟩ = some (.int .i64 a.v.hyh)) (c10 : W1.cell? ⟨b, o + i * 14 + 10, none⟩ = some (.int .i64 a.b.l)) (c11 : W1.cell? ⟨b, o + i * 14 + 11, none⟩ = some (.int .i64 a.b.r)) (c12 : W1.cell? ⟨b, o + i * 14 + 12, none⟩ = some (.int .i64 a.b.b)) (c13 : W1.cell? ⟨b, o + i * 14 + 13, none⟩ = some (.int .i64 a.b.t)) (d1 : (a.kind != 3) = false) (v0 : decide (a.side < 0) = false) (v1 : decide (1 < a.side) = false) (HVD : Hid (L.validB a.v a.b = true)) (hu : a.said = 1 ∨ a.said = 2) (f0 f2 f3 f4 f5 f6 f8 f9 f10 f11 f12 f13 f14 f15 f16 f17 f18 f19 f20 f21 f22 f23 f24 f25 f26 f27 f28 f29 f30 f31 f32 f33 f34 f35 f36 f37 f38 f39 f40 f41 f42 f43 f44 f45 f46 f47 f48 f49 f50 f51 f52 f53 f54 f55 f56 f57 f58 f59 f60 f61 f62 f63 f64 f65 f66 f67 f68 f69 f70 f71 f72 f73 f74 f75 f76 f77 f78 f79 f80 f81 f82 f83 f84 f85 f86 f87 f88 f89 f90 f91 f92 f93 f94 f95 f96 f97 f98 f99 f100 f101 f102 f103 f104 f105 f106 f107 f108 f109 f110 f111 f112 f113 f114 f115 f116 f117 f118 f119 f120 f121 f122 f123 f124 f125 f126 f127 f128 f129 f130 f131 f132 f133 f134 f135 f136 f137 f138 f139 f140 f141 f142 f143 f144 f145 f146 f147 f148 f149 f150 f151 f152 f153 f154 f155 f156 f157 f158 f159 f160 f161 f162 f163 f164 f165 f166 f167 f168 f169 f170 f171 f172 f173 f174 f175 f176 f177 f178 f179 f180 f181 f182 f183 f184 f185 f186 f187 f188 f189 f190 f191 f192 f193 f194 f195 f196 f197 f198 f199 f200 f201 f202 f203 f204 f205 f206 f207 f208 f209 f210 f211 f212 f213 f214 f215 f216 f217 f218 f219 f220 f221 f222 f223 f224 f225 f226 f227 f228 f229 f230 f231 f232 f233 f234 f235 f236 f237 f238 f239 f240 f241 f242 f243 f244 f245 f246 f247 f248 f249 f250 f251 f252 f253 f254 f255 f256 f257 f258 f259 f260 f261 f262 f263 f264 f265 f266 f267 f268 f269 f270 f271 f272 f273 f274 f275 f276 f277 f278 f279 f280 f281 : Value)
    (hK : ∀ (u54 u55 u56 u57 u58 u59 u60 u61 u62 u63 u64 u65 u66 u67 u68 u69 u70 u71 u72 u73 u74 u75 u76 u77 u78 u79 u80 u81 u82 u83 u84 u85 u86 u87 u88 u89 u90 u91 u92 u93 u94 u95 u96 u97 u98 u99 u100 u101 u102 u103 u104 : Value) (w6 : World), Hid (Below W1.heap.size W1 w6) → K ⟨#[f0, .slice (some ⟨b, o, none⟩) n c, f2, f3, f4, f5, f6, .int .i64 (i : Int), f8, f9, f10, f11, f12, f13, f14, f15, f16, f17, f18, f19, f20, f21, f22, f23, f24, f25, f26, f27, f28, f29, f30, f31, f32, f33, f34, f35, f36, f37, f38, f39, f40, f41, f42, f43, f44, f45, f46, f47, f48, f49, f50, f51, f52, f53, u54, u55, u56, u57, u58, u59, u60, u61, u62, u63, u64, u65, u66, u67, u68, u69, u70, u71, u72, u73, u74, u75, u76, u77, u78, u79, u80, u81, u82, u83, u84, u85, u86, u87, u88, u89, u90, u91, u92, u93, u94, u95, u96, u97, u98, u99, u100, u101, u102, u103, u104, .bool false, f106, f107, f108, f109, f110, f111, f112, f113, f114, f115, f116, f117, f118, f119, f120, f121, f122, f123, f124, f125, f126, f127, f128, f129, f130, f131, f132, f133, f134, f135, f136, f137, f138, f139, f140, f141, f142, f143, f144, f145, f146, f147, f148, f149, f150, f151, f152, f153, f154, f155, f156, f157, f158, f159, f160, f161, f162, f163, f164, f165, f166, f167, f168, f169, f170, f171, f172, f173, f174, f175, f176, f177, f178, f179, f180, f181, f182, f183, f184, f185, f186, f187, f188, f189, f190, f191, f192, f193, f194, f195, f196, f197, f198, f199, f200, f201, f202, f203, f204, f205, f206, f207, f208, f209, f210, f211, f212, f213, f214, f215, f216, f217, f218, f219, f220, f221, f222, f223, f224, f225, f226, f227, f228, f229, f230, f231, f232, f233, f234, f235, f236, f237, f238, f239, f240, f241, f242, f243, f244, f245, f246, f247, f248, f249, f250, f251, f252, f253, f254, f255, f256, f257, f258, f259, f260, f261, f262, f263, f264, f265, f266, f267, f268, f269, f270, f271, f272, f273, f274, f275, f276, f277, f278, f279, f280, f281], []⟩ w6) :
    Code.wp Try.prog (cntReg 8) (Exit.then K Q) ⟨#[f0, .slice (some ⟨b, o, none⟩) n c, f2, f3, f4, f5, f6, .int .i64 (i : Int), f8, f9, f10, f11, f12, f13, f14, f15, f16, f17, f18, f19, f20, f21, f22, f23, f24, f25, f26, f27, f28, f29, f30, f31, f32, f33, f34, f35, f36, f37, f38, f39, f40, f41, f42, f43, f44, f45, f46, f47, f48, f49, f50, f51, f52, f53, f54, f55, f56, f57, f58, f59, f60, f61, f62, f63, f64, f65, f66, f67, f68, f69, f70, f71, f72, f73, f74, f75, f76, f77, f78, f79, f80, f81, f82, f83, f84, f85, f86, f87, f88, f89, f90, f91, f92, f93, f94, f95, f96, f97, f98, f99, f100, f101, f102, f103, f104, f105, f106, f107, f108, f109, f110, f111, f112, f113, f114, f115, f116, f117, f118, f119, f120, f121, f122, f123, f124, f125, f126, f127, f128, f129, f130, f131, f132, f133, f134, f135, f136, f137, f138, f139, f140, f141, f142, f143, f144, f145, f146, f147, f148, f149, f150, f151, f152, f153, f154, f155, f156, f157, f158, f159, f160, f161, f162, f163, f164, f165, f166, f167, f168, f169, f170, f171, f172, f173, f174, f175, f176, f177, f178, f179, f180, f181, f182, f183, f184, f185, f186, f187, f188, f189, f190, f191, f192, f193, f194, f195, f196, f197, f198, f199, f200, f201, f202, f203, f204, f205, f206, f207, f208, f209, f210, f211, f212, f213, f214, f215, f216, f217, f218, f219, f220, f221, f222, f223, f224, f225, f226, f227, f228, f229, f230, f231, f232, f233, f234, f235, f236, f237, f238, f239, f240, f241, f242, f243, f244, f245, f246, f247, f248, f249, f250, f251, f252, f253, f254, f255, f256, f257, f258, f259, f260, f261, f262, f263, f264, f265, f266, f267, f268, f269, f270, f271, f272, f273, f274, f275, f276, f277, f278, f279, f280, f281], []⟩ W1 := by
  rcases hu with h | h
  · exact cnt8_in hp a b o i n c W1 hi0 hlt' hn8 lbr HLEN HRD c0 c1 c2 c3 c4 c5 c6 c7 c8 c9 c10 c11 c12 c13 d1 v0 v1 HVD (by rw [h]; rfl) (by rw [h]; rfl) f0 f2 f3 f4 f5 f6 f8 f9 f10 f11 f12 f13 f14 f15 f16 f17 f18 f19 f20 f21 f22 f23 f24 f25 f26 f27 f28 f29 f30 f31 f32 f33 f34 f35 f36 f37 f38 f39 f40 f41 f42 f43 f44 f45 f46 f47 f48 f49 f50 f51 f52 f53 f54 f55 f56 f57 f58 f59 f60 f61 f62 f63 f64 f65 f66 f67 f68 f69 f70 f71 f72 f73 f74 f75 f76 f77 f78 f79 f80 f81 f82 f83 f84 f85 f86 f87 f88 f89 f90 f91 f92 f93 f94 f95 f96 f97 f98 f99 f100 f101 f102 f103 f104 f105 f106 f107 f108 f109 f110 f111 f112 f113 f114 f115 f116 f117 f118 f119 f120 f121 f122 f123 f124 f125 f126 f127 f128 f129 f130 f131 f132 f133 f134 f135 f136 f137 f138 f139 f140 f141 f142 f143 f144 f145 f146 f147 f148 f149 f150 f151 f152 f153 f154 f155 f156 f157 f158 f159 f160 f161 f162 f163 f164 f165 f166 f167 f168 f169 f170 f171 f172 f173 f174 f175 f176 f177 f178 f179 f180 f181 f182 f183 f184 f185 f186 f187 f188 f189 f190 f191 f192 f193 f194 f195 f196 f197 f198 f199 f200 f201 f202 f203 f204 f205 f206 f207 f208 f209 f210 f211 f212 f213 f214 f215 f216 f217 f218 f219 f220 f221 f222 f223 f224 f225 f226 f227 f228 f229 f230 f231 f232 f233 f234 f235 f236 f237 f238 f239 f240 f241 f242 f243 f244 f245 f246 f247 f248 f249 f250 f251 f252 f253 f254 f255 f256 f257 f258 f259 f260 f261 f262 f263 f264 f265 f266 f267 f268 f269 f270 f271 f272 f273 f274 f275 f276 f277 f278 f279 f280 f281 hK
  · exact cnt8_out hp a b o i n c W1 hi0 hlt' hn8 lbr HLEN HRD c0 c1 c2 c3 c4 c5 c6 c7 c8 c9 c10 c11 c12 c13 d1 v0 v1 HVD (by rw [h]; rfl) (by rw [h]; rfl) f0 f2 f3 f4 f5 f6 f8 f9 f10 f11 f12 f13 f14 f15 f16 f17 f18 f19 f20 f21 f22 f23 f24 f25 f26 f27 f28 f29 f30 f31 f32 f33 f34 f35 f36 f37 f38 f39 f40 f41 f42 f43 f44 f45 f46 f47 f48 f49 f50 f51 f52 f53 f54 f55 f56 f57 f58 f59 f60 f61 f62 f63 f64 f65 f66 f67 f68 f69 f70 f71 f72 f73 f74 f75 f76 f77 f78 f79 f80 f81 f82 f83 f84 f85 f86 f87 f88 f89 f90 f91 f92 f93 f94 f95 f96 f97 f98 f99 f100 f101 f102 f103 f104 f105 f106 f107 f108 f109 f110 f111 f112 f113 f114 f115 f116 f117 f118 f119 f120 f121 f122 f123 f124 f125 f126 f127 f128 f129 f130 f131 f132 f133 f134 f135 f136 f137 f138 f139 f140 f141 f142 f143 f144 f145 f146 f147 f148 f149 f150 f151 f152 f153 f154 f155 f156 f157 f158 f159 f160 f161 f162 f163 f164 f165 f166 f167 f168 f169 f170 f171 f172 f173 f174 f175 f176 f177 f178 f179 f180 f181 f182 f183 f184 f185 f186 f187 f188 f189 f190 f191 f192 f193 f194 f195 f196 f197 f198 f199 f200 f201 f202 f203 f204 f205 f206 f207 f208 f209 f210 f211 f212 f213 f214 f215 f216 f217 f218 f219 f220 f221 f222 f223 f224 f225 f226 f227 f228 f229 f230 f231 f232 f233 f234 f235 f236 f237 f238 f239 f240 f241 f242 f243 f244 f245 f246 f247 f248 f249 f250 f251 f252 f253 f254 f255 f256 f257 f258 f259 f260 f261 f262 f263 f264 f265 f266 f267 f268 f269 f270 f271 f272 f273 f274 f275 f276 f277 f278 f279 f280 f281 hK


end Go.Proofs.Ytampfpnkkdihaaa
