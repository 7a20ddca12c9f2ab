/-
  Part of a claim's texts: contracts of the program's functions and the plain functions that they compute, in build order.
-/
import Derived.Test.YtobjahlmjcnfoaaZB02
namespace Go.Proofs.Ytobjahlmjcnfoaa
open Go.RowKit Go.Sort
attribute [local go_sem ↓] Go.wp_at_zero Go.wp_at_succ

set_option maxRecDepth 100000 in
set_option maxHeartbeats 64000000 in
theorem set12 {K : Act → World → Prop} {Q : Exit → Act → World → Prop} (hp : ∀ c a d v w, Q (.panic c) (Act.put a d v) w → Q (.panic c) a w) (base bl bt L B n m c g9 : Nat) (A : Option Addr) (s : E.St) (cv : Value) (x : E.Pl) (lt : Bool) (gd : Int) (d : Bool) (W1 : World) (hbl : W1.heap[bl]? = some (.cells #[.pointer (some ⟨L, 0, none⟩)] 71 (0, 0))) (hbt : W1.heap[bt]? = some (.cells #[.bool lt] 4 (0, 0))) (h9 : W1.heap[g9]? = some (.cells #[.bool x.ent, .bool x.grd, .bool x.card, .bool x.quit, .bool x.sgn, .int .i64 x.rank, .int .i64 x.turn] 112 (0, 0))) (h : LAt W1 base L B n s (.slice A m c) cv) (hd : d = (decide ((m : Int) < s.f.places) && (x.sgn || !lt) && (decide (gd < s.f.guards) || !x.grd))) (f0 f1 f5 f6 f7 f8 f10 f11 f12 f13 f14 f15 f16 f17 f18 f19 f20 f21 f22 f23 f24 f25 f26 f27 f28 f29 f30 f31 f32 f33 f34 f35 f36 f37 f38 f39 f40 f41 f42 f43 f44 f45 f46 f47 f48 f49 f50 f51 f52 f53 f54 f55 f56 f57 f58 f59 f60 f61 f62 f63 f64 f65 f66 f67 f68 f69 f70 f71 f72 f73 f74 f75 f76 f77 f78 f79 f80 f81 f82 f83 f84 f85 f86 f87 f88 f89 f90 f91 f92 f93 f94 f95 f96 f97 f98 f99 f100 : Value)
    (hK : ∀ (u52 u53 u54 u55 u56 u57 u58 u59 u60 u61 u62 u63 u64 u65 u66 u67 u68 u69 u70 u71 u72 u73 u74 u75 u76 u77 u78 u79 u80 u81 u82 u83 : Value) (W2 : World), Hid (Below W1.heap.size W1 W2) → K ⟨#[f0, f1, .pointer (some ⟨bl, 0, none⟩), .pointer (some ⟨bt, 0, none⟩), .int .i64 gd, f5, f6, f7, f8, .pointer (some ⟨g9, 0, none⟩), f10, f11, f12, f13, f14, f15, f16, f17, f18, f19, f20, f21, f22, f23, f24, f25, f26, f27, f28, f29, f30, f31, f32, f33, f34, f35, f36, f37, f38, f39, f40, f41, f42, f43, f44, f45, f46, f47, f48, f49, f50, f51, u52, u53, u54, u55, u56, u57, u58, u59, u60, u61, u62, u63, u64, u65, u66, u67, u68, u69, u70, u71, u72, u73, u74, u75, u76, u77, u78, u79, u80, u81, u82, u83, .bool d, f85, f86, f87, f88, f89, f90, f91, f92, f93, f94, f95, f96, f97, f98, f99, f100], []⟩ W2) :
    Code.wp Try.prog (setReg 12) (Exit.then K Q) ⟨#[f0, f1, .pointer (some ⟨bl, 0, none⟩), .pointer (some ⟨bt, 0, none⟩), .int .i64 gd, f5, f6, f7, f8, .pointer (some ⟨g9, 0, none⟩), f10, f11, f12, f13, f14, f15, f16, f17, f18, f19, f20, f21, f22, f23, f24, f25, f26, f27, f28, f29, f30, f31, f32, f33, f34, f35, f36, f37, f38, f39, f40, f41, f42, f43, f44, f45, f46, f47, f48, f49, f50, f51, f52, f53, f54, f55, f56, f57, f58, f59, f60, f61, f62, f63, f64, f65, f66, f67, f68, f69, f70, f71, f72, f73, f74, f75, f76, f77, f78, f79, f80, f81, f82, f83, f84, f85, f86, f87, f88, f89, f90, f91, f92, f93, f94, f95, f96, f97, f98, f99, f100], []⟩ W1 := by
  conv => arg 2; whnf
  have e1 := (blk_cell hbl 0).trans rfl
  have e2 := (blk_cell hbt 0).trans rfl
  have e3 := (blk_cell h9 4).trans rfl
  have e4 := (blk_cell h9 1).trans rfl
  have e5 := (h.c 0).trans rfl
  have e6 := (h.c 2).trans rfl
  have e7 := (h.c 7).trans rfl
  have HB := hide (zbD (zbR W1.heap.size W1))
  clear hbl hbt h9 h
  obtain ⟨V, hV⟩ : ∃ V, W1.drew = V := ⟨_, rfl⟩
  refine wp_region_still_lit (by kernel_rfl) (by kernel_rfl) ?_
  change wpStill _ _ W1.drew (fun a' => Exit.then K Q Exit.normal a' W1.drew) _ _
  have e1' : W1.drew.cell? ⟨bl, 0, none⟩ = some (.pointer (some ⟨L, 0, none⟩)) := e1
  have e2' : W1.drew.cell? ⟨bt, 0, none⟩ = some (.bool lt) := e2
  have e3' : W1.drew.cell? ⟨g9, 4, none⟩ = some (.bool x.sgn) := e3
  have e4' : W1.drew.cell? ⟨g9, 1, none⟩ = some (.bool x.grd) := e4
  have e5' : W1.drew.cell? ⟨L, 0, none⟩ = some (.int .i64 s.f.places) := e5
  have e6' : W1.drew.cell? ⟨L, 2, none⟩ = some (.int .i64 s.f.guards) := e6
  have e7' : W1.drew.cell? ⟨L, 7, none⟩ = some (.slice A m c) := e7
  clear e1 e2 e3 e4 e5 e6 e7
  rw [hV] at e1' e2' e3' e4' e5' e6' e7' HB ⊢
  clear hV
  obtain ⟨pg, pr, hx1, hx2⟩ : ∃ a b, x.sgn = a ∧ x.grd = b := ⟨_, _, rfl, rfl⟩
  rw [hx1] at e3'
  rw [hx2] at e4'
  have fin : ∀ b : Bool, (decide ((m : Int) < s.f.places) && (x.sgn || !lt) && (decide (gd < s.f.guards) || !x.grd)) = b → d = b := fun b hb => hd.trans hb
  rw [hx1, hx2] at fin
  clear hd hx1 hx2
  cases h1 : decide ((m : Int) < s.f.places)
  · obtain rfl := fin false (by rw [h1]; rfl)
    clear fin
    with_reducible refine stTake (v := ?_) (by kernel_rfl) ?_ ?_; rotate_left
    · (go_simp; (try with_reducible rfl))
    (try simp only [Act.put, zl, z0, z1])
    with_reducible refine stTake (v := ?_) (by kernel_rfl) ?_ ?_; rotate_left
    · (go_simp; (try with_reducible rfl))
    (try simp only [Act.put, zl, z0, z1])
    with_reducible refine stTake (v := ?_) (by kernel_rfl) ?_ ?_; rotate_left
    · (go_simp; (try with_reducible rfl))
    (try simp only [Act.put, zl, z0, z1])
    with_reducible refine stTake (v := ?_) (by kernel_rfl) ?_ ?_; rotate_left
    · (go_simp; (try with_reducible rfl))
    (try simp only [Act.put, zl, z0, z1])
    with_reducible refine stTake (v := ?_) (by kernel_rfl) ?_ ?_; rotate_left
    · (go_simp; (try with_reducible rfl))
    (try simp only [Act.put, zl, z0, z1])
    with_reducible refine stTake (v := ?_) (by kernel_rfl) ?_ ?_; rotate_left
    · (go_simp; (try with_reducible rfl))
    (try simp only [Act.put, zl, z0, z1])
    with_reducible refine stTake (v := ?_) (by kernel_rfl) ?_ ?_; rotate_left
    · (go_simp; (try with_reducible rfl))
    (try simp only [Act.put, zl, z0, z1])
    with_reducible refine stTake (v := ?_) (by kernel_rfl) ?_ ?_; rotate_left
    · (go_simp; (try with_reducible rfl))
    (try simp only [Act.put, zl, z0, z1])
    with_reducible refine stTake (v := ?_) (by kernel_rfl) ?_ ?_; rotate_left
    · (go_simp; (try with_reducible rfl))
    (try simp only [Act.put, zl, z0, z1])
    with_reducible refine stTake (v := ?_) (by kernel_rfl) ?_ ?_; rotate_left
    · (go_simp; (try with_reducible rfl))
    (try simp only [Act.put, zl, z0, z1])
    with_reducible refine stTake (v := ?_) (by kernel_rfl) ?_ ?_; rotate_left
    · (go_simp; (try simp only [h1]); (try with_reducible rfl))
    (try simp only [Act.put, zl, z0, z1])
    with_reducible refine stTake (v := ?_) (by kernel_rfl) ?_ ?_; rotate_left
    · (go_simp; (try with_reducible rfl))
    (try simp only [Act.put, zl, z0, z1])
    with_reducible refine stSkip (by kernel_rfl) ?_
    (try simp only [Act.put, zl, z0, z1])
    with_reducible refine stSkip (by kernel_rfl) ?_
    (try simp only [Act.put, zl, z0, z1])
    with_reducible refine stSkip (by kernel_rfl) ?_
    (try simp only [Act.put, zl, z0, z1])
    with_reducible refine stSkip (by kernel_rfl) ?_
    (try simp only [Act.put, zl, z0, z1])
    with_reducible refine stSkip (by kernel_rfl) ?_
    (try simp only [Act.put, zl, z0, z1])
    with_reducible refine stSkip (by kernel_rfl) ?_
    (try simp only [Act.put, zl, z0, z1])
    with_reducible refine stTake (v := ?_) (by kernel_rfl) ?_ ?_; rotate_left
    · (go_simp; (try with_reducible rfl))
    (try simp only [Act.put, zl, z0, z1])
    with_reducible refine stTake (v := ?_) (by kernel_rfl) ?_ ?_; rotate_left
    · (go_simp; (try with_reducible rfl))
    (try simp only [Act.put, zl, z0, z1])
    with_reducible refine stSkip (by kernel_rfl) ?_
    (try simp only [Act.put, zl, z0, z1])
    with_reducible refine stSkip (by kernel_rfl) ?_
    (try simp only [Act.put, zl, z0, z1])
    with_reducible refine stSkip (by kernel_rfl) ?_
    (try simp only [Act.put, zl, z0, z1])
    with_reducible refine stSkip (by kernel_rfl) ?_
    (try simp only [Act.put, zl, z0, z1])
    with_reducible refine stSkip (by kernel_rfl) ?_
    (try simp only [Act.put, zl, z0, z1])
    with_reducible refine stSkip (by kernel_rfl) ?_
    (try simp only [Act.put, zl, z0, z1])
    with_reducible refine stSkip (by kernel_rfl) ?_
    (try simp only [Act.put, zl, z0, z1])
    with_reducible refine stSkip (by kernel_rfl) ?_
    (try simp only [Act.put, zl, z0, z1])
    with_reducible refine stSkip (by kernel_rfl) ?_
    (try simp only [Act.put, zl, z0, z1])
    with_reducible refine stSkip (by kernel_rfl) ?_
    (try simp only [Act.put, zl, z0, z1])
    with_reducible refine stSkip (by kernel_rfl) ?_
    (try simp only [Act.put, zl, z0, z1])
    with_reducible refine stSkip (by kernel_rfl) ?_
    (try simp only [Act.put, zl, z0, z1])
    with_reducible refine stTake (v := ?_) (by kernel_rfl) ?_ ?_; rotate_left
    · (go_simp; (try with_reducible rfl))
    (try simp only [Act.put, zl, z0, z1])
    refine wpStill_nil ?_
    exact hK _ _ _ _ _ _ _ _ _ _ _ _ _ _ _ _ _ _ _ _ _ _ _ _ _ _ _ _ _ _ _ _ _ HB
  · rw [h1] at fin
    cases pg
    · cases lt
      · cases h2 : decide (gd < s.f.guards)
        · rw [h2] at fin
          cases pr
          · obtain rfl := fin true rfl
            clear fin
            with_reducible refine stTake (v := ?_) (by kernel_rfl) ?_ ?_; rotate_left
            · (go_simp; (try with_reducible rfl))
            (try simp only [Act.put, zl, z0, z1])
            with_reducible refine stTake (v := ?_) (by kernel_rfl) ?_ ?_; rotate_left
            · (go_simp; (try with_reducible rfl))
            (try simp only [Act.put, zl, z0, z1])
            with_reducible refine stTake (v := ?_) (by kernel_rfl) ?_ ?_; rotate_left
            · (go_simp; (try with_reducible rfl))
            (try simp only [Act.put, zl, z0, z1])
            with_reducible refine stTake (v := ?_) (by kernel_rfl) ?_ ?_; rotate_left
            · (go_simp; (try with_reducible rfl))
            (try simp only [Act.put, zl, z0, z1])
            with_reducible refine stTake (v := ?_) (by kernel_rfl) ?_ ?_; rotate_left
            · (go_simp; (try with_reducible rfl))
            (try simp only [Act.put, zl, z0, z1])
            with_reducible refine stTake (v := ?_) (by kernel_rfl) ?_ ?_; rotate_left
            · (go_simp; (try with_reducible rfl))
            (try simp only [Act.put, zl, z0, z1])
            with_reducible refine stTake (v := ?_) (by kernel_rfl) ?_ ?_; rotate_left
            · (go_simp; (try with_reducible rfl))
            (try simp only [Act.put, zl, z0, z1])
            with_reducible refine stTake (v := ?_) (by kernel_rfl) ?_ ?_; rotate_left
            · (go_simp; (try with_reducible rfl))
            (try simp only [Act.put, zl, z0, z1])
            with_reducible refine stTake (v := ?_) (by kernel_rfl) ?_ ?_; rotate_left
            · (go_simp; (try with_reducible rfl))
            (try simp only [Act.put, zl, z0, z1])
            with_reducible refine stTake (v := ?_) (by kernel_rfl) ?_ ?_; rotate_left
            · (go_simp; (try with_reducible rfl))
            (try simp only [Act.put, zl, z0, z1])
            with_reducible refine stTake (v := ?_) (by kernel_rfl) ?_ ?_; rotate_left
            · (go_simp; (try simp only [h1]); (try with_reducible rfl))
            (try simp only [Act.put, zl, z0, z1])
            with_reducible refine stTake (v := ?_) (by kernel_rfl) ?_ ?_; rotate_left
            · (go_simp; (try with_reducible rfl))
            (try simp only [Act.put, zl, z0, z1])
            with_reducible refine stTake (v := ?_) (by kernel_rfl) ?_ ?_; rotate_left
            · (go_simp; (try with_reducible rfl))
            (try simp only [Act.put, zl, z0, z1])
            with_reducible refine stTake (v := ?_) (by kernel_rfl) ?_ ?_; rotate_left
            · (go_simp; (try with_reducible rfl))
            (try simp only [Act.put, zl, z0, z1])
            with_reducible refine stTake (v := ?_) (by kernel_rfl) ?_ ?_; rotate_left
            · (go_simp; (try with_reducible rfl))
            (try simp only [Act.put, zl, z0, z1])
            with_reducible refine stTake (v := ?_) (by kernel_rfl) ?_ ?_; rotate_left
            · (go_simp; (try with_reducible rfl))
            (try simp only [Act.put, zl, z0, z1])
            with_reducible refine stTake (v := ?_) (by kernel_rfl) ?_ ?_; rotate_left
            · (go_simp; (try with_reducible rfl))
            (try simp only [Act.put, zl, z0, z1])
            with_reducible refine stTake (v := ?_) (by kernel_rfl) ?_ ?_; rotate_left
            · (go_simp; (try with_reducible rfl))
            (try simp only [Act.put, zl, z0, z1])
            with_reducible refine stTake (v := ?_) (by kernel_rfl) ?_ ?_; rotate_left
            · (go_simp; (try with_reducible rfl))
            (try simp only [Act.put, zl, z0, z1])
            with_reducible refine stTake (v := ?_) (by kernel_rfl) ?_ ?_; rotate_left
            · (go_simp; (try with_reducible rfl))
            (try simp only [Act.put, zl, z0, z1])
            with_reducible refine stTake (v := ?_) (by kernel_rfl) ?_ ?_; rotate_left
            · (go_simp; (try with_reducible rfl))
            (try simp only [Act.put, zl, z0, z1])
            with_reducible refine stTake (v := ?_) (by kernel_rfl) ?_ ?_; rotate_left
            · (go_simp; (try with_reducible rfl))
            (try simp only [Act.put, zl, z0, z1])
            with_reducible refine stTake (v := ?_) (by kernel_rfl) ?_ ?_; rotate_left
            · (go_simp; (try with_reducible rfl))
            (try simp only [Act.put, zl, z0, z1])
            with_reducible refine stTake (v := ?_) (by kernel_rfl) ?_ ?_; rotate_left
            · (go_simp; (try with_reducible rfl))
            (try simp only [Act.put, zl, z0, z1])
            with_reducible refine stTake (v := ?_) (by kernel_rfl) ?_ ?_; rotate_left
            · (go_simp; (try with_reducible rfl))
            (try simp only [Act.put, zl, z0, z1])
            with_reducible refine stTake (v := ?_) (by kernel_rfl) ?_ ?_; rotate_left
            · (go_simp; (try with_reducible rfl))
            (try simp only [Act.put, zl, z0, z1])
            with_reducible refine stTake (v := ?_) (by kernel_rfl) ?_ ?_; rotate_left
            · (go_simp; (try simp only [h2]); (try with_reducible rfl))
            (try simp only [Act.put, zl, z0, z1])
            with_reducible refine stTake (v := ?_) (by kernel_rfl) ?_ ?_; rotate_left
            · (go_simp; (try with_reducible rfl))
            (try simp only [Act.put, zl, z0, z1])
            with_reducible refine stTake (v := ?_) (by kernel_rfl) ?_ ?_; rotate_left
            · (go_simp; (try with_reducible rfl))
            (try simp only [Act.put, zl, z0, z1])
            with_reducible refine stTake (v := ?_) (by kernel_rfl) ?_ ?_; rotate_left
            · (go_simp; (try with_reducible rfl))
            (try simp only [Act.put, zl, z0, z1])
            with_reducible refine stTake (v := ?_) (by kernel_rfl) ?_ ?_; rotate_left
            · (go_simp; (try with_reducible rfl))
            (try simp only [Act.put, zl, z0, z1])
            with_reducible refine stTake (v := ?_) (by kernel_rfl) ?_ ?_; rotate_left
            · (go_simp; (try with_reducible rfl))
            (try simp only [Act.put, zl, z0, z1])
            with_reducible refine stTake (v := ?_) (by kernel_rfl) ?_ ?_; rotate_left
            · (go_simp; (try with_reducible rfl))
            (try simp only [Act.put, zl, z0, z1])
            refine wpStill_nil ?_
            exact hK _ _ _ _ _ _ _ _ _ _ _ _ _ _ _ _ _ _ _ _ _ _ _ _ _ _ _ _ _ _ _ _ _ HB
          · obtain rfl := fin false rfl
            clear fin
            with_reducible refine stTake (v := ?_) (by kernel_rfl) ?_ ?_; rotate_left
            · (go_simp; (try with_reducible rfl))
            (try simp only [Act.put, zl, z0, z1])
            with_reducible refine stTake (v := ?_) (by kernel_rfl) ?_ ?_; rotate_left
            · (go_simp; (try with_reducible rfl))
            (try simp only [Act.put, zl, z0, z1])
            with_reducible refine stTake (v := ?_) (by kernel_rfl) ?_ ?_; rotate_left
            · (go_simp; (try with_reducible rfl))
            (try simp only [Act.put, zl, z0, z1])
            with_reducible refine stTake (v := ?_) (by kernel_rfl) ?_ ?_; rotate_left
            · (go_simp; (try with_reducible rfl))
            (try simp only [Act.put, zl, z0, z1])
            with_reducible refine stTake (v := ?_) (by kernel_rfl) ?_ ?_; rotate_left
            · (go_simp; (try with_reducible rfl))
            (try simp only [Act.put, zl, z0, z1])
            with_reducible refine stTake (v := ?_) (by kernel_rfl) ?_ ?_; rotate_left
            · (go_simp; (try with_reducible rfl))
            (try simp only [Act.put, zl, z0, z1])
            with_reducible refine stTake (v := ?_) (by kernel_rfl) ?_ ?_; rotate_left
            · (go_simp; (try with_reducible rfl))
            (try simp only [Act.put, zl, z0, z1])
            with_reducible refine stTake (v := ?_) (by kernel_rfl) ?_ ?_; rotate_left
            · (go_simp; (try with_reducible rfl))
            (try simp only [Act.put, zl, z0, z1])
            with_reducible refine stTake (v := ?_) (by kernel_rfl) ?_ ?_; rotate_left
            · (go_simp; (try with_reducible rfl))
            (try simp only [Act.put, zl, z0, z1])
            with_reducible refine stTake (v := ?_) (by kernel_rfl) ?_ ?_; rotate_left
            · (go_simp; (try with_reducible rfl))
            (try simp only [Act.put, zl, z0, z1])
            with_reducible refine stTake (v := ?_) (by kernel_rfl) ?_ ?_; rotate_left
            · (go_simp; (try simp only [h1]); (try with_reducible rfl))
            (try simp only [Act.put, zl, z0, z1])
            with_reducible refine stTake (v := ?_) (by kernel_rfl) ?_ ?_; rotate_left
            · (go_simp; (try with_reducible rfl))
            (try simp only [Act.put, zl, z0, z1])
            with_reducible refine stTake (v := ?_) (by kernel_rfl) ?_ ?_; rotate_left
            · (go_simp; (try with_reducible rfl))
            (try simp only [Act.put, zl, z0, z1])
            with_reducible refine stTake (v := ?_) (by kernel_rfl) ?_ ?_; rotate_left
            · (go_simp; (try with_reducible rfl))
            (try simp only [Act.put, zl, z0, z1])
            with_reducible refine stTake (v := ?_) (by kernel_rfl) ?_ ?_; rotate_left
            · (go_simp; (try with_reducible rfl))
            (try simp only [Act.put, zl, z0, z1])
            with_reducible refine stTake (v := ?_) (by kernel_rfl) ?_ ?_; rotate_left
            · (go_simp; (try with_reducible rfl))
            (try simp only [Act.put, zl, z0, z1])
            with_reducible refine stTake (v := ?_) (by kernel_rfl) ?_ ?_; rotate_left
            · (go_simp; (try with_reducible rfl))
            (try simp only [Act.put, zl, z0, z1])
            with_reducible refine stTake (v := ?_) (by kernel_rfl) ?_ ?_; rotate_left
            · (go_simp; (try with_reducible rfl))
            (try simp only [Act.put, zl, z0, z1])
            with_reducible refine stTake (v := ?_) (by kernel_rfl) ?_ ?_; rotate_left
            · (go_simp; (try with_reducible rfl))
            (try simp only [Act.put, zl, z0, z1])
            with_reducible refine stTake (v := ?_) (by kernel_rfl) ?_ ?_; rotate_left
            · (go_simp; (try with_reducible rfl))
            (try simp only [Act.put, zl, z0, z1])
            with_reducible refine stTake (v := ?_) (by kernel_rfl) ?_ ?_; rotate_left
            · (go_simp; (try with_reducible rfl))
            (try simp only [Act.put, zl, z0, z1])
            with_reducible refine stTake (v := ?_) (by kernel_rfl) ?_ ?_; rotate_left
            · (go_simp; (try with_reducible rfl))
            (try simp only [Act.put, zl, z0, z1])
            with_reducible refine stTake (v := ?_) (by kernel_rfl) ?_ ?_; rotate_left
            · (go_simp; (try with_reducible rfl))
            (try simp only [Act.put, zl, z0, z1])
            with_reducible refine stTake (v := ?_) (by kernel_rfl) ?_ ?_; rotate_left
            · (go_simp; (try with_reducible rfl))
            (try simp only [Act.put, zl, z0, z1])
            with_reducible refine stTake (v := ?_) (by kernel_rfl) ?_ ?_; rotate_left
            · (go_simp; (try with_reducible rfl))
            (try simp only [Act.put, zl, z0, z1])
            with_reducible refine stTake (v := ?_) (by kernel_rfl) ?_ ?_; rotate_left
            · (go_simp; (try with_reducible rfl))
            (try simp only [Act.put, zl, z0, z1])
            with_reducible refine stTake (v := ?_) (by kernel_rfl) ?_ ?_; rotate_left
            · (go_simp; (try simp only [h2]); (try with_reducible rfl))
            (try simp only [Act.put, zl, z0, z1])
            with_reducible refine stTake (v := ?_) (by kernel_rfl) ?_ ?_; rotate_left
            · (go_simp; (try with_reducible rfl))
            (try simp only [Act.put, zl, z0, z1])
            with_reducible refine stTake (v := ?_) (by kernel_rfl) ?_ ?_; rotate_left
            · (go_simp; (try with_reducible rfl))
            (try simp only [Act.put, zl, z0, z1])
            with_reducible refine stTake (v := ?_) (by kernel_rfl) ?_ ?_; rotate_left
            · (go_simp; (try with_reducible rfl))
            (try simp only [Act.put, zl, z0, z1])
            with_reducible refine stTake (v := ?_) (by kernel_rfl) ?_ ?_; rotate_left
            · (go_simp; (try with_reducible rfl))
            (try simp only [Act.put, zl, z0, z1])
            with_reducible refine stTake (v := ?_) (by kernel_rfl) ?_ ?_; rotate_left
            · (go_simp; (try with_reducible rfl))
            (try simp only [Act.put, zl, z0, z1])
            with_reducible refine stTake (v := ?_) (by kernel_rfl) ?_ ?_; rotate_left
            · (go_simp; (try with_reducible rfl))
            (try simp only [Act.put, zl, z0, z1])
            refine wpStill_nil ?_
            exact hK _ _ _ _ _ _ _ _ _ _ _ _ _ _ _ _ _ _ _ _ _ _ _ _ _ _ _ _ _ _ _ _ _ HB
        · rw [h2] at fin
          obtain rfl := fin true rfl
          clear fin
          with_reducible refine stTake (v := ?_) (by kernel_rfl) ?_ ?_; rotate_left
          · (go_simp; (try with_reducible rfl))
          (try simp only [Act.put, zl, z0, z1])
          with_reducible refine stTake (v := ?_) (by kernel_rfl) ?_ ?_; rotate_left
          · (go_simp; (try with_reducible rfl))
          (try simp only [Act.put, zl, z0, z1])
          with_reducible refine stTake (v := ?_) (by kernel_rfl) ?_ ?_; rotate_left
          · (go_simp; (try with_reducible rfl))
          (try simp only [Act.put, zl, z0, z1])
          with_reducible refine stTake (v := ?_) (by kernel_rfl) ?_ ?_; rotate_left
          · (go_simp; (try with_reducible rfl))
          (try simp only [Act.put, zl, z0, z1])
          with_reducible refine stTake (v := ?_) (by kernel_rfl) ?_ ?_; rotate_left
          · (go_simp; (try with_reducible rfl))
          (try simp only [Act.put, zl, z0, z1])
          with_reducible refine stTake (v := ?_) (by kernel_rfl) ?_ ?_; rotate_left
          · (go_simp; (try with_reducible rfl))
          (try simp only [Act.put, zl, z0, z1])
          with_reducible refine stTake (v := ?_) (by kernel_rfl) ?_ ?_; rotate_left
          · (go_simp; (try with_reducible rfl))
          (try simp only [Act.put, zl, z0, z1])
          with_reducible refine stTake (v := ?_) (by kernel_rfl) ?_ ?_; rotate_left
          · (go_simp; (try with_reducible rfl))
          (try simp only [Act.put, zl, z0, z1])
          with_reducible refine stTake (v := ?_) (by kernel_rfl) ?_ ?_; rotate_left
          · (go_simp; (try with_reducible rfl))
          (try simp only [Act.put, zl, z0, z1])
          with_reducible refine stTake (v := ?_) (by kernel_rfl) ?_ ?_; rotate_left
          · (go_simp; (try with_reducible rfl))
          (try simp only [Act.put, zl, z0, z1])
          with_reducible refine stTake (v := ?_) (by kernel_rfl) ?_ ?_; rotate_left
          · (go_simp; (try simp only [h1]); (try with_reducible rfl))
          (try simp only [Act.put, zl, z0, z1])
          with_reducible refine stTake (v := ?_) (by kernel_rfl) ?_ ?_; rotate_left
          · (go_simp; (try with_reducible rfl))
          (try simp only [Act.put, zl, z0, z1])
          with_reducible refine stTake (v := ?_) (by kernel_rfl) ?_ ?_; rotate_left
          · (go_simp; (try with_reducible rfl))
          (try simp only [Act.put, zl, z0, z1])
          with_reducible refine stTake (v := ?_) (by kernel_rfl) ?_ ?_; rotate_left
          · (go_simp; (try with_reducible rfl))
          (try simp only [Act.put, zl, z0, z1])
          with_reducible refine stTake (v := ?_) (by kernel_rfl) ?_ ?_; rotate_left
          · (go_simp; (try with_reducible rfl))
          (try simp only [Act.put, zl, z0, z1])
          with_reducible refine stTake (v := ?_) (by kernel_rfl) ?_ ?_; rotate_left
          · (go_simp; (try with_reducible rfl))
          (try simp only [Act.put, zl, z0, z1])
          with_reducible refine stTake (v := ?_) (by kernel_rfl) ?_ ?_; rotate_left
          · (go_simp; (try with_reducible rfl))
          (try simp only [Act.put, zl, z0, z1])
          with_reducible refine stTake (v := ?_) (by kernel_rfl) ?_ ?_; rotate_left
          · (go_simp; (try with_reducible rfl))
          (try simp only [Act.put, zl, z0, z1])
          with_reducible refine stTake (v := ?_) (by kernel_rfl) ?_ ?_; rotate_left
          · (go_simp; (try with_reducible rfl))
          (try simp only [Act.put, zl, z0, z1])
          with_reducible refine stTake (v := ?_) (by kernel_rfl) ?_ ?_; rotate_left
          · (go_simp; (try with_reducible rfl))
          (try simp only [Act.put, zl, z0, z1])
          with_reducible refine stTake (v := ?_) (by kernel_rfl) ?_ ?_; rotate_left
          · (go_simp; (try with_reducible rfl))
          (try simp only [Act.put, zl, z0, z1])
          with_reducible refine stTake (v := ?_) (by kernel_rfl) ?_ ?_; rotate_left
          · (go_simp; (try with_reducible rfl))
          (try simp only [Act.put, zl, z0, z1])
          with_reducible refine stTake (v := ?_) (by kernel_rfl) ?_ ?_; rotate_left
          · (go_simp; (try with_reducible rfl))
          (try simp only [Act.put, zl, z0, z1])
          with_reducible refine stTake (v := ?_) (by kernel_rfl) ?_ ?_; rotate_left
          · (go_simp; (try with_reducible rfl))
          (try simp only [Act.put, zl, z0, z1])
          with_reducible refine stTake (v := ?_) (by kernel_rfl) ?_ ?_; rotate_left
          · (go_simp; (try with_reducible rfl))
          (try simp only [Act.put, zl, z0, z1])
          with_reducible refine stTake (v := ?_) (by kernel_rfl) ?_ ?_; rotate_left
          · (go_simp; (try with_reducible rfl))
          (try simp only [Act.put, zl, z0, z1])
          with_reducible refine stTake (v := ?_) (by kernel_rfl) ?_ ?_; rotate_left
          · (go_simp; (try simp only [h2]); (try with_reducible rfl))
          (try simp only [Act.put, zl, z0, z1])
          with_reducible refine stTake (v := ?_) (by kernel_rfl) ?_ ?_; rotate_left
          · (go_simp; (try with_reducible rfl))
          (try simp only [Act.put, zl, z0, z1])
          with_reducible refine stSkip (by kernel_rfl) ?_
          (try simp only [Act.put, zl, z0, z1])
          with_reducible refine stSkip (by kernel_rfl) ?_
          (try simp only [Act.put, zl, z0, z1])
          with_reducible refine stSkip (by kernel_rfl) ?_
          (try simp only [Act.put, zl, z0, z1])
          with_reducible refine stTake (v := ?_) (by kernel_rfl) ?_ ?_; rotate_left
          · (go_simp; (try with_reducible rfl))
          (try simp only [Act.put, zl, z0, z1])
          with_reducible refine stTake (v := ?_) (by kernel_rfl) ?_ ?_; rotate_left
          · (go_simp; (try with_reducible rfl))
          (try simp only [Act.put, zl, z0, z1])
          refine wpStill_nil ?_
          exact hK _ _ _ _ _ _ _ _ _ _ _ _ _ _ _ _ _ _ _ _ _ _ _ _ _ _ _ _ _ _ _ _ _ HB
      · obtain rfl := fin false rfl
        clear fin
        with_reducible refine stTake (v := ?_) (by kernel_rfl) ?_ ?_; rotate_left
        · (go_simp; (try with_reducible rfl))
        (try simp only [Act.put, zl, z0, z1])
        with_reducible refine stTake (v := ?_) (by kernel_rfl) ?_ ?_; rotate_left
        · (go_simp; (try with_reducible rfl))
        (try simp only [Act.put, zl, z0, z1])
        with_reducible refine stTake (v := ?_) (by kernel_rfl) ?_ ?_; rotate_left
        · (go_simp; (try with_reducible rfl))
        (try simp only [Act.put, zl, z0, z1])
        with_reducible refine stTake (v := ?_) (by kernel_rfl) ?_ ?_; rotate_left
        · (go_simp; (try with_reducible rfl))
        (try simp only [Act.put, zl, z0, z1])
        with_reducible refine stTake (v := ?_) (by kernel_rfl) ?_ ?_; rotate_left
        · (go_simp; (try with_reducible rfl))
        (try simp only [Act.put, zl, z0, z1])
        with_reducible refine stTake (v := ?_) (by kernel_rfl) ?_ ?_; rotate_left
        · (go_simp; (try with_reducible rfl))
        (try simp only [Act.put, zl, z0, z1])
        with_reducible refine stTake (v := ?_) (by kernel_rfl) ?_ ?_; rotate_left
        · (go_simp; (try with_reducible rfl))
        (try simp only [Act.put, zl, z0, z1])
        with_reducible refine stTake (v := ?_) (by kernel_rfl) ?_ ?_; rotate_left
        · (go_simp; (try with_reducible rfl))
        (try simp only [Act.put, zl, z0, z1])
        with_reducible refine stTake (v := ?_) (by kernel_rfl) ?_ ?_; rotate_left
        · (go_simp; (try with_reducible rfl))
        (try simp only [Act.put, zl, z0, z1])
        with_reducible refine stTake (v := ?_) (by kernel_rfl) ?_ ?_; rotate_left
        · (go_simp; (try with_reducible rfl))
        (try simp only [Act.put, zl, z0, z1])
        with_reducible refine stTake (v := ?_) (by kernel_rfl) ?_ ?_; rotate_left
        · (go_simp; (try simp only [h1]); (try with_reducible rfl))
        (try simp only [Act.put, zl, z0, z1])
        with_reducible refine stTake (v := ?_) (by kernel_rfl) ?_ ?_; rotate_left
        · (go_simp; (try with_reducible rfl))
        (try simp only [Act.put, zl, z0, z1])
        with_reducible refine stTake (v := ?_) (by kernel_rfl) ?_ ?_; rotate_left
        · (go_simp; (try with_reducible rfl))
        (try simp only [Act.put, zl, z0, z1])
        with_reducible refine stTake (v := ?_) (by kernel_rfl) ?_ ?_; rotate_left
        · (go_simp; (try with_reducible rfl))
        (try simp only [Act.put, zl, z0, z1])
        with_reducible refine stTake (v := ?_) (by kernel_rfl) ?_ ?_; rotate_left
        · (go_simp; (try with_reducible rfl))
        (try simp only [Act.put, zl, z0, z1])
        with_reducible refine stTake (v := ?_) (by kernel_rfl) ?_ ?_; rotate_left
        · (go_simp; (try with_reducible rfl))
        (try simp only [Act.put, zl, z0, z1])
        with_reducible refine stTake (v := ?_) (by kernel_rfl) ?_ ?_; rotate_left
        · (go_simp; (try with_reducible rfl))
        (try simp only [Act.put, zl, z0, z1])
        with_reducible refine stTake (v := ?_) (by kernel_rfl) ?_ ?_; rotate_left
        · (go_simp; (try with_reducible rfl))
        (try simp only [Act.put, zl, z0, z1])
        with_reducible refine stTake (v := ?_) (by kernel_rfl) ?_ ?_; rotate_left
        · (go_simp; (try with_reducible rfl))
        (try simp only [Act.put, zl, z0, z1])
        with_reducible refine stTake (v := ?_) (by kernel_rfl) ?_ ?_; rotate_left
        · (go_simp; (try with_reducible rfl))
        (try simp only [Act.put, zl, z0, z1])
        with_reducible refine stSkip (by kernel_rfl) ?_
        (try simp only [Act.put, zl, z0, z1])
        with_reducible refine stSkip (by kernel_rfl) ?_
        (try simp only [Act.put, zl, z0, z1])
        with_reducible refine stSkip (by kernel_rfl) ?_
        (try simp only [Act.put, zl, z0, z1])
        with_reducible refine stSkip (by kernel_rfl) ?_
        (try simp only [Act.put, zl, z0, z1])
        with_reducible refine stSkip (by kernel_rfl) ?_
        (try simp only [Act.put, zl, z0, z1])
        with_reducible refine stSkip (by kernel_rfl) ?_
        (try simp only [Act.put, zl, z0, z1])
        with_reducible refine stSkip (by kernel_rfl) ?_
        (try simp only [Act.put, zl, z0, z1])
        with_reducible refine stSkip (by kernel_rfl) ?_
        (try simp only [Act.put, zl, z0, z1])
        with_reducible refine stSkip (by kernel_rfl) ?_
        (try simp only [Act.put, zl, z0, z1])
        with_reducible refine stSkip (by kernel_rfl) ?_
        (try simp only [Act.put, zl, z0, z1])
        with_reducible refine stSkip (by kernel_rfl) ?_
        (try simp only [Act.put, zl, z0, z1])
        with_reducible refine stSkip (by kernel_rfl) ?_
        (try simp only [Act.put, zl, z0, z1])
        with_reducible refine stTake (v := ?_) (by kernel_rfl) ?_ ?_; rotate_left
        · (go_simp; (try with_reducible rfl))
        (try simp only [Act.put, zl, z0, z1])
        refine wpStill_nil ?_
        exact hK _ _ _ _ _ _ _ _ _ _ _ _ _ _ _ _ _ _ _ _ _ _ _ _ _ _ _ _ _ _ _ _ _ HB
    · cases h2 : decide (gd < s.f.guards)
      · rw [h2] at fin
        cases pr
        · obtain rfl := fin true rfl
          clear fin
          with_reducible refine stTake (v := ?_) (by kernel_rfl) ?_ ?_; rotate_left
          · (go_simp; (try with_reducible rfl))
          (try simp only [Act.put, zl, z0, z1])
          with_reducible refine stTake (v := ?_) (by kernel_rfl) ?_ ?_; rotate_left
          · (go_simp; (try with_reducible rfl))
          (try simp only [Act.put, zl, z0, z1])
          with_reducible refine stTake (v := ?_) (by kernel_rfl) ?_ ?_; rotate_left
          · (go_simp; (try with_reducible rfl))
          (try simp only [Act.put, zl, z0, z1])
          with_reducible refine stTake (v := ?_) (by kernel_rfl) ?_ ?_; rotate_left
          · (go_simp; (try with_reducible rfl))
          (try simp only [Act.put, zl, z0, z1])
          with_reducible refine stTake (v := ?_) (by kernel_rfl) ?_ ?_; rotate_left
          · (go_simp; (try with_reducible rfl))
          (try simp only [Act.put, zl, z0, z1])
          with_reducible refine stTake (v := ?_) (by kernel_rfl) ?_ ?_; rotate_left
          · (go_simp; (try with_reducible rfl))
          (try simp only [Act.put, zl, z0, z1])
          with_reducible refine stTake (v := ?_) (by kernel_rfl) ?_ ?_; rotate_left
          · (go_simp; (try with_reducible rfl))
          (try simp only [Act.put, zl, z0, z1])
          with_reducible refine stTake (v := ?_) (by kernel_rfl) ?_ ?_; rotate_left
          · (go_simp; (try with_reducible rfl))
          (try simp only [Act.put, zl, z0, z1])
          with_reducible refine stTake (v := ?_) (by kernel_rfl) ?_ ?_; rotate_left
          · (go_simp; (try with_reducible rfl))
          (try simp only [Act.put, zl, z0, z1])
          with_reducible refine stTake (v := ?_) (by kernel_rfl) ?_ ?_; rotate_left
          · (go_simp; (try with_reducible rfl))
          (try simp only [Act.put, zl, z0, z1])
          with_reducible refine stTake (v := ?_) (by kernel_rfl) ?_ ?_; rotate_left
          · (go_simp; (try simp only [h1]); (try with_reducible rfl))
          (try simp only [Act.put, zl, z0, z1])
          with_reducible refine stTake (v := ?_) (by kernel_rfl) ?_ ?_; rotate_left
          · (go_simp; (try with_reducible rfl))
          (try simp only [Act.put, zl, z0, z1])
          with_reducible refine stTake (v := ?_) (by kernel_rfl) ?_ ?_; rotate_left
          · (go_simp; (try with_reducible rfl))
          (try simp only [Act.put, zl, z0, z1])
          with_reducible refine stTake (v := ?_) (by kernel_rfl) ?_ ?_; rotate_left
          · (go_simp; (try with_reducible rfl))
          (try simp only [Act.put, zl, z0, z1])
          with_reducible refine stTake (v := ?_) (by kernel_rfl) ?_ ?_; rotate_left
          · (go_simp; (try with_reducible rfl))
          (try simp only [Act.put, zl, z0, z1])
          with_reducible refine stSkip (by kernel_rfl) ?_
          (try simp only [Act.put, zl, z0, z1])
          with_reducible refine stSkip (by kernel_rfl) ?_
          (try simp only [Act.put, zl, z0, z1])
          with_reducible refine stTake (v := ?_) (by kernel_rfl) ?_ ?_; rotate_left
          · (go_simp; (try with_reducible rfl))
          (try simp only [Act.put, zl, z0, z1])
          with_reducible refine stTake (v := ?_) (by kernel_rfl) ?_ ?_; rotate_left
          · (go_simp; (try with_reducible rfl))
          (try simp only [Act.put, zl, z0, z1])
          with_reducible refine stTake (v := ?_) (by kernel_rfl) ?_ ?_; rotate_left
          · (go_simp; (try with_reducible rfl))
          (try simp only [Act.put, zl, z0, z1])
          with_reducible refine stTake (v := ?_) (by kernel_rfl) ?_ ?_; rotate_left
          · (go_simp; (try with_reducible rfl))
          (try simp only [Act.put, zl, z0, z1])
          with_reducible refine stTake (v := ?_) (by kernel_rfl) ?_ ?_; rotate_left
          · (go_simp; (try with_reducible rfl))
          (try simp only [Act.put, zl, z0, z1])
          with_reducible refine stTake (v := ?_) (by kernel_rfl) ?_ ?_; rotate_left
          · (go_simp; (try with_reducible rfl))
          (try simp only [Act.put, zl, z0, z1])
          with_reducible refine stTake (v := ?_) (by kernel_rfl) ?_ ?_; rotate_left
          · (go_simp; (try with_reducible rfl))
          (try simp only [Act.put, zl, z0, z1])
          with_reducible refine stTake (v := ?_) (by kernel_rfl) ?_ ?_; rotate_left
          · (go_simp; (try with_reducible rfl))
          (try simp only [Act.put, zl, z0, z1])
          with_reducible refine stTake (v := ?_) (by kernel_rfl) ?_ ?_; rotate_left
          · (go_simp; (try with_reducible rfl))
          (try simp only [Act.put, zl, z0, z1])
          with_reducible refine stTake (v := ?_) (by kernel_rfl) ?_ ?_; rotate_left
          · (go_simp; (try simp only [h2]); (try with_reducible rfl))
          (try simp only [Act.put, zl, z0, z1])
          with_reducible refine stTake (v := ?_) (by kernel_rfl) ?_ ?_; rotate_left
          · (go_simp; (try with_reducible rfl))
          (try simp only [Act.put, zl, z0, z1])
          with_reducible refine stTake (v := ?_) (by kernel_rfl) ?_ ?_; rotate_left
          · (go_simp; (try with_reducible rfl))
          (try simp only [Act.put, zl, z0, z1])
          with_reducible refine stTake (v := ?_) (by kernel_rfl) ?_ ?_; rotate_left
          · (go_simp; (try with_reducible rfl))
          (try simp only [Act.put, zl, z0, z1])
          with_reducible refine stTake (v := ?_) (by kernel_rfl) ?_ ?_; rotate_left
          · (go_simp; (try with_reducible rfl))
          (try simp only [Act.put, zl, z0, z1])
          with_reducible refine stTake (v := ?_) (by kernel_rfl) ?_ ?_; rotate_left
          · (go_simp; (try with_reducible rfl))
          (try simp only [Act.put, zl, z0, z1])
          with_reducible refine stTake (v := ?_) (by kernel_rfl) ?_ ?_; rotate_left
          · (go_simp; (try with_reducible rfl))
          (try simp only [Act.put, zl, z0, z1])
          refine wpStill_nil ?_
          exact hK _ _ _ _ _ _ _ _ _ _ _ _ _ _ _ _ _ _ _ _ _ _ _ _ _ _ _ _ _ _ _ _ _ HB
        · obtain rfl := fin false rfl
          clear fin
          with_reducible refine stTake (v := ?_) (by kernel_rfl) ?_ ?_; rotate_left
          · (go_simp; (try with_reducible rfl))
          (try simp only [Act.put, zl, z0, z1])
          with_reducible refine stTake (v := ?_) (by kernel_rfl) ?_ ?_; rotate_left
          · (go_simp; (try with_reducible rfl))
          (try simp only [Act.put, zl, z0, z1])
          with_reducible refine stTake (v := ?_) (by kernel_rfl) ?_ ?_; rotate_left
          · (go_simp; (try with_reducible rfl))
          (try simp only [Act.put, zl, z0, z1])
          with_reducible refine stTake (v := ?_) (by kernel_rfl) ?_ ?_; rotate_left
          · (go_simp; (try with_reducible rfl))
          (try simp only [Act.put, zl, z0, z1])
          with_reducible refine stTake (v := ?_) (by kernel_rfl) ?_ ?_; rotate_left
          · (go_simp; (try with_reducible rfl))
          (try simp only [Act.put, zl, z0, z1])
          with_reducible refine stTake (v := ?_) (by kernel_rfl) ?_ ?_; rotate_left
          · (go_simp; (try with_reducible rfl))
          (try simp only [Act.put, zl, z0, z1])
          with_reducible refine stTake (v := ?_) (by kernel_rfl) ?_ ?_; rotate_left
          · (go_simp; (try with_reducible rfl))
          (try simp only [Act.put, zl, z0, z1])
          with_reducible refine stTake (v := ?_) (by kernel_rfl) ?_ ?_; rotate_left
          · (go_simp; (try with_reducible rfl))
          (try simp only [Act.put, zl, z0, z1])
          with_reducible refine stTake (v := ?_) (by kernel_rfl) ?_ ?_; rotate_left
          · (go_simp; (try with_reducible rfl))
          (try simp only [Act.put, zl, z0, z1])
          with_reducible refine stTake (v := ?_) (by kernel_rfl) ?_ ?_; rotate_left
          · (go_simp; (try with_reducible rfl))
          (try simp only [Act.put, zl, z0, z1])
          with_reducible refine stTake (v := ?_) (by kernel_rfl) ?_ ?_; rotate_left
          · (go_simp; (try simp only [h1]); (try with_reducible rfl))
          (try simp only [Act.put, zl, z0, z1])
          with_reducible refine stTake (v := ?_) (by kernel_rfl) ?_ ?_; rotate_left
          · (go_simp; (try with_reducible rfl))
          (try simp only [Act.put, zl, z0, z1])
          with_reducible refine stTake (v := ?_) (by kernel_rfl) ?_ ?_; rotate_left
          · (go_simp; (try with_reducible rfl))
          (try simp only [Act.put, zl, z0, z1])
          with_reducible refine stTake (v := ?_) (by kernel_rfl) ?_ ?_; rotate_left
          · (go_simp; (try with_reducible rfl))
          (try simp only [Act.put, zl, z0, z1])
          with_reducible refine stTake (v := ?_) (by kernel_rfl) ?_ ?_; rotate_left
          · (go_simp; (try with_reducible rfl))
          (try simp only [Act.put, zl, z0, z1])
          with_reducible refine stSkip (by kernel_rfl) ?_
          (try simp only [Act.put, zl, z0, z1])
          with_reducible refine stSkip (by kernel_rfl) ?_
          (try simp only [Act.put, zl, z0, z1])
          with_reducible refine stTake (v := ?_) (by kernel_rfl) ?_ ?_; rotate_left
          · (go_simp; (try with_reducible rfl))
          (try simp only [Act.put, zl, z0, z1])
          with_reducible refine stTake (v := ?_) (by kernel_rfl) ?_ ?_; rotate_left
          · (go_simp; (try with_reducible rfl))
          (try simp only [Act.put, zl, z0, z1])
          with_reducible refine stTake (v := ?_) (by kernel_rfl) ?_ ?_; rotate_left
          · (go_simp; (try with_reducible rfl))
          (try simp only [Act.put, zl, z0, z1])
          with_reducible refine stTake (v := ?_) (by kernel_rfl) ?_ ?_; rotate_left
          · (go_simp; (try with_reducible rfl))
          (try simp only [Act.put, zl, z0, z1])
          with_reducible refine stTake (v := ?_) (by kernel_rfl) ?_ ?_; rotate_left
          · (go_simp; (try with_reducible rfl))
          (try simp only [Act.put, zl, z0, z1])
          with_reducible refine stTake (v := ?_) (by kernel_rfl) ?_ ?_; rotate_left
          · (go_simp; (try with_reducible rfl))
          (try simp only [Act.put, zl, z0, z1])
          with_reducible refine stTake (v := ?_) (by kernel_rfl) ?_ ?_; rotate_left
          · (go_simp; (try with_reducible rfl))
          (try simp only [Act.put, zl, z0, z1])
          with_reducible refine stTake (v := ?_) (by kernel_rfl) ?_ ?_; rotate_left
          · (go_simp; (try with_reducible rfl))
          (try simp only [Act.put, zl, z0, z1])
          with_reducible refine stTake (v := ?_) (by kernel_rfl) ?_ ?_; rotate_left
          · (go_simp; (try with_reducible rfl))
          (try simp only [Act.put, zl, z0, z1])
          with_reducible refine stTake (v := ?_) (by kernel_rfl) ?_ ?_; rotate_left
          · (go_simp; (try simp only [h2]); (try with_reducible rfl))
          (try simp only [Act.put, zl, z0, z1])
          with_reducible refine stTake (v := ?_) (by kernel_rfl) ?_ ?_; rotate_left
          · (go_simp; (try with_reducible rfl))
          (try simp only [Act.put, zl, z0, z1])
          with_reducible refine stTake (v := ?_) (by kernel_rfl) ?_ ?_; rotate_left
          · (go_simp; (try with_reducible rfl))
          (try simp only [Act.put, zl, z0, z1])
          with_reducible refine stTake (v := ?_) (by kernel_rfl) ?_ ?_; rotate_left
          · (go_simp; (try with_reducible rfl))
          (try simp only [Act.put, zl, z0, z1])
          with_reducible refine stTake (v := ?_) (by kernel_rfl) ?_ ?_; rotate_left
          · (go_simp; (try with_reducible rfl))
          (try simp only [Act.put, zl, z0, z1])
          with_reducible refine stTake (v := ?_) (by kernel_rfl) ?_ ?_; rotate_left
          · (go_simp; (try with_reducible rfl))
          (try simp only [Act.put, zl, z0, z1])
          with_reducible refine stTake (v := ?_) (by kernel_rfl) ?_ ?_; rotate_left
          · (go_simp; (try with_reducible rfl))
          (try simp only [Act.put, zl, z0, z1])
          refine wpStill_nil ?_
          exact hK _ _ _ _ _ _ _ _ _ _ _ _ _ _ _ _ _ _ _ _ _ _ _ _ _ _ _ _ _ _ _ _ _ HB
      · rw [h2] at fin
        obtain rfl := fin true rfl
        clear fin
        with_reducible refine stTake (v := ?_) (by kernel_rfl) ?_ ?_; rotate_left
        · (go_simp; (try with_reducible rfl))
        (try simp only [Act.put, zl, z0, z1])
        with_reducible refine stTake (v := ?_) (by kernel_rfl) ?_ ?_; rotate_left
        · (go_simp; (try with_reducible rfl))
        (try simp only [Act.put, zl, z0, z1])
        with_reducible refine stTake (v := ?_) (by kernel_rfl) ?_ ?_; rotate_left
        · (go_simp; (try with_reducible rfl))
        (try simp only [Act.put, zl, z0, z1])
        with_reducible refine stTake (v := ?_) (by kernel_rfl) ?_ ?_; rotate_left
        · (go_simp; (try with_reducible rfl))
        (try simp only [Act.put, zl, z0, z1])
        with_reducible refine stTake (v := ?_) (by kernel_rfl) ?_ ?_; rotate_left
        · (go_simp; (try with_reducible rfl))
        (try simp only [Act.put, zl, z0, z1])
        with_reducible refine stTake (v := ?_) (by kernel_rfl) ?_ ?_; rotate_left
        · (go_simp; (try with_reducible rfl))
        (try simp only [Act.put, zl, z0, z1])
        with_reducible refine stTake (v := ?_) (by kernel_rfl) ?_ ?_; rotate_left
        · (go_simp; (try with_reducible rfl))
        (try simp only [Act.put, zl, z0, z1])
        with_reducible refine stTake (v := ?_) (by kernel_rfl) ?_ ?_; rotate_left
        · (go_simp; (try with_reducible rfl))
        (try simp only [Act.put, zl, z0, z1])
        with_reducible refine stTake (v := ?_) (by kernel_rfl) ?_ ?_; rotate_left
        · (go_simp; (try with_reducible rfl))
        (try simp only [Act.put, zl, z0, z1])
        with_reducible refine stTake (v := ?_) (by kernel_rfl) ?_ ?_; rotate_left
        · (go_simp; (try with_reducible rfl))
        (try simp only [Act.put, zl, z0, z1])
        with_reducible refine stTake (v := ?_) (by kernel_rfl) ?_ ?_; rotate_left
        · (go_simp; (try simp only [h1]); (try with_reducible rfl))
        (try simp only [Act.put, zl, z0, z1])
        with_reducible refine stTake (v := ?_) (by kernel_rfl) ?_ ?_; rotate_left
        · (go_simp; (try with_reducible rfl))
        (try simp only [Act.put, zl, z0, z1])
        with_reducible refine stTake (v := ?_) (by kernel_rfl) ?_ ?_; rotate_left
        · (go_simp; (try with_reducible rfl))
        (try simp only [Act.put, zl, z0, z1])
        with_reducible refine stTake (v := ?_) (by kernel_rfl) ?_ ?_; rotate_left
        · (go_simp; (try with_reducible rfl))
        (try simp only [Act.put, zl, z0, z1])
        with_reducible refine stTake (v := ?_) (by kernel_rfl) ?_ ?_; rotate_left
        · (go_simp; (try with_reducible rfl))
        (try simp only [Act.put, zl, z0, z1])
        with_reducible refine stSkip (by kernel_rfl) ?_
        (try simp only [Act.put, zl, z0, z1])
        with_reducible refine stSkip (by kernel_rfl) ?_
        (try simp only [Act.put, zl, z0, z1])
        with_reducible refine stTake (v := ?_) (by kernel_rfl) ?_ ?_; rotate_left
        · (go_simp; (try with_reducible rfl))
        (try simp only [Act.put, zl, z0, z1])
        with_reducible refine stTake (v := ?_) (by kernel_rfl) ?_ ?_; rotate_left
        · (go_simp; (try with_reducible rfl))
        (try simp only [Act.put, zl, z0, z1])
        with_reducible refine stTake (v := ?_) (by kernel_rfl) ?_ ?_; rotate_left
        · (go_simp; (try with_reducible rfl))
        (try simp only [Act.put, zl, z0, z1])
        with_reducible refine stTake (v := ?_) (by kernel_rfl) ?_ ?_; rotate_left
        · (go_simp; (try with_reducible rfl))
        (try simp only [Act.put, zl, z0, z1])
        with_reducible refine stTake (v := ?_) (by kernel_rfl) ?_ ?_; rotate_left
        · (go_simp; (try with_reducible rfl))
        (try simp only [Act.put, zl, z0, z1])
        with_reducible refine stTake (v := ?_) (by kernel_rfl) ?_ ?_; rotate_left
        · (go_simp; (try with_reducible rfl))
        (try simp only [Act.put, zl, z0, z1])
        with_reducible refine stTake (v := ?_) (by kernel_rfl) ?_ ?_; rotate_left
        · (go_simp; (try with_reducible rfl))
        (try simp only [Act.put, zl, z0, z1])
        with_reducible refine stTake (v := ?_) (by kernel_rfl) ?_ ?_; rotate_left
        · (go_simp; (try with_reducible rfl))
        (try simp only [Act.put, zl, z0, z1])
        with_reducible refine stTake (v := ?_) (by kernel_rfl) ?_ ?_; rotate_left
        · (go_simp; (try with_reducible rfl))
        (try simp only [Act.put, zl, z0, z1])
        with_reducible refine stTake (v := ?_) (by kernel_rfl) ?_ ?_; rotate_left
        · (go_simp; (try simp only [h2]); (try with_reducible rfl))
        (try simp only [Act.put, zl, z0, z1])
        with_reducible refine stTake (v := ?_) (by kernel_rfl) ?_ ?_; rotate_left
        · (go_simp; (try with_reducible rfl))
        (try simp only [Act.put, zl, z0, z1])
        with_reducible refine stSkip (by kernel_rfl) ?_
        (try simp only [Act.put, zl, z0, z1])
        with_reducible refine stSkip (by kernel_rfl) ?_
        (try simp only [Act.put, zl, z0, z1])
        with_reducible refine stSkip (by kernel_rfl) ?_
        (try simp only [Act.put, zl, z0, z1])
        with_reducible refine stTake (v := ?_) (by kernel_rfl) ?_ ?_; rotate_left
        · (go_simp; (try with_reducible rfl))
        (try simp only [Act.put, zl, z0, z1])
        with_reducible refine stTake (v := ?_) (by kernel_rfl) ?_ ?_; rotate_left
        · (go_simp; (try with_reducible rfl))
        (try simp only [Act.put, zl, z0, z1])
        refine wpStill_nil ?_
        exact hK _ _ _ _ _ _ _ _ _ _ _ _ _ _ _ _ _ _ _ _ _ _ _ _ _ _ _ _ _ _ _ _ _ HB

end Go.Proofs.Ytobjahlmjcnfoaa

namespace Go.Proofs.Ytobjahlmjcnfoaa
open Go.RowKit Go.Sort
attribute [local go_sem ↓] Go.wp_at_zero Go.wp_at_succ

theorem E.guards_bd (s : E.St) : ∀ l : List Int, 0 ≤ s.guardsOf l ∧ s.guardsOf l ≤ (l.length : Int)
  | [] => by simp [E.St.guardsOf]
  | k :: r => by
    have ih := E.guards_bd s r
    have h1 : s.guardsOf (k :: r) = E.one (s.pl k).grd + s.guardsOf r := by simp [E.St.guardsOf]
    have h2 : 0 ≤ E.one (s.pl k).grd ∧ E.one (s.pl k).grd ≤ 1 := by unfold E.one; split <;> omega
    rw [h1, List.length_cons]
    omega

def SettlePost (base L B n : Nat) (s : E.St) (lt : Bool) (mv cv : Value) (w : World) (e : Ending) (w' : World) : Prop := ∃ mv', e = .returned (.tuple #[]) ∧ LAt w' base L B n (s.settle lt) mv' cv ∧ Below base w w' ∧ (∀ b, b < w.heap.size → b ≠ L → some b ≠ mv.ownBlock → w'.heap[b]? = w.heap[b]?) ∧ (∀ g, mv'.ownBlock = some g → mv.ownBlock = some g ∨ w.heap.size ≤ g)

theorem owns_blk {w w' : World} {base n size : Nat} {e : TypeId} {v : Value} {xs : List Value} (h : w.ownsRow base e size v n xs) (hk : ∀ g, v.ownBlock = some g → w'.heap[g]? = w.heap[g]?) : w'.ownsRow base e size v n xs := by
  refine ⟨h.1, h.2.imp id ?_⟩
  rintro ⟨g, cap, cur, rfl, hbg, hblk, rest⟩
  exact ⟨g, cap, cur, rfl, hbg, (hk g (by simp [Value.ownBlock])).trans hblk, rest⟩

theorem E.fill_step (s : E.St) (lt : Bool) (y : Int) (r ma : List Int) (gd : Int) (x : E.Pl) (d : Bool) (hx : s.pl y = x) (hd : d = (decide ((ma.length : Int) < s.f.places) && (x.sgn || !lt) && (decide (gd < s.f.guards) || !x.grd))) :
    E.St.fill s lt (y :: r) ma gd = if d = true then E.St.fill s lt r (ma ++ [y]) (gd + E.one x.grd) else E.St.fill s lt r ma gd := by
  subst hx
  subst hd
  rw [E.St.fill]
  have e : ((decide ((ma.length : Int) < s.f.places) && ((s.pl y).sgn || !lt) && (decide (gd < s.f.guards) || !(s.pl y).grd)) = true) = ((ma.length : Int) < s.f.places ∧ ((s.pl y).sgn = true ∨ lt = false) ∧ (gd < s.f.guards ∨ (s.pl y).grd = false)) := by
    simp only [Bool.and_eq_true, Bool.or_eq_true, decide_eq_true_eq, Bool.not_eq_true', and_assoc]
  simp only [e]

set_option maxHeartbeats 6400000 in
set_option maxRecDepth 100000 in
theorem settle_any (base L B n : Nat) (s : E.St) (lt : Bool) (mv cv : Value) (w : World) (h : LAt w base L B n s mv cv) (ok : E.StOk s) (hbase : base ≤ w.heap.size) (hn : n ≤ 1000) (hml : s.main.length ≤ 800) (hpl : s.f.places ≤ 800) :
    Calls Try.prog 65 #[.pointer (some ⟨L, 0, none⟩), .bool lt] w (SettlePost base L B n s lt mv cv w) := by
  have HL := hide h
  have OK := hide ok
  have HN := hide hn
  have HML := hide hml
  have HPL := hide hpl
  have HBS := hide hbase
  clear h ok hn hml hpl hbase
  go_enter Try.func65, Try.ntmps65
  go_upto_region 1 with fail
  obtain ⟨w1, hw1⟩ : ∃ w1, (w.alloc (.cells #[.pointer (some ⟨L, 0, none⟩)] 71)).alloc (.cells #[.bool lt] 4) = w1 := ⟨_, rfl⟩
  have HB1 := hide (show Below w.heap.size w w1 by rw [← hw1]; (repeat' first | exact zbR _ _ | assumption | refine zbD ?_ | refine zbA ?_ ?_ _ | refine zbS ?_ ?_ _ | refine zbT ?_ (by assumption) ?_ | (simp; done) | (simp; omega) | omega))
  have HP := hide (show w1.heap[w.heap.size]? = some (.cells #[.pointer (some ⟨L, 0, none⟩)] 71 (0, 0)) by rw [← hw1]; exact (Below.heap_alloc _ _ _ (by first | (simp; done) | (simp; omega) | omega)).trans (World.alloc_heap_new _ _))
  have HQ := hide (show w1.heap[w.heap.size + 1]? = some (.cells #[.bool lt] 4 (0, 0)) by rw [← hw1]; exact (congrArg _ (by simp)).trans (World.alloc_heap_new _ _))
  rw [hw1]
  clear hw1
  obtain ⟨bl, hbl⟩ : ∃ bl, w.heap.size = bl := ⟨_, rfl⟩
  obtain ⟨bt, hbt⟩ : ∃ bt, w.heap.size + 1 = bt := ⟨_, rfl⟩
  have HBL := hide hbl
  have HBT := hide hbt
  rw [hbt] at HQ ⊢
  rw [hbl] at HP ⊢
  clear hbl hbt
  have HL1 := hide (HL.out.below HB1.out)
  obtain ⟨mA, mc, hmv⟩ := own_form HL1.out.main
  subst hmv
  refine set1 (fun _ _ d _ _ h => by cases d <;> exact h) base bl bt L B n _ mc mA s cv lt w1 HP.out HQ.out HL1.out OK.out (Nat.le_trans HBS.out HB1.out.size) (by have := HML.out; omega) _ _ _ _ _ _ _ _ _ _ _ _ _ _ _ _ _ _ _ _ _ _ _ _ _ _ _ _ _ _ _ _ _ _ _ _ _ _ _ _ _ _ _ _ _ _ _ _ _ _ _ _ _ _ _ _ _ _ _ _ _ _ _ _ _ _ _ _ _ _ _ _ _ _ _ _ _ _ _ _ _ _ _ _ _ _ _ _ _ _ _ _ _ _ _ _ _ _ _  ?_
  intro u10 u11 u12 u13 u14 u15 u16 u17 u18 mv2 w2 HL2 HK2 HB2 HO2
  obtain ⟨m2, hm2⟩ : ∃ m2, s.main.filter (fun k => lt && (s.pl k).entry) = m2 := ⟨_, rfl⟩
  have HM2 := hide hm2
  rw [hm2] at HL2
  obtain ⟨A2, c2, hmv2⟩ := own_form HL2.out.main
  subst hmv2
  have HP2 := hide ((HK2.out bl (blk_lt HP.out) (by have := HL.out.lt; have := HBL.out; omega) (fun e => row_ne HL1.out.main HP.out (by decide) e.symm)).trans HP.out)
  have HQ2 := hide ((HK2.out bt (blk_lt HQ.out) (by have := HL.out.lt; have := HBT.out; omega) (fun e => row_ne HL1.out.main HQ.out (by decide) e.symm)).trans HQ.out)
  have hlen : m2.length ≤ 800 := by
    rw [← HM2.out]
    exact Nat.le_trans (List.length_filter_le _ _) HML.out
  have HLEN := hide hlen
  clear hm2 hlen
  have k1 : w2.cell? ⟨bl, 0, none⟩ = some (.pointer (some ⟨L, 0, none⟩)) := (blk_cell HP2.out 0).trans rfl
  have k2 : w2.cell? ⟨L, 7, none⟩ = some (.slice A2 m2.length c2) := (HL2.out.c 7).trans rfl
  have k3 : w2.cell? ⟨L, 5, none⟩ = some (.map (some B)) := (HL2.out.c 5).trans rfl
  go_upto_region 4 with fail
  go_loop [4, 24] (fun g i => ∃ k : Nat, k ≤ m2.length ∧ i = .int .i64 k ∧ g = .int .i64 (s.guardsOf (m2.take k))) (fun _ i => m2.length - (intOf i).toNat)
  case atStart => exact ⟨0, by omega, rfl, by simp [E.St.guardsOf]⟩
  case round =>
    obtain ⟨k, hk, rfl, rfl⟩ := hrel
    have hml := HLEN.out
    by_cases hlt : k < m2.length
    · obtain ⟨y, hy⟩ : ∃ q, m2[k]? = some q := ⟨_, List.getElem?_eq_getElem hlt⟩
      have hmain := HL2.out.main
      obtain ⟨b, o, hA, hbB, c0⟩ := (owns_RdI hmain rfl) k y hy
      subst hA
      obtain ⟨x, hx⟩ : ∃ x, s.pl y = x := ⟨_, rfl⟩
      have hyr : 0 ≤ y ∧ y ≤ 999 := by
        have h1 : y ∈ m2 := List.mem_of_getElem? hy
        rw [← HM2.out] at h1
        exact OK.out.range y (OK.out.main y (List.mem_filter.1 h1).1)
      have hlk : (Instr.lookup 93 (.map (some B)) (.int .i64 y) false).run Try.prog w2 = .ok (.agg #[.bool x.ent, .bool x.grd, .bool x.card, .bool x.quit, .bool x.sgn, .int .i64 x.rank, .int .i64 x.turn]) w2 := by
        have := HL2.out.map.look Try.underlying93 zeroP hyr.1 hyr.2
        rw [show ({ s with main := m2 } : E.St).pl y = x from hx] at this
        exact this
      have hfl := fldGrd x.ent x.grd x.card x.quit x.sgn x.rank x.turn w2
      have hstep : s.guardsOf (m2.take (k + 1)) = s.guardsOf (m2.take k) + E.one x.grd := by
        unfold E.St.guardsOf
        rw [List.take_add_one, hy, List.map_append, List.sum_append]
        simp [hx]
      obtain ⟨gd, hgd⟩ : ∃ g, s.guardsOf (m2.take k) = g := ⟨_, rfl⟩
      have hgb := E.guards_bd s (m2.take k)
      rw [hgd] at hgb hstep ⊢
      have hgl : (m2.take k).length ≤ 800 := by rw [List.length_take]; omega
      obtain ⟨g0, g1⟩ := hgb
      have g2 : gd ≤ 800 := by omega
      obtain ⟨q, hq⟩ : ∃ q, E.one x.grd = q := ⟨_, rfl⟩
      have hqb : 0 ≤ q ∧ q ≤ 1 := by rw [← hq]; unfold E.one; split <;> omega
      obtain ⟨q0, q1⟩ := hqb
      have H1 := fun w => one_any x.grd w
      rw [hq] at hstep H1
      have HST := hide hstep
      have hlt' : (k : Int) < (m2.length : Int) := by omega
      have hk0 : (0 : Int) ≤ (k : Int) := by omega
      clear hgd hgl g1 hq hstep hy hmain hx hyr
      go_wp2_with (go_at_call 80; refine (H1 _).mono ?_; rintro e w' ⟨rfl, rfl⟩)
      go_round
      case rel => exact ⟨k + 1, by omega, by go_num, by rw [HST.out]⟩
      case measure => simp [intOf]; omega
    · have hkn : k = m2.length := by omega
      subst hkn
      rw [List.take_length]
      have OK2 : E.StOk { s with main := m2 } := ⟨OK.out.known, OK.out.range, OK.out.zero, OK.out.turn, OK.out.apart, fun k hk => by
        rw [← HM2.out] at hk
        exact OK.out.main k (List.mem_filter.1 hk).1, OK.out.cards⟩
      have HOK2 := hide OK2
      obtain ⟨gd0, hgd0⟩ : ∃ g, s.guardsOf m2 = g := ⟨_, rfl⟩
      have HGD := hide hgd0
      rw [hgd0]
      clear hgd0 OK2
      go_wp2_with (go_at_call 48; refine (alternates_any base L B n { s with main := m2 } (.slice A2 m2.length c2) cv w2 HL2.out HOK2.out HN.out (by show m2.length ≤ 1000; omega)).mono ?_; rintro e w3 ⟨Aa, ca, rfl, hoa, hba, hla⟩)
      have HLA := hide hla
      clear hla
      have HOA := hide hoa
      have HBA := hide hba
      clear hoa hba k1 k2 k3 hml hk hlt
      obtain ⟨al, hal⟩ : ∃ al, ({ s with main := m2 } : E.St).alts = al := ⟨_, rfl⟩
      have HAL := hide hal
      rw [hal] at HOA ⊢
      clear hal
      have HL3 := hide (HL2.out.below HBA.out)
      have HP3 := hide ((HBA.out.block bl (blk_lt HP2.out)).trans HP2.out)
      have HQ3 := hide ((HBA.out.block bt (blk_lt HQ2.out)).trans HQ2.out)
      go_loopw [4, 42] (fun g i wr => ∃ (k : Nat) (ma : List Int) (mv : Value) (gd : Int), k ≤ al.length ∧ i = .int .i64 k ∧ g = .int .i64 gd ∧ Hid (E.St.fill s lt (al.drop k) ma gd = E.St.fill s lt al m2 gd0) ∧ Hid (LAt wr base L B n { s with main := ma } mv cv) ∧ Hid (wr.heap[bl]? = some (.cells #[.pointer (some ⟨L, 0, none⟩)] 71 (0, 0))) ∧ Hid (wr.heap[bt]? = some (.cells #[.bool lt] 4 (0, 0))) ∧ Hid (wr.ownsRow w2.heap.size 3 1 (.slice Aa al.length ca) al.length (flatI al)) ∧ Hid (∀ g, mv.ownBlock = some g → (Value.slice Aa al.length ca).ownBlock ≠ some g) ∧ Hid (Below base w3 wr) ∧ ma.length ≤ m2.length + k ∧ (0 ≤ gd ∧ gd ≤ (m2.length : Int) + (k : Int)) ∧ Hid (∀ b, b < w3.heap.size → b ≠ L → some b ≠ (Value.slice A2 m2.length c2).ownBlock → wr.heap[b]? = w3.heap[b]?) ∧ Hid (∀ g, mv.ownBlock = some g → (Value.slice A2 m2.length c2).ownBlock = some g ∨ w3.heap.size ≤ g)) (fun _ i _ => al.length - (intOf i).toNat)
      case atStart =>
        have hg := E.guards_bd s m2
        rw [HGD.out] at hg
        exact ⟨0, m2, _, gd0, by omega, rfl, rfl, hide (by rw [List.drop_zero]), HL3, HP3, HQ3, HOA, hide (fun g hg1 hg2 => by
          have h1 := (HL2.out.main.lt g hg1).2
          have h2 := (HOA.out.lt g hg2).1
          omega), hide (Below.refl _ _), by omega, by omega, hide (fun _ _ _ _ => rfl), hide (fun _ h => .inl h)⟩
      case round =>
        obtain ⟨k, ma, mv, gd, hk, rfl, rfl, HF, HLr, HPr, HQr, HOr, HAP, HBr, hmal, hgd, HKr, HLC⟩ := hrel
        by_cases hlt : k < al.length
        · obtain ⟨y, hy⟩ : ∃ q, al[k]? = some q := ⟨_, List.getElem?_eq_getElem hlt⟩
          obtain ⟨b, o, hA, hbB, c0⟩ := (owns_RdI HOr.out rfl) k y hy
          subst hA
          obtain ⟨x, hx⟩ : ∃ x, s.pl y = x := ⟨_, rfl⟩
          have hyr : 0 ≤ y ∧ y ≤ 999 := by
            have h1 : y ∈ al := List.mem_of_getElem? hy
            rw [← HAL.out] at h1
            exact OK.out.range y (E.order_mem.1 (List.mem_filter.1 h1).1).1
          have hlk : (Instr.lookup 93 (.map (some B)) (.int .i64 y) false).run Try.prog wr = .ok (.agg #[.bool x.ent, .bool x.grd, .bool x.card, .bool x.quit, .bool x.sgn, .int .i64 x.rank, .int .i64 x.turn]) wr := by
            have := HLr.out.map.look Try.underlying93 zeroP hyr.1 hyr.2
            rw [show ({ s with main := ma } : E.St).pl y = x from hx] at this
            exact this
          have hdrop : al.drop k = y :: al.drop (k + 1) := by
            obtain ⟨hl, he⟩ := List.getElem?_eq_some_iff.1 hy
            rw [List.drop_eq_getElem_cons hl, he]
          have HDR := hide hdrop
          have HX := hide hx
          have k1 : wr.cell? ⟨bl, 0, none⟩ = some (.pointer (some ⟨L, 0, none⟩)) := (blk_cell HPr.out 0).trans rfl
          have k3 : wr.cell? ⟨L, 5, none⟩ = some (.map (some B)) := (HLr.out.c 5).trans rfl
          have hlt' : (k : Int) < (al.length : Int) := by omega
          have hla : al.length ≤ 1000 := by have := HLA.out; rw [HAL.out] at this; exact this
          have hk0 : (0 : Int) ≤ (k : Int) := by omega
          clear hdrop hx hy hyr
          go_upto_region 12 with fail
          obtain ⟨w4, hw4⟩ : ∃ w4, wr.alloc (.cells #[.bool x.ent, .bool x.grd, .bool x.card, .bool x.quit, .bool x.sgn, .int .i64 x.rank, .int .i64 x.turn] 112) = w4 := ⟨_, rfl⟩
          have HB4 := hide (show Below wr.heap.size wr w4 by rw [← hw4]; (repeat' first | exact zbR _ _ | assumption | refine zbD ?_ | refine zbA ?_ ?_ _ | refine zbS ?_ ?_ _ | refine zbT ?_ (by assumption) ?_ | (simp; done) | (simp; omega) | omega))
          have H9 := hide (show w4.heap[wr.heap.size]? = some (.cells #[.bool x.ent, .bool x.grd, .bool x.card, .bool x.quit, .bool x.sgn, .int .i64 x.rank, .int .i64 x.turn] 112 (0, 0)) by rw [← hw4]; exact World.alloc_heap_new _ _)
          rw [hw4]
          clear hw4 hlk k1 k3
          have HL4 := hide (HLr.out.below HB4.out)
          have HP4 := hide ((HB4.out.block bl (blk_lt HPr.out)).trans HPr.out)
          have HQ4 := hide ((HB4.out.block bt (blk_lt HQr.out)).trans HQr.out)
          obtain ⟨mA4, mc4, hmv4⟩ := own_form HL4.out.main
          subst hmv4
          obtain ⟨d, hd⟩ : ∃ d, d = (decide ((ma.length : Int) < s.f.places) && (x.sgn || !lt) && (decide (gd < s.f.guards) || !x.grd)) := ⟨_, rfl⟩
          have HD := hide hd
          refine set12 (fun _ _ d _ _ h => by cases d <;> exact h) base bl bt L B n ma.length mc4 wr.heap.size mA4 { s with main := ma } cv x lt gd d w4 HP4.out HQ4.out H9.out HL4.out hd _ _ _ _ _ _ _ _ _ _ _ _ _ _ _ _ _ _ _ _ _ _ _ _ _ _ _ _ _ _ _ _ _ _ _ _ _ _ _ _ _ _ _ _ _ _ _ _ _ _ _ _ _ _ _ _ _ _ _ _ _ _ _ _ _ _ _ _ _ _ _ _ _ _ _ _ _ _ _ _ _ _ _ _ _ _ _ _ _ _ _ _ _ _ _ _ _  ?_
          intro v52 v53 v54 v55 v56 v57 v58 v59 v60 v61 v62 v63 v64 v65 v66 v67 v68 v69 v70 v71 v72 v73 v74 v75 v76 v77 v78 v79 v80 v81 v82 v83 w5 HB5
          clear hd
          have HL5 := hide (HL4.out.below HB5.out)
          have HP5 := hide ((HB5.out.block bl (blk_lt HP4.out)).trans HP4.out)
          have HQ5 := hide ((HB5.out.block bt (blk_lt HQ4.out)).trans HQ4.out)
          have H95 := hide ((HB5.out.block _ (blk_lt H9.out)).trans H9.out)
          have HB45 := hide (HB4.out.trans (HB5.out.mono HB4.out.size))
          have HFS := hide ((congrArg (fun z => E.St.fill s lt z ma gd) HDR.out).trans (E.fill_step s lt y (al.drop (k + 1)) ma gd x d HX.out HD.out))
          have HBW := hide (show base ≤ wr.heap.size from Nat.le_trans (Nat.le_trans HBS.out (Nat.le_trans HB1.out.size (Nat.le_trans HB2.out.size HBA.out.size))) HBr.out.size)
          cases hdd : d
          · rw [hdd] at HFS
            have HF1 := hide (HFS.out.symm.trans HF.out)
            go_wp2_with fail
            go_roundw
            case rel => exact ⟨k + 1, ma, _, gd, by omega, by go_num, rfl, HF1, HL5, HP5, HQ5, hide (owns_below HOr.out HB45.out), HAP, hide (zbT HBr.out HB45.out HBW.out), by omega, by omega, hide (fun b hb h1 h2 => (HB45.out.block b (Nat.lt_of_lt_of_le hb HBr.out.size)).trans (HKr.out b hb h1 h2)), HLC⟩
            case measure => simp [intOf]; omega
          · rw [hdd] at HFS
            have HF1 := hide (HFS.out.symm.trans HF.out)
            go_upto_region 13 with fail
            have h900 : ma.length ≤ 900 := by
              have h1 := HD.out
              rw [hdd] at h1
              have h2 := h1.symm
              simp only [Bool.and_eq_true, decide_eq_true_eq] at h2
              have h3 := h2.1.1
              have h4 := HPL.out
              omega
            refine set13 (fun _ _ d _ _ h => by cases d <;> exact h) base bl L B n { s with main := ma } _ cv y w5 HP5.out HL5.out (Nat.le_trans HBW.out HB45.out.size) h900 _ _ _ _ _ _ _ _ _ _ _ _ _ _ _ _ _ _ _ _ _ _ _ _ _ _ _ _ _ _ _ _ _ _ _ _ _ _ _ _ _ _ _ _ _ _ _ _ _ _ _ _ _ _ _ _ _ _ _ _ _ _ _ _ _ _ _ _ _ _ _ _ _ _ _ _ _ _ _ _ _ _ _ _ _ _ _ _ _ _ _ _ _ _ _ _ _ _ _  ?_
            clear h900
            intro x85 x86 x87 x88 x89 x90 x91 x92 x93 x94 mv6 w6 HL6 HK6 HB6 HO6
            have h5L := HL5.out.lt
            have H96 := hide ((HK6.out _ (blk_lt H95.out) (by have := HLr.out.lt; omega) (fun e => row_ne HL5.out.main H95.out (by decide) e.symm)).trans H95.out)
            have HP6 := hide ((HK6.out bl (blk_lt HP5.out) (by have := HL.out.lt; have := HBL.out; omega) (fun e => row_ne HL5.out.main HP5.out (by decide) e.symm)).trans HP5.out)
            have HQ6 := hide ((HK6.out bt (blk_lt HQ5.out) (by have := HL.out.lt; have := HBT.out; omega) (fun e => row_ne HL5.out.main HQ5.out (by decide) e.symm)).trans HQ5.out)
            have HO5 := hide (owns_below HOr.out HB45.out)
            have HOR6 := hide (owns_blk HO5.out (fun g hg => HK6.out g (HO5.out.lt g hg).2 (by have h1 := (HOr.out.lt g hg).1; have h2 := HL2.out.lt; omega) (fun e => HAP.out g e.symm hg)))
            have HAP6 := hide (show ∀ g, mv6.ownBlock = some g → (Value.slice _ al.length ca).ownBlock ≠ some g from fun g hg1 hg2 => by
              rcases HO6.out g hg1 with h | h
              · exact HAP.out g h hg2
              · have h1 := (HO5.out.lt g hg2).2
                omega)
            have HBR6 := hide ((zbT HBr.out HB45.out HBW.out).trans HB6.out)
            have HKR6 := hide (show ∀ b, b < w3.heap.size → b ≠ L → some b ≠ (Value.slice A2 m2.length c2).ownBlock → w6.heap[b]? = w3.heap[b]? from fun b hb h1 h2 => by
              have hbr := Nat.lt_of_lt_of_le hb HBr.out.size
              refine (HK6.out b (Nat.lt_of_lt_of_le hbr HB45.out.size) h1 (fun e => ?_)).trans ((HB45.out.block b hbr).trans (HKr.out b hb h1 h2))
              rcases HLC.out b e.symm with h | h
              · exact h2 h.symm
              · omega)
            have HLC6 := hide (show ∀ g, mv6.ownBlock = some g → (Value.slice A2 m2.length c2).ownBlock = some g ∨ w3.heap.size ≤ g from fun g hg => by
              rcases HO6.out g hg with h | h
              · exact HLC.out g h
              · exact .inr (Nat.le_trans (Nat.le_trans HBr.out.size HB45.out.size) h))
            obtain ⟨q, hq⟩ : ∃ q, E.one x.grd = q := ⟨_, rfl⟩
            have hqb : 0 ≤ q ∧ q ≤ 1 := by rw [← hq]; unfold E.one; split <;> omega
            obtain ⟨q0, q1⟩ := hqb
            have H1 := fun w => one_any x.grd w
            rw [hq] at H1 HF1
            obtain ⟨gd1, gd2⟩ := hgd
            have gd3 : gd ≤ 1800 := by have := HLEN.out; omega
            have e9 : w6.cell? ⟨wr.heap.size, 1, none⟩ = some (.bool x.grd) := (blk_cell H96.out 1).trans rfl
            clear hq h5L
            go_wp2_with (go_at_call 80; refine (H1 _).mono ?_; rintro e w' ⟨rfl, rfl⟩)
            go_roundw
            case rel => exact ⟨k + 1, ma ++ [y], mv6, gd + q, by omega, by go_num, by go_num, HF1, HL6, HP6, HQ6, HOR6, HAP6, HBR6, by rw [List.length_append]; simp only [List.length_singleton]; omega, by omega, HKR6, HLC6⟩
            case measure => simp [intOf]; omega
        · have hkn : k = al.length := by omega
          subst hkn
          have hma : s.settle lt = { s with main := ma } := by
            have h1 := HF.out
            rw [List.drop_length] at h1
            have h2 : ma = E.St.fill s lt al m2 gd0 := h1
            rw [h2, ← HAL.out, ← HGD.out, ← HM2.out]
            rfl
          have HMA := hide hma
          clear hma
          go_wp2_with fail
          go_end0
          refine ⟨mv, rfl, by rw [HMA.out]; exact HLr.out, ?_, ?_, ?_⟩
          · have e1 : Below base w w1 := HB1.out.mono HBS.out
            have e2 : Below base w2 w3 := HBA.out.mono (Nat.le_trans HBS.out (Nat.le_trans HB1.out.size HB2.out.size))
            exact ((e1.trans HB2.out).trans e2).trans HBr.out
          · intro b hb h1 h2
            have hb1 : b < w1.heap.size := Nat.lt_of_lt_of_le hb HB1.out.size
            have hb2 : b < w2.heap.size := Nat.lt_of_lt_of_le hb1 HB2.out.size
            have hb3 : b < w3.heap.size := Nat.lt_of_lt_of_le hb2 HBA.out.size
            rw [HKr.out b hb3 h1 (by rw [HO2.out]; exact h2), HBA.out.block b hb2, HK2.out b hb1 h1 h2, HB1.out.block b hb]
          · intro g hg
            rcases HLC.out g hg with h | h
            · exact .inl (by rw [← HO2.out]; exact h)
            · exact .inr (Nat.le_trans (Nat.le_trans HB1.out.size (Nat.le_trans HB2.out.size HBA.out.size)) h)

end Go.Proofs.Ytobjahlmjcnfoaa

namespace Go.Proofs.Ytobjahlmjcnfoaa
open Go.RowKit Go.Sort

theorem wp_last {P : Program} {c : Code} {R : Exit → Act → World → Prop} {a : Act} {w : World} (h : Code.wp P c (Exit.then (fun a w => R .normal a w) R) a w) : Code.wp P c R a w := Code.wp_mono (fun e a w h => by cases e <;> exact h) h

def ntCells (x : E.Nt) : Array Value := #[.int .i64 x.id, .int .i64 x.hour, .int .i64 x.kind, .int .i64 x.player, .int .i64 x.rank]
def plCells (p : E.Pl) : Array Value := #[.bool p.ent, .bool p.grd, .bool p.card, .bool p.quit, .bool p.sgn, .int .i64 p.rank, .int .i64 p.turn]

structure Mid (w : World) (base L B n bx g : Nat) (x : E.Nt) (mv cv : Value) (s1 : E.St) (p1 : E.Pl) (cv1 : Value) (W : World) : Prop where
  l : LAt W base L B n s1 mv cv1
  hx : W.heap[bx]? = some (.cells (ntCells x) 40 (0, 0))
  hg : W.heap[g]? = some (.cells (plCells p1) 112 (0, 0))
  below : Below base w W
  blk : ∀ b, b < w.heap.size → b ≠ L → b ≠ B → some b ≠ mv.ownBlock → some b ≠ cv.ownBlock → W.heap[b]? = w.heap[b]?
  lbx : w.heap.size ≤ bx
  lg : w.heap.size ≤ g
  ne : bx ≠ g
  base0 : base ≤ w.heap.size
  hL : L < w.heap.size
  hB : B < w.heap.size
  cvo : ∀ b, cv1.ownBlock = some b → cv.ownBlock = some b ∨ w.heap.size ≤ b

section
variable {w W W' : World} {base L B n bx g : Nat} {x : E.Nt} {mv cv cv1 : Value} {s1 : E.St} {p1 p2 : E.Pl}
theorem Mid.baseW (h : Mid w base L B n bx g x mv cv s1 p1 cv1 W) : base ≤ W.heap.size := Nat.le_trans h.base0 h.below.size
theorem Mid.mono (h : Mid w base L B n bx g x mv cv s1 p1 cv1 W) (hb : Below W.heap.size W W') : Mid w base L B n bx g x mv cv s1 p1 cv1 W' :=
  ⟨h.l.below hb, (hb.block _ (blk_lt h.hx)).trans h.hx, (hb.block _ (blk_lt h.hg)).trans h.hg, zbT h.below hb h.baseW, fun b h0 h1 h2 h3 h4 => (hb.block b (Nat.lt_of_lt_of_le h0 h.below.size)).trans (h.blk b h0 h1 h2 h3 h4), h.lbx, h.lg, h.ne, h.base0, h.hL, h.hB, h.cvo⟩
theorem Mid.neL (h : Mid w base L B n bx g x mv cv s1 p1 cv1 W) : L ≠ g := by have := h.hL; have := h.lg; omega
theorem Mid.neB (h : Mid w base L B n bx g x mv cv s1 p1 cv1 W) : g ≠ B := by have := h.hB; have := h.lg; omega
theorem Mid.nxL (h : Mid w base L B n bx g x mv cv s1 p1 cv1 W) : bx ≠ L := by have := h.hL; have := h.lbx; omega
theorem Mid.nxB (h : Mid w base L B n bx g x mv cv s1 p1 cv1 W) : bx ≠ B := by have := h.hB; have := h.lbx; omega
theorem Mid.grownG (h : Mid w base L B n bx g x mv cv s1 p1 cv1 W) (hg : W.grownBy W' (some g)) (hc : W'.heap[g]? = some (.cells (plCells p2) 112 (0, 0))) : Mid w base L B n bx g x mv cv s1 p2 cv1 W' :=
  ⟨h.l.grown hg h.neL.symm h.neB (row_ne h.l.main h.hg (by decide)) (row_ne h.l.cards h.hg (by decide)), (hg.block _ (blk_lt h.hx) (fun e => h.ne (Option.some.inj e))).trans h.hx, hc,
    h.below.trans (grown_below hg h.baseW (fun g' e => by have e1 := Option.some.inj e; subst e1; have := h.lg; have := h.base0; omega)),
    fun b h0 h1 h2 h3 h4 => (hg.block b (Nat.lt_of_lt_of_le h0 h.below.size) (fun e => by have e1 := Option.some.inj e; have := h.lg; omega)).trans (h.blk b h0 h1 h2 h3 h4), h.lbx, h.lg, h.ne, h.base0, h.hL, h.hB, h.cvo⟩
theorem Mid.setG (h : Mid w base L B n bx g x mv cv s1 p1 cv1 W) (i : Nat) (v : Value) (hc : (plCells p1).setIfInBounds i v = plCells p2) : Mid w base L B n bx g x mv cv s1 p2 cv1 (W.setCell ⟨g, i, none⟩ v) :=
  h.grownG (gr_set _ _ _ _) (by rw [blk_set h.hg i v, hc])
theorem Mid.setL {s2 : E.St} {i : Nat} {v : Value} (h : Mid w base L B n bx g x mv cv s1 p1 cv1 W) (hl : LAt (W.setCell ⟨L, i, none⟩ v) base L B n s2 mv cv1) : Mid w base L B n bx g x mv cv s2 p1 cv1 (W.setCell ⟨L, i, none⟩ v) :=
  ⟨hl, blk_other h.hx h.nxL i v, blk_other h.hg h.neL.symm i v, h.below.setCell (p := ⟨L, i, none⟩) h.l.lowL v,
    fun b h0 h1 h2 h3 h4 => (Below.heap_setCell W ⟨L, i, none⟩ v b h1).trans (h.blk b h0 h1 h2 h3 h4), h.lbx, h.lg, h.ne, h.base0, h.hL, h.hB, h.cvo⟩
theorem Mid.setC {s2 : E.St} {cv2 : Value} (h : Mid w base L B n bx g x mv cv s1 p1 cv1 W) (hl : LAt W' base L B n s2 mv cv2) (hk : ∀ b, b < W.heap.size → b ≠ L → some b ≠ cv1.ownBlock → W'.heap[b]? = W.heap[b]?) (hb : Below base W W') (ho : ∀ b, cv2.ownBlock = some b → cv1.ownBlock = some b ∨ W.heap.size ≤ b) : Mid w base L B n bx g x mv cv s2 p1 cv2 W' :=
  ⟨hl, (hk bx (blk_lt h.hx) h.nxL (fun e => row_ne h.l.cards h.hx (by decide) e.symm)).trans h.hx, (hk g (blk_lt h.hg) h.neL.symm (fun e => row_ne h.l.cards h.hg (by decide) e.symm)).trans h.hg, h.below.trans hb,
    fun b h0 h1 h2 h3 h4 => (hk b (Nat.lt_of_lt_of_le h0 h.below.size) h1 (fun e => by
      rcases h.cvo b e.symm with h5 | h5
      · exact h4 h5.symm
      · omega)).trans (h.blk b h0 h1 h2 h3 h4), h.lbx, h.lg, h.ne, h.base0, h.hL, h.hB,
    fun b e => by
      rcases ho b e with h1 | h1
      · exact h.cvo b h1
      · exact .inr (Nat.le_trans h.below.size h1)⟩

def TakePost (base L B n : Nat) (s : E.St) (x : E.Nt) (mv cv : Value) (w : World) (e : Ending) (w' : World) : Prop := ∃ mv' cv', e = .returned (.tuple #[]) ∧ LAt w' base L B (n + 1) (s.take x) mv' cv' ∧ Below base w w' ∧ (∀ b, b < w.heap.size → b ≠ L → b ≠ B → some b ≠ mv.ownBlock → some b ≠ cv.ownBlock → w'.heap[b]? = w.heap[b]?)

theorem take_fin {s : E.St} {W8 w9 : World} {mv9 : Value} (h : Mid w base L B n bx g x mv cv s1 p1 cv1 W) (hg8 : W.grownBy W8 (some B)) (hl : LAt w9 base L B (n + 1) ((s.said x).settle (E.late s.f x.hour)) mv9 cv1) (hb : Below base W8 w9)
    (hk : ∀ b, b < W8.heap.size → b ≠ L → some b ≠ mv.ownBlock → w9.heap[b]? = W8.heap[b]?) : TakePost base L B n s x mv cv w (.returned (.tuple #[])) w9 := by
  refine ⟨mv9, cv1, rfl, hl, ?_, ?_⟩
  · exact (h.below.trans (grown_below hg8 h.baseW (fun g' e => by have e1 := Option.some.inj e; subst e1; exact h.l.lowB))).trans hb
  · intro b h0 h1 h2 h3 h4
    have h5 := Nat.lt_of_lt_of_le h0 h.below.size
    rw [hk b (Nat.lt_of_lt_of_le h5 hg8.size) h1 h3, hg8.block b h5 (fun e => h2 (Option.some.inj e)), h.blk b h0 h1 h2 h3 h4]
end
end Go.Proofs.Ytobjahlmjcnfoaa

namespace Go.Proofs.Ytobjahlmjcnfoaa
open Go.RowKit Go.Sort
attribute [local go_sem ↓] Go.wp_at_zero Go.wp_at_succ

set_option maxRecDepth 100000 in
set_option maxHeartbeats 64000000 in
theorem take_any (base L B n k : Nat) (s : E.St) (mv cv : Value) (x : E.Nt) (w : World) (h : LAt w base L B n s mv cv) (ok : E.StOk s) (bd : E.Bd k s) (hk : k ≤ 400) (hbase : base ≤ w.heap.size) (hn : n ≤ 500) (hx0 : 0 ≤ x.player) (hx1 : x.player ≤ 999) :
    Calls Try.prog 46 #[.pointer (some ⟨L, 0, none⟩), .agg #[.int .i64 x.id, .int .i64 x.hour, .int .i64 x.kind, .int .i64 x.player, .int .i64 x.rank]] w (TakePost base L B n s x mv cv w) := by
  have HL := hide h
  have HB0 := hide bd
  have HK0 := hide hk
  have HBD := hide (E.said_bd bd x)
  have HOK := hide (E.said_ok ok x ⟨hx0, hx1⟩ bd.turns0).1
  have HBS := hide hbase
  have HN := hide hn
  have HX0 := hide hx0
  have HX1 := hide hx1
  clear h ok bd hk hbase hn hx0 hx1
  go_enter Try.func46, Try.ntmps46
  go_upto_region 1 with fail
  obtain ⟨w0, hw0⟩ : ∃ w0, w.alloc (.cells #[.int .i64 x.id, .int .i64 x.hour, .int .i64 x.kind, .int .i64 x.player, .int .i64 x.rank] 40) = w0 := ⟨_, rfl⟩
  have HB00 := hide (show Below w.heap.size w w0 by rw [← hw0]; (repeat' first | exact zbR _ _ | assumption | refine zbD ?_ | refine zbA ?_ ?_ _ | refine zbS ?_ ?_ _ | refine zbT ?_ (by assumption) ?_ | (simp; done) | (simp; omega) | omega))
  have HX00 := hide (show w0.heap[w.heap.size]? = some (.cells #[.int .i64 x.id, .int .i64 x.hour, .int .i64 x.kind, .int .i64 x.player, .int .i64 x.rank] 40 (0, 0)) by rw [← hw0]; exact World.alloc_heap_new _ _)
  rw [hw0]
  clear hw0
  obtain ⟨bx, hbx⟩ : ∃ bx, w.heap.size = bx := ⟨_, rfl⟩
  have HBX := hide hbx
  rw [hbx] at HX00 ⊢
  clear hbx
  have HL0 := hide (HL.out.below HB00.out)
  refine take1 (fun _ _ d _ _ h => by cases d <;> exact h) base bx L B n s mv cv x w0 HX00.out HL0.out HX0.out HX1.out _ _ _ _ _ _ _ _ _ _ _ _ _ _ _ _ _ _ _ _ _ _ _ _ _ _ _ _ _ _ _ _ _ _ _ _ _ _ _ _ _ _ _ _ _ _ _ _ _ _ _ _ _ _ _ _ _ _ _ _ _ _ _ _ _ _ _ _ _ _ _ _ _ _ _ _ _ _ _ _ _ _ _ _ _ _ _ _ _ _ _ _ _ _ _ _ _ _ _ _ _ _ _ _ _ _ _ _ _ _ _ _ _ _ _ _ _ _ _ _ _ _ _ _ _ _ _ _ _ _ _ _ _ _ _ _ _ _ _ _  ?_
  intro v5 v6 v7 v8 v9 v10 v11 g W2 HG2 HGL HB2
  have M2 : Hid (Mid w base L B n bx g x mv cv s (s.pl x.player) cv W2) := hide ⟨HL0.out.below HB2.out, (HB2.out.block bx (blk_lt HX00.out)).trans HX00.out, HG2.out, zbT (HB00.out.mono HBS.out) HB2.out (Nat.le_trans HBS.out HB00.out.size), fun b h0 _ _ _ _ => (HB2.out.block b (Nat.lt_of_lt_of_le h0 HB00.out.size)).trans (HB00.out.block b h0), (by rw [HBX.out]; exact Nat.le_refl _), Nat.le_trans HB00.out.size HGL.out, (by have := blk_lt HX00.out; have := HGL.out; omega), HBS.out, HL.out.lt, HL.out.map.lt, fun b e => .inl e⟩
  clear HB00 HX00 HBX HL0 HG2 HGL HB2
  have k2 : W2.cell? ⟨bx, 2, none⟩ = some (.int .i64 x.kind) := (blk_cell M2.out.hx 2).trans rfl
  by_cases h1 : x.kind = 1
  · have HKD := hide h1
    have d1 : (x.kind == 1) = true := by rw [h1]; rfl
    clear h1
    go_upto_region 5 with fail
    obtain ⟨d, hd⟩ : ∃ d, d = (decide (x.hour ≤ s.f.close) && !(s.pl x.player).ent) := ⟨_, rfl⟩
    have HD := hide hd
    refine take5 (fun _ _ d _ _ h => by cases d <;> exact h) base bx L B n g s mv cv x (s.pl x.player) d W2 M2.out.hx M2.out.l M2.out.hg hd _ _ _ _ _ _ _ _ _ _ _ _ _ _ _ _ _ _ _ _ _ _ _ _ _ _ _ _ _ _ _ _ _ _ _ _ _ _ _ _ _ _ _ _ _ _ _ _ _ _ _ _ _ _ _ _ _ _ _ _ _ _ _ _ _ _ _ _ _ _ _ _ _ _ _ _ _ _ _ _ _ _ _ _ _ _ _ _ _ _ _ _ _ _ _ _ _ _ _ _ _ _ _ _ _ _ _ _ _ _ _ _ _ _ _ _ _ _ _ _ _ _ _ _ _ _ _ _ _ _ _ _ _ _ _ _ _ _ _  ?_
    clear hd k2
    intro v17 v18 v19 v20 v21 v22 v23 v24 v25 v26 v27 v28 W5 HB5
    have M5 := hide (M2.out.mono HB5.out)
    clear HB5
    cases hdd : d
    · go_upto_region 19 with fail
      have SAID := hide (show E.St.put (s) x.player (s.pl x.player) = s.said x by (have h1 := HD.out; rw [hdd] at h1; have h2 : ¬(x.hour ≤ s.f.close ∧ (s.pl x.player).ent = false) := (by rintro ⟨h3, h4⟩; rw [decide_eq_true h3, h4] at h1; cases h1); unfold E.St.said; dsimp only; rw [if_pos (.inl HKD.out), if_neg h2]))
      refine take19 (fun _ _ d _ _ h => by cases d <;> exact h) base bx L B n g (s) mv cv x (s.pl x.player) W5 M5.out.hx M5.out.l M5.out.hg (by have := HN.out; omega) HX0.out HX1.out _ _ _ _ _ _ _ _ _ _ _ _ _ _ _ _ _ _ _ _ _ _ _ _ _ _ _ _ _ _ _ _ _ _ _ _ _ _ _ _ _ _ _ _ _ _ _ _ _ _ _ _ _ _ _ _ _ _ _ _ _ _ _ _ _ _ _ _ _ _ _ _ _ _ _ _ _ _ _ _ _ _ _ _ _ _ _ _ _ _ _ _ _ _ _ _ _ _ _ _ _ _ _ _ _ _ _ _ _ _ _ _ _ _ _ _ _ _ _ _ _ _ _ _ _ _ _ _ _ _ _ _ _ _ _ _ _ _ _  ?_
      intro y129 y130 y131 y132 y133 y134 y135 W8 HL8 HK8
      rw [SAID.out] at HL8
      have HX8 := hide ((HK8.out.block bx (blk_lt M5.out.hx) (fun e => M5.out.nxB (Option.some.inj e))).trans M5.out.hx)
      have z1 : W8.cell? ⟨bx, 1, none⟩ = some (.int .i64 x.hour) := (blk_cell HX8.out 1).trans rfl
      have z2 : W8.cell? ⟨L, 4, none⟩ = some (.int .i64 s.f.freeze) := (HL8.out.c 4).trans (by rw [← E.said_freeze s x]; rfl)
      have HB8 := hide (Nat.le_trans M5.out.baseW HK8.out.size)
      go_wp2_with (first | (go_at_call 62; refine (late_any s.f L x.hour _ z2).mono ?_; rintro e w' ⟨rfl, rfl⟩) | (go_at_call 65; refine (settle_any base L B (n + 1) (s.said x) (E.late s.f x.hour) mv cv W8 HL8.out HOK.out HB8.out (by have := HN.out; omega) (by have := HBD.out.main; have := HK0.out; omega) (by have := HBD.out.places; have := HK0.out; omega)).mono ?_; rintro e w9 ⟨mv9, rfl, hl9, hb9, hk9, -⟩))
      go_end0
      exact take_fin M5.out HK8.out hl9 hb9 hk9
    · go_upto_region 6 with fail
      refine take6 (fun _ _ d _ _ h => by cases d <;> exact h) base bx L B n g s mv cv x (s.pl x.player) W5 M5.out.hx M5.out.l M5.out.hg M5.out.ne M5.out.neL _ _ _ _ _ _ _ _ _ _ _ _ _ _ _ _ _ _ _ _ _ _ _ _ _ _ _ _ _ _ _ _ _ _ _ _ _ _ _ _ _ _ _ _ _ _ _ _ _ _ _ _ _ _ _ _ _ _ _ _ _ _ _ _ _ _ _ _ _ _ _ _ _ _ _ _ _ _ _ _ _ _ _ _ _ _ _ _ _ _ _ _ _ _ _ _ _ _ _ _ _ _ _ _ _ _ _ _ _ _ _ _ _ _ _ _ _ _ _ _ _ _ _ _ _ _ _ _ _ _ _ _ _ _ _ _ _ _ _  ?_
      intro v30 v31 v32 v33 v34 v35 v36 v37 v38 v39 v40 v41 v42 W6 HG6 HR6
      have M6 := hide (M5.out.grownG (p2 := { s.pl x.player with ent := true, grd := decide (x.kind = 2), rank := x.rank, turn := s.turns }) HR6.out HG6.out)
      clear HG6 HR6
      have k6 : W6.cell? ⟨L, 6, none⟩ = some (.int .i64 s.turns) := (M6.out.l.c 6).trans rfl
      have f6 := blk_frozen M6.out.l.blk 6
      have tu0 := HB0.out.turns0
      have tu3 : s.turns ≤ 500 := by have := HB0.out.turns; have := HK0.out; omega
      go_upto_region 19 with fail
      obtain ⟨W7, hW7⟩ : ∃ W', W6.setCell ⟨L, 6, none⟩ (.int .i64 (s.turns + 1)) = W' := ⟨_, rfl⟩
      have M7 := hide (M6.out.setL (M6.out.l.setTurns (s.turns + 1)))
      rw [hW7] at M7 ⊢
      clear hW7
      clear k6 f6 tu0 tu3
      have SAID := hide (show E.St.put ({ s with turns := s.turns + 1 }) x.player ({ s.pl x.player with ent := true, grd := decide (x.kind = 2), rank := x.rank, turn := s.turns }) = s.said x by (have h1 := HD.out; rw [hdd] at h1; have h2 : x.hour ≤ s.f.close ∧ (s.pl x.player).ent = false := (by have h3 := h1.symm; simpa only [Bool.and_eq_true, Bool.not_eq_true', decide_eq_true_eq] using h3); unfold E.St.said; dsimp only; rw [if_pos (.inl HKD.out), if_pos h2]))
      refine take19 (fun _ _ d _ _ h => by cases d <;> exact h) base bx L B n g ({ s with turns := s.turns + 1 }) mv cv x ({ s.pl x.player with ent := true, grd := decide (x.kind = 2), rank := x.rank, turn := s.turns }) W7 M7.out.hx M7.out.l M7.out.hg (by have := HN.out; omega) HX0.out HX1.out _ _ _ _ _ _ _ _ _ _ _ _ _ _ _ _ _ _ _ _ _ _ _ _ _ _ _ _ _ _ _ _ _ _ _ _ _ _ _ _ _ _ _ _ _ _ _ _ _ _ _ _ _ _ _ _ _ _ _ _ _ _ _ _ _ _ _ _ _ _ _ _ _ _ _ _ _ _ _ _ _ _ _ _ _ _ _ _ _ _ _ _ _ _ _ _ _ _ _ _ _ _ _ _ _ _ _ _ _ _ _ _ _ _ _ _ _ _ _ _ _ _ _ _ _ _ _ _ _ _ _ _ _ _ _ _ _ _ _  ?_
      intro y129 y130 y131 y132 y133 y134 y135 W8 HL8 HK8
      rw [SAID.out] at HL8
      have HX8 := hide ((HK8.out.block bx (blk_lt M7.out.hx) (fun e => M7.out.nxB (Option.some.inj e))).trans M7.out.hx)
      have z1 : W8.cell? ⟨bx, 1, none⟩ = some (.int .i64 x.hour) := (blk_cell HX8.out 1).trans rfl
      have z2 : W8.cell? ⟨L, 4, none⟩ = some (.int .i64 s.f.freeze) := (HL8.out.c 4).trans (by rw [← E.said_freeze s x]; rfl)
      have HB8 := hide (Nat.le_trans M7.out.baseW HK8.out.size)
      go_wp2_with (first | (go_at_call 62; refine (late_any s.f L x.hour _ z2).mono ?_; rintro e w' ⟨rfl, rfl⟩) | (go_at_call 65; refine (settle_any base L B (n + 1) (s.said x) (E.late s.f x.hour) mv cv W8 HL8.out HOK.out HB8.out (by have := HN.out; omega) (by have := HBD.out.main; have := HK0.out; omega) (by have := HBD.out.places; have := HK0.out; omega)).mono ?_; rintro e w9 ⟨mv9, rfl, hl9, hb9, hk9, -⟩))
      go_end0
      exact take_fin M7.out HK8.out hl9 hb9 hk9
  by_cases h2 : x.kind = 2
  · have HKD := hide h2
    have d1 : (x.kind == 1) = false := by rw [h2]; rfl
    have d2 : (x.kind == 2) = true := by rw [h2]; rfl
    clear h2
    clear h1
    go_upto_region 5 with fail
    obtain ⟨d, hd⟩ : ∃ d, d = (decide (x.hour ≤ s.f.close) && !(s.pl x.player).ent) := ⟨_, rfl⟩
    have HD := hide hd
    refine take5 (fun _ _ d _ _ h => by cases d <;> exact h) base bx L B n g s mv cv x (s.pl x.player) d W2 M2.out.hx M2.out.l M2.out.hg hd _ _ _ _ _ _ _ _ _ _ _ _ _ _ _ _ _ _ _ _ _ _ _ _ _ _ _ _ _ _ _ _ _ _ _ _ _ _ _ _ _ _ _ _ _ _ _ _ _ _ _ _ _ _ _ _ _ _ _ _ _ _ _ _ _ _ _ _ _ _ _ _ _ _ _ _ _ _ _ _ _ _ _ _ _ _ _ _ _ _ _ _ _ _ _ _ _ _ _ _ _ _ _ _ _ _ _ _ _ _ _ _ _ _ _ _ _ _ _ _ _ _ _ _ _ _ _ _ _ _ _ _ _ _ _ _ _ _ _  ?_
    clear hd k2
    intro v17 v18 v19 v20 v21 v22 v23 v24 v25 v26 v27 v28 W5 HB5
    have M5 := hide (M2.out.mono HB5.out)
    clear HB5
    cases hdd : d
    · go_upto_region 19 with fail
      have SAID := hide (show E.St.put (s) x.player (s.pl x.player) = s.said x by (have h1 := HD.out; rw [hdd] at h1; have h2 : ¬(x.hour ≤ s.f.close ∧ (s.pl x.player).ent = false) := (by rintro ⟨h3, h4⟩; rw [decide_eq_true h3, h4] at h1; cases h1); unfold E.St.said; dsimp only; rw [if_pos (.inr HKD.out), if_neg h2]))
      refine take19 (fun _ _ d _ _ h => by cases d <;> exact h) base bx L B n g (s) mv cv x (s.pl x.player) W5 M5.out.hx M5.out.l M5.out.hg (by have := HN.out; omega) HX0.out HX1.out _ _ _ _ _ _ _ _ _ _ _ _ _ _ _ _ _ _ _ _ _ _ _ _ _ _ _ _ _ _ _ _ _ _ _ _ _ _ _ _ _ _ _ _ _ _ _ _ _ _ _ _ _ _ _ _ _ _ _ _ _ _ _ _ _ _ _ _ _ _ _ _ _ _ _ _ _ _ _ _ _ _ _ _ _ _ _ _ _ _ _ _ _ _ _ _ _ _ _ _ _ _ _ _ _ _ _ _ _ _ _ _ _ _ _ _ _ _ _ _ _ _ _ _ _ _ _ _ _ _ _ _ _ _ _ _ _ _ _  ?_
      intro y129 y130 y131 y132 y133 y134 y135 W8 HL8 HK8
      rw [SAID.out] at HL8
      have HX8 := hide ((HK8.out.block bx (blk_lt M5.out.hx) (fun e => M5.out.nxB (Option.some.inj e))).trans M5.out.hx)
      have z1 : W8.cell? ⟨bx, 1, none⟩ = some (.int .i64 x.hour) := (blk_cell HX8.out 1).trans rfl
      have z2 : W8.cell? ⟨L, 4, none⟩ = some (.int .i64 s.f.freeze) := (HL8.out.c 4).trans (by rw [← E.said_freeze s x]; rfl)
      have HB8 := hide (Nat.le_trans M5.out.baseW HK8.out.size)
      go_wp2_with (first | (go_at_call 62; refine (late_any s.f L x.hour _ z2).mono ?_; rintro e w' ⟨rfl, rfl⟩) | (go_at_call 65; refine (settle_any base L B (n + 1) (s.said x) (E.late s.f x.hour) mv cv W8 HL8.out HOK.out HB8.out (by have := HN.out; omega) (by have := HBD.out.main; have := HK0.out; omega) (by have := HBD.out.places; have := HK0.out; omega)).mono ?_; rintro e w9 ⟨mv9, rfl, hl9, hb9, hk9, -⟩))
      go_end0
      exact take_fin M5.out HK8.out hl9 hb9 hk9
    · go_upto_region 6 with fail
      refine take6 (fun _ _ d _ _ h => by cases d <;> exact h) base bx L B n g s mv cv x (s.pl x.player) W5 M5.out.hx M5.out.l M5.out.hg M5.out.ne M5.out.neL _ _ _ _ _ _ _ _ _ _ _ _ _ _ _ _ _ _ _ _ _ _ _ _ _ _ _ _ _ _ _ _ _ _ _ _ _ _ _ _ _ _ _ _ _ _ _ _ _ _ _ _ _ _ _ _ _ _ _ _ _ _ _ _ _ _ _ _ _ _ _ _ _ _ _ _ _ _ _ _ _ _ _ _ _ _ _ _ _ _ _ _ _ _ _ _ _ _ _ _ _ _ _ _ _ _ _ _ _ _ _ _ _ _ _ _ _ _ _ _ _ _ _ _ _ _ _ _ _ _ _ _ _ _ _ _ _ _ _  ?_
      intro v30 v31 v32 v33 v34 v35 v36 v37 v38 v39 v40 v41 v42 W6 HG6 HR6
      have M6 := hide (M5.out.grownG (p2 := { s.pl x.player with ent := true, grd := decide (x.kind = 2), rank := x.rank, turn := s.turns }) HR6.out HG6.out)
      clear HG6 HR6
      have k6 : W6.cell? ⟨L, 6, none⟩ = some (.int .i64 s.turns) := (M6.out.l.c 6).trans rfl
      have f6 := blk_frozen M6.out.l.blk 6
      have tu0 := HB0.out.turns0
      have tu3 : s.turns ≤ 500 := by have := HB0.out.turns; have := HK0.out; omega
      go_upto_region 19 with fail
      obtain ⟨W7, hW7⟩ : ∃ W', W6.setCell ⟨L, 6, none⟩ (.int .i64 (s.turns + 1)) = W' := ⟨_, rfl⟩
      have M7 := hide (M6.out.setL (M6.out.l.setTurns (s.turns + 1)))
      rw [hW7] at M7 ⊢
      clear hW7
      clear k6 f6 tu0 tu3
      have SAID := hide (show E.St.put ({ s with turns := s.turns + 1 }) x.player ({ s.pl x.player with ent := true, grd := decide (x.kind = 2), rank := x.rank, turn := s.turns }) = s.said x by (have h1 := HD.out; rw [hdd] at h1; have h2 : x.hour ≤ s.f.close ∧ (s.pl x.player).ent = false := (by have h3 := h1.symm; simpa only [Bool.and_eq_true, Bool.not_eq_true', decide_eq_true_eq] using h3); unfold E.St.said; dsimp only; rw [if_pos (.inr HKD.out), if_pos h2]))
      refine take19 (fun _ _ d _ _ h => by cases d <;> exact h) base bx L B n g ({ s with turns := s.turns + 1 }) mv cv x ({ s.pl x.player with ent := true, grd := decide (x.kind = 2), rank := x.rank, turn := s.turns }) W7 M7.out.hx M7.out.l M7.out.hg (by have := HN.out; omega) HX0.out HX1.out _ _ _ _ _ _ _ _ _ _ _ _ _ _ _ _ _ _ _ _ _ _ _ _ _ _ _ _ _ _ _ _ _ _ _ _ _ _ _ _ _ _ _ _ _ _ _ _ _ _ _ _ _ _ _ _ _ _ _ _ _ _ _ _ _ _ _ _ _ _ _ _ _ _ _ _ _ _ _ _ _ _ _ _ _ _ _ _ _ _ _ _ _ _ _ _ _ _ _ _ _ _ _ _ _ _ _ _ _ _ _ _ _ _ _ _ _ _ _ _ _ _ _ _ _ _ _ _ _ _ _ _ _ _ _ _ _ _ _  ?_
      intro y129 y130 y131 y132 y133 y134 y135 W8 HL8 HK8
      rw [SAID.out] at HL8
      have HX8 := hide ((HK8.out.block bx (blk_lt M7.out.hx) (fun e => M7.out.nxB (Option.some.inj e))).trans M7.out.hx)
      have z1 : W8.cell? ⟨bx, 1, none⟩ = some (.int .i64 x.hour) := (blk_cell HX8.out 1).trans rfl
      have z2 : W8.cell? ⟨L, 4, none⟩ = some (.int .i64 s.f.freeze) := (HL8.out.c 4).trans (by rw [← E.said_freeze s x]; rfl)
      have HB8 := hide (Nat.le_trans M7.out.baseW HK8.out.size)
      go_wp2_with (first | (go_at_call 62; refine (late_any s.f L x.hour _ z2).mono ?_; rintro e w' ⟨rfl, rfl⟩) | (go_at_call 65; refine (settle_any base L B (n + 1) (s.said x) (E.late s.f x.hour) mv cv W8 HL8.out HOK.out HB8.out (by have := HN.out; omega) (by have := HBD.out.main; have := HK0.out; omega) (by have := HBD.out.places; have := HK0.out; omega)).mono ?_; rintro e w9 ⟨mv9, rfl, hl9, hb9, hk9, -⟩))
      go_end0
      exact take_fin M7.out HK8.out hl9 hb9 hk9
  by_cases h3 : x.kind = 3
  · have HKD := hide h3
    have d1 : (x.kind == 1) = false := by rw [h3]; rfl
    have d2 : (x.kind == 2) = false := by rw [h3]; rfl
    have d3 : (x.kind == 3) = true := by rw [h3]; rfl
    clear h3
    clear h1 h2
    obtain ⟨cA, cc, hcv⟩ := own_form HL.out.cards
    subst hcv
    go_upto_region 9 with fail
    obtain ⟨d, hd⟩ : ∃ d, d = (!(E.late s.f x.hour) && !(s.pl x.player).card && !(s.pl x.player).quit && decide ((s.cards.length : Int) < s.f.wilds)) := ⟨_, rfl⟩
    have HD := hide hd
    refine take9 (fun _ _ d _ _ h => by cases d <;> exact h) base bx L B n g s.cards.length cc cA s mv x (s.pl x.player) d W2 M2.out.hx M2.out.l M2.out.hg hd _ _ _ _ _ _ _ _ _ _ _ _ _ _ _ _ _ _ _ _ _ _ _ _ _ _ _ _ _ _ _ _ _ _ _ _ _ _ _ _ _ _ _ _ _ _ _ _ _ _ _ _ _ _ _ _ _ _ _ _ _ _ _ _ _ _ _ _ _ _ _ _ _ _ _ _ _ _ _ _ _ _ _ _ _ _ _ _ _ _ _ _ _ _ _ _ _ _ _ _ _ _ _ _ _ _ _ _ _ _ _ _ _ _ _ _ _ _ _ _ _ _ _ _ _ _ _ _ _ _ _ _ _ _ _ _ _ _ _  ?_
    clear hd k2
    intro v52 v53 v54 v55 v56 v57 v58 v59 v60 v61 v62 v63 v64 v65 v66 v67 v68 v69 v70 v71 v72 v73 v74 v75 v76 v77 v78 W5 HB5
    have M5 := hide (M2.out.mono HB5.out)
    clear HB5
    cases hdd : d
    · go_upto_region 19 with fail
      have SAID := hide (show E.St.put (s) x.player (s.pl x.player) = s.said x by (have h1 := HD.out; rw [hdd] at h1; have h2 : ¬(E.late s.f x.hour = false ∧ (s.pl x.player).card = false ∧ (s.pl x.player).quit = false ∧ (s.cards.length : Int) < s.f.wilds) := (by rintro ⟨h3, h4, h5, h6⟩; rw [h3, h4, h5, decide_eq_true h6] at h1; cases h1); unfold E.St.said; dsimp only; rw [if_neg (by rw [HKD.out]; decide), if_pos HKD.out, if_neg h2]))
      refine take19 (fun _ _ d _ _ h => by cases d <;> exact h) base bx L B n g (s) mv (.slice cA s.cards.length cc) x (s.pl x.player) W5 M5.out.hx M5.out.l M5.out.hg (by have := HN.out; omega) HX0.out HX1.out _ _ _ _ _ _ _ _ _ _ _ _ _ _ _ _ _ _ _ _ _ _ _ _ _ _ _ _ _ _ _ _ _ _ _ _ _ _ _ _ _ _ _ _ _ _ _ _ _ _ _ _ _ _ _ _ _ _ _ _ _ _ _ _ _ _ _ _ _ _ _ _ _ _ _ _ _ _ _ _ _ _ _ _ _ _ _ _ _ _ _ _ _ _ _ _ _ _ _ _ _ _ _ _ _ _ _ _ _ _ _ _ _ _ _ _ _ _ _ _ _ _ _ _ _ _ _ _ _ _ _ _ _ _ _ _ _ _ _  ?_
      intro y129 y130 y131 y132 y133 y134 y135 W8 HL8 HK8
      rw [SAID.out] at HL8
      have HX8 := hide ((HK8.out.block bx (blk_lt M5.out.hx) (fun e => M5.out.nxB (Option.some.inj e))).trans M5.out.hx)
      have z1 : W8.cell? ⟨bx, 1, none⟩ = some (.int .i64 x.hour) := (blk_cell HX8.out 1).trans rfl
      have z2 : W8.cell? ⟨L, 4, none⟩ = some (.int .i64 s.f.freeze) := (HL8.out.c 4).trans (by rw [← E.said_freeze s x]; rfl)
      have HB8 := hide (Nat.le_trans M5.out.baseW HK8.out.size)
      go_wp2_with (first | (go_at_call 62; refine (late_any s.f L x.hour _ z2).mono ?_; rintro e w' ⟨rfl, rfl⟩) | (go_at_call 65; refine (settle_any base L B (n + 1) (s.said x) (E.late s.f x.hour) mv (.slice cA s.cards.length cc) W8 HL8.out HOK.out HB8.out (by have := HN.out; omega) (by have := HBD.out.main; have := HK0.out; omega) (by have := HBD.out.places; have := HK0.out; omega)).mono ?_; rintro e w9 ⟨mv9, rfl, hl9, hb9, hk9, -⟩))
      go_end0
      exact take_fin M5.out HK8.out hl9 hb9 hk9
    · have k9 : W5.cell? ⟨g, 2, none⟩ = some (.bool (s.pl x.player).card) := (blk_cell M5.out.hg 2).trans rfl
      have f9 := blk_frozen M5.out.hg 2
      go_upto_region 11 with fail
      obtain ⟨W6, hW6⟩ : ∃ W', W5.setCell ⟨g, 2, none⟩ (.bool true) = W' := ⟨_, rfl⟩
      have M6 := hide (M5.out.setG (p2 := { s.pl x.player with card := true }) 2 (.bool true) rfl)
      rw [hW6] at M6 ⊢
      clear hW6
      clear k9 f9
      refine wp_last ?_
      refine take11 (fun _ _ d _ _ h => by cases d <;> exact h) base bx L B n s mv (.slice cA s.cards.length cc) x W6 M6.out.hx M6.out.l M6.out.baseW (by have := HB0.out.cards; have := HK0.out; omega) _ _ _ _ _ _ _ _ _ _ _ _ _ _ _ _ _ _ _ _ _ _ _ _ _ _ _ _ _ _ _ _ _ _ _ _ _ _ _ _ _ _ _ _ _ _ _ _ _ _ _ _ _ _ _ _ _ _ _ _ _ _ _ _ _ _ _ _ _ _ _ _ _ _ _ _ _ _ _ _ _ _ _ _ _ _ _ _ _ _ _ _ _ _ _ _ _ _ _ _ _ _ _ _ _ _ _ _ _ _ _ _ _ _ _ _ _ _ _ _ _ _ _ _ _ _ _ _ _ _ _ _ _ _ _ _ _ _ _ _  ?_
      intro v81 v82 v83 v84 v85 v86 v87 v88 v89 v90 v91 cv7 W7 HL7 HK7 HB7 HC7
      dsimp only [Exit.inBlock, Exit.then]
      have M7 := hide (M6.out.setC HL7.out HK7.out HB7.out HC7.out)
      clear HL7 HK7 HB7 HC7
      go_upto_region 19 with fail
      have SAID := hide (show E.St.put ({ s with cards := s.cards ++ [x.player] }) x.player ({ s.pl x.player with card := true }) = s.said x by (have h1 := HD.out; rw [hdd] at h1; have h2 : E.late s.f x.hour = false ∧ (s.pl x.player).card = false ∧ (s.pl x.player).quit = false ∧ (s.cards.length : Int) < s.f.wilds := (by have h3 := h1.symm; simpa only [Bool.and_eq_true, Bool.not_eq_true', decide_eq_true_eq, and_assoc] using h3); unfold E.St.said; dsimp only; rw [if_neg (by rw [HKD.out]; decide), if_pos HKD.out, if_pos h2]))
      refine take19 (fun _ _ d _ _ h => by cases d <;> exact h) base bx L B n g ({ s with cards := s.cards ++ [x.player] }) mv cv7 x ({ s.pl x.player with card := true }) W7 M7.out.hx M7.out.l M7.out.hg (by have := HN.out; omega) HX0.out HX1.out _ _ _ _ _ _ _ _ _ _ _ _ _ _ _ _ _ _ _ _ _ _ _ _ _ _ _ _ _ _ _ _ _ _ _ _ _ _ _ _ _ _ _ _ _ _ _ _ _ _ _ _ _ _ _ _ _ _ _ _ _ _ _ _ _ _ _ _ _ _ _ _ _ _ _ _ _ _ _ _ _ _ _ _ _ _ _ _ _ _ _ _ _ _ _ _ _ _ _ _ _ _ _ _ _ _ _ _ _ _ _ _ _ _ _ _ _ _ _ _ _ _ _ _ _ _ _ _ _ _ _ _ _ _ _ _ _ _ _  ?_
      intro y129 y130 y131 y132 y133 y134 y135 W8 HL8 HK8
      rw [SAID.out] at HL8
      have HX8 := hide ((HK8.out.block bx (blk_lt M7.out.hx) (fun e => M7.out.nxB (Option.some.inj e))).trans M7.out.hx)
      have z1 : W8.cell? ⟨bx, 1, none⟩ = some (.int .i64 x.hour) := (blk_cell HX8.out 1).trans rfl
      have z2 : W8.cell? ⟨L, 4, none⟩ = some (.int .i64 s.f.freeze) := (HL8.out.c 4).trans (by rw [← E.said_freeze s x]; rfl)
      have HB8 := hide (Nat.le_trans M7.out.baseW HK8.out.size)
      go_wp2_with (first | (go_at_call 62; refine (late_any s.f L x.hour _ z2).mono ?_; rintro e w' ⟨rfl, rfl⟩) | (go_at_call 65; refine (settle_any base L B (n + 1) (s.said x) (E.late s.f x.hour) mv cv7 W8 HL8.out HOK.out HB8.out (by have := HN.out; omega) (by have := HBD.out.main; have := HK0.out; omega) (by have := HBD.out.places; have := HK0.out; omega)).mono ?_; rintro e w9 ⟨mv9, rfl, hl9, hb9, hk9, -⟩))
      go_end0
      exact take_fin M7.out HK8.out hl9 hb9 hk9
  by_cases h4 : x.kind = 4
  · have HKD := hide h4
    have d1 : (x.kind == 1) = false := by rw [h4]; rfl
    have d2 : (x.kind == 2) = false := by rw [h4]; rfl
    have d3 : (x.kind == 3) = false := by rw [h4]; rfl
    have d4 : (x.kind == 4) = true := by rw [h4]; rfl
    clear h4
    clear h1 h2 h3
    obtain ⟨cA, cc, hcv⟩ := own_form HL.out.cards
    subst hcv
    have k1 : W2.cell? ⟨bx, 1, none⟩ = some (.int .i64 x.hour) := (blk_cell M2.out.hx 1).trans rfl
    have c1 : W2.cell? ⟨g, 2, none⟩ = some (.bool (s.pl x.player).card) := (blk_cell M2.out.hg 2).trans rfl
    have c2 : W2.cell? ⟨g, 3, none⟩ = some (.bool (s.pl x.player).quit) := (blk_cell M2.out.hg 3).trans rfl
    have HC : ∀ V, V = W2 → Calls Try.prog 62 #[.pointer (some ⟨L, 0, none⟩), .int .i64 x.hour] V fun e w' => e = .returned (.bool (E.late s.f x.hour)) ∧ V = w' := fun V hV => by subst hV; exact late_any s.f L x.hour V ((M2.out.l.c 4).trans rfl)
    obtain ⟨pc, hpc⟩ : ∃ a, (s.pl x.player).card = a := ⟨_, rfl⟩
    obtain ⟨pq, hpq⟩ : ∃ a, (s.pl x.player).quit = a := ⟨_, rfl⟩
    obtain ⟨lt, hlt⟩ : ∃ a, E.late s.f x.hour = a := ⟨_, rfl⟩
    have HPC := hide hpc
    have HPQ := hide hpq
    have HLT := hide hlt
    rw [hpc] at c1
    rw [hpq] at c2
    rw [hlt] at HC
    clear hpc hpq hlt
    cases lt
    · go_upto_region 15 with (go_at_call 62; refine (HC _ rfl).mono ?_; rintro e w' ⟨rfl, rfl⟩)
      clear k1 c1 c2 k2 HC
      have k3 : W2.cell? ⟨g, 3, none⟩ = some (.bool (s.pl x.player).quit) := (blk_cell M2.out.hg 3).trans rfl
      have f3 := blk_frozen M2.out.hg 3
      go_upto_region 16 with fail
      obtain ⟨W4, hW4⟩ : ∃ W', W2.setCell ⟨g, 3, none⟩ (.bool true) = W' := ⟨_, rfl⟩
      have M4 := hide (M2.out.setG (p2 := { s.pl x.player with quit := true }) 3 (.bool true) rfl)
      rw [hW4] at M4 ⊢
      clear hW4
      clear k3 f3
      have k4 : W4.cell? ⟨L, 8, none⟩ = some (.slice cA s.cards.length cc) := (M4.out.l.c 8).trans rfl
      have eg : ∀ args w, (callFunc 64 args).run Try.prog w = .ok (.enter 64 args) w := enters_of Try.func64 (by kernel_rfl) rfl
      go_upto_region 19 with (go_at_call 63; refine (deleteFunc_any 64 #[.pointer (some ⟨bx, 0, none⟩)] eg (fun y => y == x.player) (fun W => W4.grownBy W (Value.slice cA s.cards.length cc).ownBlock) s.cards (fun W y _ hW => clTake_any bx x.player y W ((gr_cell hW (blk_lt M4.out.hx) (fun e => row_ne M4.out.l.cards M4.out.hx (by decide) e.symm) 3).trans ((blk_cell M4.out.hx 3).trans rfl)) (Nat.lt_of_lt_of_le (blk_lt M4.out.hx) hW.size)) base cA s.cards.length cc W4 (fun W W' hW hg => gr_trans hW hg) M4.out.l.cards (by have := HB0.out.cards; have := HK0.out; omega) (World.grownBy.refl _ _)).mono ?_; rintro e w5 ⟨rfl, ho5, hg5⟩; have HO5 := hide ho5; have HG5 := hide hg5; clear ho5 hg5; have hL5 := (HG5.out.block L M4.out.l.lt (fun e => M4.out.l.cardsL e.symm)).trans M4.out.l.blk; have k5 : w5.cell? ⟨L, 8, none⟩ = some (.slice cA s.cards.length cc) := (blk_cell hL5 8).trans rfl; have f5 := blk_frozen hL5 8; clear hL5)
      clear k4 k5 f5 eg
      have hlc : ∀ b, (Value.slice cA (s.cards.filter fun y => !(y == x.player)).length cc).ownBlock = some b → (Value.slice cA s.cards.length cc).ownBlock = some b ∨ W4.heap.size ≤ b := fun b hb => .inl (by cases cA <;> exact hb)
      have HLC := hide hlc
      clear hlc
      obtain ⟨W7, hW7⟩ : ∃ W', w5.setCell ⟨L, 8, none⟩ (.slice cA (s.cards.filter fun y => !(y == x.player)).length cc) = W' := ⟨_, rfl⟩
      have M7 := hide (M4.out.setC (M4.out.l.setCards HG5.out HO5.out HLC.out) (fun b hb h1 h2 => (Below.heap_setCell w5 ⟨L, 8, none⟩ _ b h1).trans (HG5.out.block b hb h2)) ((grown_below HG5.out M4.out.baseW (fun g hg => (M4.out.l.cards.lt g hg).1)).setCell (p := ⟨L, 8, none⟩) M4.out.l.lowL _) HLC.out)
      rw [hW7] at M7 ⊢
      clear hW7
      have SAID := hide (show E.St.put ({ s with cards := s.cards.filter fun y => !(y == x.player) }) x.player ({ s.pl x.player with quit := true }) = s.said x by (unfold E.St.said; dsimp only; rw [if_neg (by rw [HKD.out]; decide), if_neg (by rw [HKD.out]; decide), if_pos HKD.out, if_neg (by rintro ⟨h3, h4, h5⟩; first | exact absurd (HLT.out.symm.trans h3) (by decide) | exact absurd (HPC.out.symm.trans h4) (by decide) | exact absurd (HPQ.out.symm.trans h5) (by decide))]; rfl))
      refine take19 (fun _ _ d _ _ h => by cases d <;> exact h) base bx L B n g ({ s with cards := s.cards.filter fun y => !(y == x.player) }) mv (.slice cA (s.cards.filter fun y => !(y == x.player)).length cc) x ({ s.pl x.player with quit := true }) W7 M7.out.hx M7.out.l M7.out.hg (by have := HN.out; omega) HX0.out HX1.out _ _ _ _ _ _ _ _ _ _ _ _ _ _ _ _ _ _ _ _ _ _ _ _ _ _ _ _ _ _ _ _ _ _ _ _ _ _ _ _ _ _ _ _ _ _ _ _ _ _ _ _ _ _ _ _ _ _ _ _ _ _ _ _ _ _ _ _ _ _ _ _ _ _ _ _ _ _ _ _ _ _ _ _ _ _ _ _ _ _ _ _ _ _ _ _ _ _ _ _ _ _ _ _ _ _ _ _ _ _ _ _ _ _ _ _ _ _ _ _ _ _ _ _ _ _ _ _ _ _ _ _ _ _ _ _ _ _ _  ?_
      intro y129 y130 y131 y132 y133 y134 y135 W8 HL8 HK8
      rw [SAID.out] at HL8
      have HX8 := hide ((HK8.out.block bx (blk_lt M7.out.hx) (fun e => M7.out.nxB (Option.some.inj e))).trans M7.out.hx)
      have z1 : W8.cell? ⟨bx, 1, none⟩ = some (.int .i64 x.hour) := (blk_cell HX8.out 1).trans rfl
      have z2 : W8.cell? ⟨L, 4, none⟩ = some (.int .i64 s.f.freeze) := (HL8.out.c 4).trans (by rw [← E.said_freeze s x]; rfl)
      have HB8 := hide (Nat.le_trans M7.out.baseW HK8.out.size)
      go_wp2_with (first | (go_at_call 62; refine (late_any s.f L x.hour _ z2).mono ?_; rintro e w' ⟨rfl, rfl⟩) | (go_at_call 65; refine (settle_any base L B (n + 1) (s.said x) (E.late s.f x.hour) mv (.slice cA (s.cards.filter fun y => !(y == x.player)).length cc) W8 HL8.out HOK.out HB8.out (by have := HN.out; omega) (by have := HBD.out.main; have := HK0.out; omega) (by have := HBD.out.places; have := HK0.out; omega)).mono ?_; rintro e w9 ⟨mv9, rfl, hl9, hb9, hk9, -⟩))
      go_end0
      exact take_fin M7.out HK8.out hl9 hb9 hk9
    · cases pc
      · go_upto_region 15 with (go_at_call 62; refine (HC _ rfl).mono ?_; rintro e w' ⟨rfl, rfl⟩)
        clear k1 c1 c2 k2 HC
        have k3 : W2.cell? ⟨g, 3, none⟩ = some (.bool (s.pl x.player).quit) := (blk_cell M2.out.hg 3).trans rfl
        have f3 := blk_frozen M2.out.hg 3
        go_upto_region 16 with fail
        obtain ⟨W4, hW4⟩ : ∃ W', W2.setCell ⟨g, 3, none⟩ (.bool true) = W' := ⟨_, rfl⟩
        have M4 := hide (M2.out.setG (p2 := { s.pl x.player with quit := true }) 3 (.bool true) rfl)
        rw [hW4] at M4 ⊢
        clear hW4
        clear k3 f3
        have k4 : W4.cell? ⟨L, 8, none⟩ = some (.slice cA s.cards.length cc) := (M4.out.l.c 8).trans rfl
        have eg : ∀ args w, (callFunc 64 args).run Try.prog w = .ok (.enter 64 args) w := enters_of Try.func64 (by kernel_rfl) rfl
        go_upto_region 19 with (go_at_call 63; refine (deleteFunc_any 64 #[.pointer (some ⟨bx, 0, none⟩)] eg (fun y => y == x.player) (fun W => W4.grownBy W (Value.slice cA s.cards.length cc).ownBlock) s.cards (fun W y _ hW => clTake_any bx x.player y W ((gr_cell hW (blk_lt M4.out.hx) (fun e => row_ne M4.out.l.cards M4.out.hx (by decide) e.symm) 3).trans ((blk_cell M4.out.hx 3).trans rfl)) (Nat.lt_of_lt_of_le (blk_lt M4.out.hx) hW.size)) base cA s.cards.length cc W4 (fun W W' hW hg => gr_trans hW hg) M4.out.l.cards (by have := HB0.out.cards; have := HK0.out; omega) (World.grownBy.refl _ _)).mono ?_; rintro e w5 ⟨rfl, ho5, hg5⟩; have HO5 := hide ho5; have HG5 := hide hg5; clear ho5 hg5; have hL5 := (HG5.out.block L M4.out.l.lt (fun e => M4.out.l.cardsL e.symm)).trans M4.out.l.blk; have k5 : w5.cell? ⟨L, 8, none⟩ = some (.slice cA s.cards.length cc) := (blk_cell hL5 8).trans rfl; have f5 := blk_frozen hL5 8; clear hL5)
        clear k4 k5 f5 eg
        have hlc : ∀ b, (Value.slice cA (s.cards.filter fun y => !(y == x.player)).length cc).ownBlock = some b → (Value.slice cA s.cards.length cc).ownBlock = some b ∨ W4.heap.size ≤ b := fun b hb => .inl (by cases cA <;> exact hb)
        have HLC := hide hlc
        clear hlc
        obtain ⟨W7, hW7⟩ : ∃ W', w5.setCell ⟨L, 8, none⟩ (.slice cA (s.cards.filter fun y => !(y == x.player)).length cc) = W' := ⟨_, rfl⟩
        have M7 := hide (M4.out.setC (M4.out.l.setCards HG5.out HO5.out HLC.out) (fun b hb h1 h2 => (Below.heap_setCell w5 ⟨L, 8, none⟩ _ b h1).trans (HG5.out.block b hb h2)) ((grown_below HG5.out M4.out.baseW (fun g hg => (M4.out.l.cards.lt g hg).1)).setCell (p := ⟨L, 8, none⟩) M4.out.l.lowL _) HLC.out)
        rw [hW7] at M7 ⊢
        clear hW7
        have SAID := hide (show E.St.put ({ s with cards := s.cards.filter fun y => !(y == x.player) }) x.player ({ s.pl x.player with quit := true }) = s.said x by (unfold E.St.said; dsimp only; rw [if_neg (by rw [HKD.out]; decide), if_neg (by rw [HKD.out]; decide), if_pos HKD.out, if_neg (by rintro ⟨h3, h4, h5⟩; first | exact absurd (HLT.out.symm.trans h3) (by decide) | exact absurd (HPC.out.symm.trans h4) (by decide) | exact absurd (HPQ.out.symm.trans h5) (by decide))]; rfl))
        refine take19 (fun _ _ d _ _ h => by cases d <;> exact h) base bx L B n g ({ s with cards := s.cards.filter fun y => !(y == x.player) }) mv (.slice cA (s.cards.filter fun y => !(y == x.player)).length cc) x ({ s.pl x.player with quit := true }) W7 M7.out.hx M7.out.l M7.out.hg (by have := HN.out; omega) HX0.out HX1.out _ _ _ _ _ _ _ _ _ _ _ _ _ _ _ _ _ _ _ _ _ _ _ _ _ _ _ _ _ _ _ _ _ _ _ _ _ _ _ _ _ _ _ _ _ _ _ _ _ _ _ _ _ _ _ _ _ _ _ _ _ _ _ _ _ _ _ _ _ _ _ _ _ _ _ _ _ _ _ _ _ _ _ _ _ _ _ _ _ _ _ _ _ _ _ _ _ _ _ _ _ _ _ _ _ _ _ _ _ _ _ _ _ _ _ _ _ _ _ _ _ _ _ _ _ _ _ _ _ _ _ _ _ _ _ _ _ _ _  ?_
        intro y129 y130 y131 y132 y133 y134 y135 W8 HL8 HK8
        rw [SAID.out] at HL8
        have HX8 := hide ((HK8.out.block bx (blk_lt M7.out.hx) (fun e => M7.out.nxB (Option.some.inj e))).trans M7.out.hx)
        have z1 : W8.cell? ⟨bx, 1, none⟩ = some (.int .i64 x.hour) := (blk_cell HX8.out 1).trans rfl
        have z2 : W8.cell? ⟨L, 4, none⟩ = some (.int .i64 s.f.freeze) := (HL8.out.c 4).trans (by rw [← E.said_freeze s x]; rfl)
        have HB8 := hide (Nat.le_trans M7.out.baseW HK8.out.size)
        go_wp2_with (first | (go_at_call 62; refine (late_any s.f L x.hour _ z2).mono ?_; rintro e w' ⟨rfl, rfl⟩) | (go_at_call 65; refine (settle_any base L B (n + 1) (s.said x) (E.late s.f x.hour) mv (.slice cA (s.cards.filter fun y => !(y == x.player)).length cc) W8 HL8.out HOK.out HB8.out (by have := HN.out; omega) (by have := HBD.out.main; have := HK0.out; omega) (by have := HBD.out.places; have := HK0.out; omega)).mono ?_; rintro e w9 ⟨mv9, rfl, hl9, hb9, hk9, -⟩))
        go_end0
        exact take_fin M7.out HK8.out hl9 hb9 hk9
      · cases pq
        · have k6 : W2.cell? ⟨L, 0, none⟩ = some (.int .i64 s.f.places) := (M2.out.l.c 0).trans rfl
          have f6 := blk_frozen M2.out.l.blk 0
          have tu0 := HB0.out.places0
          have tu3 : s.f.places ≤ 600 := by have := HB0.out.places; have := HK0.out; omega
          go_upto_region 15 with (go_at_call 62; refine (HC _ rfl).mono ?_; rintro e w' ⟨rfl, rfl⟩)
          obtain ⟨W3, hW3⟩ : ∃ W', W2.setCell ⟨L, 0, none⟩ (.int .i64 (s.f.places + 1)) = W' := ⟨_, rfl⟩
          have M3 := hide (M2.out.setL (M2.out.l.setPlaces (s.f.places + 1)))
          rw [hW3] at M3 ⊢
          clear hW3
          clear k1 c1 c2 k2 k6 f6 tu0 tu3 HC
          have k3 : W3.cell? ⟨g, 3, none⟩ = some (.bool (s.pl x.player).quit) := (blk_cell M3.out.hg 3).trans rfl
          have f3 := blk_frozen M3.out.hg 3
          go_upto_region 16 with fail
          obtain ⟨W4, hW4⟩ : ∃ W', W3.setCell ⟨g, 3, none⟩ (.bool true) = W' := ⟨_, rfl⟩
          have M4 := hide (M3.out.setG (p2 := { s.pl x.player with quit := true }) 3 (.bool true) rfl)
          rw [hW4] at M4 ⊢
          clear hW4
          clear k3 f3
          have k4 : W4.cell? ⟨L, 8, none⟩ = some (.slice cA s.cards.length cc) := (M4.out.l.c 8).trans rfl
          have eg : ∀ args w, (callFunc 64 args).run Try.prog w = .ok (.enter 64 args) w := enters_of Try.func64 (by kernel_rfl) rfl
          go_upto_region 19 with (go_at_call 63; refine (deleteFunc_any 64 #[.pointer (some ⟨bx, 0, none⟩)] eg (fun y => y == x.player) (fun W => W4.grownBy W (Value.slice cA s.cards.length cc).ownBlock) s.cards (fun W y _ hW => clTake_any bx x.player y W ((gr_cell hW (blk_lt M4.out.hx) (fun e => row_ne M4.out.l.cards M4.out.hx (by decide) e.symm) 3).trans ((blk_cell M4.out.hx 3).trans rfl)) (Nat.lt_of_lt_of_le (blk_lt M4.out.hx) hW.size)) base cA s.cards.length cc W4 (fun W W' hW hg => gr_trans hW hg) M4.out.l.cards (by have := HB0.out.cards; have := HK0.out; omega) (World.grownBy.refl _ _)).mono ?_; rintro e w5 ⟨rfl, ho5, hg5⟩; have HO5 := hide ho5; have HG5 := hide hg5; clear ho5 hg5; have hL5 := (HG5.out.block L M4.out.l.lt (fun e => M4.out.l.cardsL e.symm)).trans M4.out.l.blk; have k5 : w5.cell? ⟨L, 8, none⟩ = some (.slice cA s.cards.length cc) := (blk_cell hL5 8).trans rfl; have f5 := blk_frozen hL5 8; clear hL5)
          clear k4 k5 f5 eg
          have hlc : ∀ b, (Value.slice cA (s.cards.filter fun y => !(y == x.player)).length cc).ownBlock = some b → (Value.slice cA s.cards.length cc).ownBlock = some b ∨ W4.heap.size ≤ b := fun b hb => .inl (by cases cA <;> exact hb)
          have HLC := hide hlc
          clear hlc
          obtain ⟨W7, hW7⟩ : ∃ W', w5.setCell ⟨L, 8, none⟩ (.slice cA (s.cards.filter fun y => !(y == x.player)).length cc) = W' := ⟨_, rfl⟩
          have M7 := hide (M4.out.setC (M4.out.l.setCards HG5.out HO5.out HLC.out) (fun b hb h1 h2 => (Below.heap_setCell w5 ⟨L, 8, none⟩ _ b h1).trans (HG5.out.block b hb h2)) ((grown_below HG5.out M4.out.baseW (fun g hg => (M4.out.l.cards.lt g hg).1)).setCell (p := ⟨L, 8, none⟩) M4.out.l.lowL _) HLC.out)
          rw [hW7] at M7 ⊢
          clear hW7
          have SAID := hide (show E.St.put ({ { s with f := { s.f with places := s.f.places + 1 } } with cards := s.cards.filter fun y => !(y == x.player) }) x.player ({ s.pl x.player with quit := true }) = s.said x by (unfold E.St.said; dsimp only; rw [if_neg (by rw [HKD.out]; decide), if_neg (by rw [HKD.out]; decide), if_pos HKD.out, if_pos ⟨HLT.out, HPC.out, HPQ.out⟩]; rfl))
          refine take19 (fun _ _ d _ _ h => by cases d <;> exact h) base bx L B n g ({ { s with f := { s.f with places := s.f.places + 1 } } with cards := s.cards.filter fun y => !(y == x.player) }) mv (.slice cA (s.cards.filter fun y => !(y == x.player)).length cc) x ({ s.pl x.player with quit := true }) W7 M7.out.hx M7.out.l M7.out.hg (by have := HN.out; omega) HX0.out HX1.out _ _ _ _ _ _ _ _ _ _ _ _ _ _ _ _ _ _ _ _ _ _ _ _ _ _ _ _ _ _ _ _ _ _ _ _ _ _ _ _ _ _ _ _ _ _ _ _ _ _ _ _ _ _ _ _ _ _ _ _ _ _ _ _ _ _ _ _ _ _ _ _ _ _ _ _ _ _ _ _ _ _ _ _ _ _ _ _ _ _ _ _ _ _ _ _ _ _ _ _ _ _ _ _ _ _ _ _ _ _ _ _ _ _ _ _ _ _ _ _ _ _ _ _ _ _ _ _ _ _ _ _ _ _ _ _ _ _ _  ?_
          intro y129 y130 y131 y132 y133 y134 y135 W8 HL8 HK8
          rw [SAID.out] at HL8
          have HX8 := hide ((HK8.out.block bx (blk_lt M7.out.hx) (fun e => M7.out.nxB (Option.some.inj e))).trans M7.out.hx)
          have z1 : W8.cell? ⟨bx, 1, none⟩ = some (.int .i64 x.hour) := (blk_cell HX8.out 1).trans rfl
          have z2 : W8.cell? ⟨L, 4, none⟩ = some (.int .i64 s.f.freeze) := (HL8.out.c 4).trans (by rw [← E.said_freeze s x]; rfl)
          have HB8 := hide (Nat.le_trans M7.out.baseW HK8.out.size)
          go_wp2_with (first | (go_at_call 62; refine (late_any s.f L x.hour _ z2).mono ?_; rintro e w' ⟨rfl, rfl⟩) | (go_at_call 65; refine (settle_any base L B (n + 1) (s.said x) (E.late s.f x.hour) mv (.slice cA (s.cards.filter fun y => !(y == x.player)).length cc) W8 HL8.out HOK.out HB8.out (by have := HN.out; omega) (by have := HBD.out.main; have := HK0.out; omega) (by have := HBD.out.places; have := HK0.out; omega)).mono ?_; rintro e w9 ⟨mv9, rfl, hl9, hb9, hk9, -⟩))
          go_end0
          exact take_fin M7.out HK8.out hl9 hb9 hk9
        · go_upto_region 15 with (go_at_call 62; refine (HC _ rfl).mono ?_; rintro e w' ⟨rfl, rfl⟩)
          clear k1 c1 c2 k2 HC
          have k3 : W2.cell? ⟨g, 3, none⟩ = some (.bool (s.pl x.player).quit) := (blk_cell M2.out.hg 3).trans rfl
          have f3 := blk_frozen M2.out.hg 3
          go_upto_region 16 with fail
          obtain ⟨W4, hW4⟩ : ∃ W', W2.setCell ⟨g, 3, none⟩ (.bool true) = W' := ⟨_, rfl⟩
          have M4 := hide (M2.out.setG (p2 := { s.pl x.player with quit := true }) 3 (.bool true) rfl)
          rw [hW4] at M4 ⊢
          clear hW4
          clear k3 f3
          have k4 : W4.cell? ⟨L, 8, none⟩ = some (.slice cA s.cards.length cc) := (M4.out.l.c 8).trans rfl
          have eg : ∀ args w, (callFunc 64 args).run Try.prog w = .ok (.enter 64 args) w := enters_of Try.func64 (by kernel_rfl) rfl
          go_upto_region 19 with (go_at_call 63; refine (deleteFunc_any 64 #[.pointer (some ⟨bx, 0, none⟩)] eg (fun y => y == x.player) (fun W => W4.grownBy W (Value.slice cA s.cards.length cc).ownBlock) s.cards (fun W y _ hW => clTake_any bx x.player y W ((gr_cell hW (blk_lt M4.out.hx) (fun e => row_ne M4.out.l.cards M4.out.hx (by decide) e.symm) 3).trans ((blk_cell M4.out.hx 3).trans rfl)) (Nat.lt_of_lt_of_le (blk_lt M4.out.hx) hW.size)) base cA s.cards.length cc W4 (fun W W' hW hg => gr_trans hW hg) M4.out.l.cards (by have := HB0.out.cards; have := HK0.out; omega) (World.grownBy.refl _ _)).mono ?_; rintro e w5 ⟨rfl, ho5, hg5⟩; have HO5 := hide ho5; have HG5 := hide hg5; clear ho5 hg5; have hL5 := (HG5.out.block L M4.out.l.lt (fun e => M4.out.l.cardsL e.symm)).trans M4.out.l.blk; have k5 : w5.cell? ⟨L, 8, none⟩ = some (.slice cA s.cards.length cc) := (blk_cell hL5 8).trans rfl; have f5 := blk_frozen hL5 8; clear hL5)
          clear k4 k5 f5 eg
          have hlc : ∀ b, (Value.slice cA (s.cards.filter fun y => !(y == x.player)).length cc).ownBlock = some b → (Value.slice cA s.cards.length cc).ownBlock = some b ∨ W4.heap.size ≤ b := fun b hb => .inl (by cases cA <;> exact hb)
          have HLC := hide hlc
          clear hlc
          obtain ⟨W7, hW7⟩ : ∃ W', w5.setCell ⟨L, 8, none⟩ (.slice cA (s.cards.filter fun y => !(y == x.player)).length cc) = W' := ⟨_, rfl⟩
          have M7 := hide (M4.out.setC (M4.out.l.setCards HG5.out HO5.out HLC.out) (fun b hb h1 h2 => (Below.heap_setCell w5 ⟨L, 8, none⟩ _ b h1).trans (HG5.out.block b hb h2)) ((grown_below HG5.out M4.out.baseW (fun g hg => (M4.out.l.cards.lt g hg).1)).setCell (p := ⟨L, 8, none⟩) M4.out.l.lowL _) HLC.out)
          rw [hW7] at M7 ⊢
          clear hW7
          have SAID := hide (show E.St.put ({ s with cards := s.cards.filter fun y => !(y == x.player) }) x.player ({ s.pl x.player with quit := true }) = s.said x by (unfold E.St.said; dsimp only; rw [if_neg (by rw [HKD.out]; decide), if_neg (by rw [HKD.out]; decide), if_pos HKD.out, if_neg (by rintro ⟨h3, h4, h5⟩; first | exact absurd (HLT.out.symm.trans h3) (by decide) | exact absurd (HPC.out.symm.trans h4) (by decide) | exact absurd (HPQ.out.symm.trans h5) (by decide))]; rfl))
          refine take19 (fun _ _ d _ _ h => by cases d <;> exact h) base bx L B n g ({ s with cards := s.cards.filter fun y => !(y == x.player) }) mv (.slice cA (s.cards.filter fun y => !(y == x.player)).length cc) x ({ s.pl x.player with quit := true }) W7 M7.out.hx M7.out.l M7.out.hg (by have := HN.out; omega) HX0.out HX1.out _ _ _ _ _ _ _ _ _ _ _ _ _ _ _ _ _ _ _ _ _ _ _ _ _ _ _ _ _ _ _ _ _ _ _ _ _ _ _ _ _ _ _ _ _ _ _ _ _ _ _ _ _ _ _ _ _ _ _ _ _ _ _ _ _ _ _ _ _ _ _ _ _ _ _ _ _ _ _ _ _ _ _ _ _ _ _ _ _ _ _ _ _ _ _ _ _ _ _ _ _ _ _ _ _ _ _ _ _ _ _ _ _ _ _ _ _ _ _ _ _ _ _ _ _ _ _ _ _ _ _ _ _ _ _ _ _ _ _  ?_
          intro y129 y130 y131 y132 y133 y134 y135 W8 HL8 HK8
          rw [SAID.out] at HL8
          have HX8 := hide ((HK8.out.block bx (blk_lt M7.out.hx) (fun e => M7.out.nxB (Option.some.inj e))).trans M7.out.hx)
          have z1 : W8.cell? ⟨bx, 1, none⟩ = some (.int .i64 x.hour) := (blk_cell HX8.out 1).trans rfl
          have z2 : W8.cell? ⟨L, 4, none⟩ = some (.int .i64 s.f.freeze) := (HL8.out.c 4).trans (by rw [← E.said_freeze s x]; rfl)
          have HB8 := hide (Nat.le_trans M7.out.baseW HK8.out.size)
          go_wp2_with (first | (go_at_call 62; refine (late_any s.f L x.hour _ z2).mono ?_; rintro e w' ⟨rfl, rfl⟩) | (go_at_call 65; refine (settle_any base L B (n + 1) (s.said x) (E.late s.f x.hour) mv (.slice cA (s.cards.filter fun y => !(y == x.player)).length cc) W8 HL8.out HOK.out HB8.out (by have := HN.out; omega) (by have := HBD.out.main; have := HK0.out; omega) (by have := HBD.out.places; have := HK0.out; omega)).mono ?_; rintro e w9 ⟨mv9, rfl, hl9, hb9, hk9, -⟩))
          go_end0
          exact take_fin M7.out HK8.out hl9 hb9 hk9
  by_cases h5 : x.kind = 5
  · have HKD := hide h5
    have d1 : (x.kind == 1) = false := by rw [h5]; rfl
    have d2 : (x.kind == 2) = false := by rw [h5]; rfl
    have d3 : (x.kind == 3) = false := by rw [h5]; rfl
    have d4 : (x.kind == 4) = false := by rw [h5]; rfl
    have d5 : (x.kind == 5) = true := by rw [h5]; rfl
    clear h5
    clear h1 h2 h3 h4
    have k3 : W2.cell? ⟨g, 4, none⟩ = some (.bool (s.pl x.player).sgn) := (blk_cell M2.out.hg 4).trans rfl
    have f3 := blk_frozen M2.out.hg 4
    go_upto_region 19 with fail
    obtain ⟨W3, hW3⟩ : ∃ W', W2.setCell ⟨g, 4, none⟩ (.bool true) = W' := ⟨_, rfl⟩
    have M3 := hide (M2.out.setG (p2 := { s.pl x.player with sgn := true }) 4 (.bool true) rfl)
    rw [hW3] at M3 ⊢
    clear hW3
    clear k3 f3 k2
    have SAID := hide (show E.St.put (s) x.player ({ s.pl x.player with sgn := true }) = s.said x by (unfold E.St.said; dsimp only; rw [if_neg (by rw [HKD.out]; decide), if_neg (by rw [HKD.out]; decide), if_neg (by rw [HKD.out]; decide), if_pos HKD.out]))
    refine take19 (fun _ _ d _ _ h => by cases d <;> exact h) base bx L B n g (s) mv cv x ({ s.pl x.player with sgn := true }) W3 M3.out.hx M3.out.l M3.out.hg (by have := HN.out; omega) HX0.out HX1.out _ _ _ _ _ _ _ _ _ _ _ _ _ _ _ _ _ _ _ _ _ _ _ _ _ _ _ _ _ _ _ _ _ _ _ _ _ _ _ _ _ _ _ _ _ _ _ _ _ _ _ _ _ _ _ _ _ _ _ _ _ _ _ _ _ _ _ _ _ _ _ _ _ _ _ _ _ _ _ _ _ _ _ _ _ _ _ _ _ _ _ _ _ _ _ _ _ _ _ _ _ _ _ _ _ _ _ _ _ _ _ _ _ _ _ _ _ _ _ _ _ _ _ _ _ _ _ _ _ _ _ _ _ _ _ _ _ _ _  ?_
    intro y129 y130 y131 y132 y133 y134 y135 W8 HL8 HK8
    rw [SAID.out] at HL8
    have HX8 := hide ((HK8.out.block bx (blk_lt M3.out.hx) (fun e => M3.out.nxB (Option.some.inj e))).trans M3.out.hx)
    have z1 : W8.cell? ⟨bx, 1, none⟩ = some (.int .i64 x.hour) := (blk_cell HX8.out 1).trans rfl
    have z2 : W8.cell? ⟨L, 4, none⟩ = some (.int .i64 s.f.freeze) := (HL8.out.c 4).trans (by rw [← E.said_freeze s x]; rfl)
    have HB8 := hide (Nat.le_trans M3.out.baseW HK8.out.size)
    go_wp2_with (first | (go_at_call 62; refine (late_any s.f L x.hour _ z2).mono ?_; rintro e w' ⟨rfl, rfl⟩) | (go_at_call 65; refine (settle_any base L B (n + 1) (s.said x) (E.late s.f x.hour) mv cv W8 HL8.out HOK.out HB8.out (by have := HN.out; omega) (by have := HBD.out.main; have := HK0.out; omega) (by have := HBD.out.places; have := HK0.out; omega)).mono ?_; rintro e w9 ⟨mv9, rfl, hl9, hb9, hk9, -⟩))
    go_end0
    exact take_fin M3.out HK8.out hl9 hb9 hk9
  have HKO := hide (show ¬(x.kind = 1 ∨ x.kind = 2) ∧ ¬x.kind = 3 ∧ ¬x.kind = 4 ∧ ¬x.kind = 5 from ⟨fun h => h.elim h1 h2, h3, h4, h5⟩)
  have d1 : (x.kind == 1) = false := by simpa using h1
  have d2 : (x.kind == 2) = false := by simpa using h2
  have d3 : (x.kind == 3) = false := by simpa using h3
  have d4 : (x.kind == 4) = false := by simpa using h4
  have d5 : (x.kind == 5) = false := by simpa using h5
  clear h1 h2 h3 h4 h5
  go_upto_region 19 with fail
  have SAID := hide (show E.St.put (s) x.player (s.pl x.player) = s.said x by (unfold E.St.said; dsimp only; rw [if_neg HKO.out.1, if_neg HKO.out.2.1, if_neg HKO.out.2.2.1, if_neg HKO.out.2.2.2]))
  refine take19 (fun _ _ d _ _ h => by cases d <;> exact h) base bx L B n g (s) mv cv x (s.pl x.player) W2 M2.out.hx M2.out.l M2.out.hg (by have := HN.out; omega) HX0.out HX1.out _ _ _ _ _ _ _ _ _ _ _ _ _ _ _ _ _ _ _ _ _ _ _ _ _ _ _ _ _ _ _ _ _ _ _ _ _ _ _ _ _ _ _ _ _ _ _ _ _ _ _ _ _ _ _ _ _ _ _ _ _ _ _ _ _ _ _ _ _ _ _ _ _ _ _ _ _ _ _ _ _ _ _ _ _ _ _ _ _ _ _ _ _ _ _ _ _ _ _ _ _ _ _ _ _ _ _ _ _ _ _ _ _ _ _ _ _ _ _ _ _ _ _ _ _ _ _ _ _ _ _ _ _ _ _ _ _ _ _  ?_
  intro y129 y130 y131 y132 y133 y134 y135 W8 HL8 HK8
  rw [SAID.out] at HL8
  have HX8 := hide ((HK8.out.block bx (blk_lt M2.out.hx) (fun e => M2.out.nxB (Option.some.inj e))).trans M2.out.hx)
  have z1 : W8.cell? ⟨bx, 1, none⟩ = some (.int .i64 x.hour) := (blk_cell HX8.out 1).trans rfl
  have z2 : W8.cell? ⟨L, 4, none⟩ = some (.int .i64 s.f.freeze) := (HL8.out.c 4).trans (by rw [← E.said_freeze s x]; rfl)
  have HB8 := hide (Nat.le_trans M2.out.baseW HK8.out.size)
  go_wp2_with (first | (go_at_call 62; refine (late_any s.f L x.hour _ z2).mono ?_; rintro e w' ⟨rfl, rfl⟩) | (go_at_call 65; refine (settle_any base L B (n + 1) (s.said x) (E.late s.f x.hour) mv cv W8 HL8.out HOK.out HB8.out (by have := HN.out; omega) (by have := HBD.out.main; have := HK0.out; omega) (by have := HBD.out.places; have := HK0.out; omega)).mono ?_; rintro e w9 ⟨mv9, rfl, hl9, hb9, hk9, -⟩))
  go_end0
  exact take_fin M2.out HK8.out hl9 hb9 hk9

end Go.Proofs.Ytobjahlmjcnfoaa

namespace Go.Proofs.Ytobjahlmjcnfoaa
open Go.RowKit Go.Sort
attribute [local go_sem ↓] Go.wp_at_zero Go.wp_at_succ

theorem own_nil {w : World} {base : Nat} {e : TypeId} {n m c size : Nat} {xs : List Value} {A : Option Addr} (h : w.ownsRow base e size (.slice A m c) n xs) : A = none → c = 0 := by
  intro hA
  rcases h.2 with ⟨h1, h2⟩ | ⟨g, cap, cur, h1, _⟩
  · simp only [Value.slice.injEq] at h1; exact h1.2.2
  · simp only [Value.slice.injEq] at h1; rw [hA] at h1; cases h1.1
theorem LAt.below' {w w' : World} {base L B n : Nat} {s : E.St} {mv cv : Value} (h : LAt w base L B n s mv cv) (hb : Below w.heap.size w w') : LAt w' base L B n s mv cv := h.below hb
theorem cap_row2 {K : Act → World → Prop} {a : Act} {u : World} {b : Nat} {cs old : Array Value} {t : TypeId} (hb : u.heap[b]? = some (.cells old t (0, 0)))
    (h : ∀ W', W'.heap[b]? = some (.cells cs t (0, 0)) → u.grownBy W' (some b) → (∀ W0 : World, Below W0.heap.size W0 u → W0.heap.size ≤ b → Below W0.heap.size W0 W') → K a W') : K a (u.setRow b cs) :=
  cap_row1 (K := fun a w => u.grownBy w (some b) → K a w) (a := a) hb (fun W' h1 h2 h3 => h W' h1 h3 h2) (setRow_grown u b cs)
theorem entRow : (Try.prog.info? 33).map (·.size) = some 4 := by kernel_rfl

set_option maxHeartbeats 6400000 in
set_option maxRecDepth 100000 in
theorem newList_any (f : E.Fd) (w : World) :
    Calls Try.prog 45 #[.agg #[.int .i64 f.places, .int .i64 f.wilds, .int .i64 f.guards, .int .i64 f.close, .int .i64 f.freeze]] w fun e w' => e = .returned (.pointer (some ⟨w.heap.size + 1 + 1, 0, none⟩)) ∧ LAt w' w.heap.size (w.heap.size + 1 + 1) (w.heap.size + 1) 0 (E.St.new f) (.slice none 0 0) (.slice none 0 0) ∧ Below w.heap.size w w' := by
  have hmm := @Go.RowKit.run_makeMap Try.prog
  go_enter Try.func45, Try.ntmps45
  go_wp2_with fail
  go_ret
  refine ⟨rfl, ⟨by omega, by omega, ?_, ?_, World.ownsRow_nil _ _ _ _, World.ownsRow_nil _ _ _ _, fun g hg => by cases hg⟩, by (repeat' first | exact zbR _ _ | assumption | refine zbD ?_ | refine zbA ?_ ?_ _ | refine zbS ?_ ?_ _ | refine zbT ?_ (by assumption) ?_ | (simp; done) | (simp; omega) | omega)⟩
  · refine alloc_new_at (by simp)
  · have := MapK.made (E := elP) (w.alloc (.cells #[.int .i64 f.places, .int .i64 f.wilds, .int .i64 f.guards, .int .i64 f.close, .int .i64 f.freeze] 23))
    have h2 := this.below (zbA (zbR _ _) (Nat.le_refl _) (.cells #[.int .i64 f.places, .int .i64 f.wilds, .int .i64 f.guards, .int .i64 f.close, .int .i64 f.freeze, .map (some (w.heap.size + 1)), .int .i64 0, .slice none 0 0, .slice none 0 0] 95))
    simp only [World.size_alloc] at h2
    exact h2

def EntPost (s : E.St) (w : World) (e : Ending) (w' : World) : Prop := ∃ A1 c1 A2 c2 A3 c3, e = .returned (.agg #[.slice A1 s.main.length c1, .slice A2 s.cards.length c2, .slice A3 s.alts.length c3, .int .i64 (s.f.places - (s.main.length : Int))]) ∧ w'.ownsRow w.heap.size 3 1 (.slice A1 s.main.length c1) s.main.length (flatI s.main) ∧ w'.ownsRow w.heap.size 3 1 (.slice A2 s.cards.length c2) s.cards.length (flatI s.cards) ∧ w'.ownsRow w.heap.size 3 1 (.slice A3 s.alts.length c3) s.alts.length (flatI s.alts) ∧ Below w.heap.size w w' ∧ s.alts.length ≤ 1000

set_option maxHeartbeats 6400000 in
set_option maxRecDepth 100000 in
theorem entries_any (base L B n : Nat) (s : E.St) (mv cv : Value) (w : World) (h : LAt w base L B n s mv cv) (ok : E.StOk s) (hn : n ≤ 1000) (hml : s.main.length ≤ 900) (hcl : s.cards.length ≤ 900) (hp0 : 0 ≤ s.f.places) (hp1 : s.f.places ≤ 900) :
    Calls Try.prog 33 #[.pointer (some ⟨L, 0, none⟩)] w (EntPost s w) := by
  obtain ⟨mA, mc, hmv⟩ := own_form h.main
  subst hmv
  obtain ⟨cA, cc, hcv⟩ := own_form h.cards
  subst hcv
  have hSof : ∀ v, Below w.heap.size w v → (fun w' => Below w.heap.size w w' ∧ w'.cell? ⟨L, 7, none⟩ = some (.slice mA s.main.length mc) ∧ w'.cell? ⟨L, 8, none⟩ = some (.slice cA s.cards.length cc) ∧ w'.cell? ⟨L, 0, none⟩ = some (.int .i64 s.f.places)) v := by
    intro v hb
    have hL := h.below hb
    exact ⟨hb, (hL.c 7).trans rfl, (hL.c 8).trans rfl, (hL.c 0).trans rfl⟩
  have HL := hide h
  have OK := hide ok
  have HN := hide hn
  have HML := hide hml
  have HCL := hide hcl
  have hm0 : (0 : Int) ≤ (s.main.length : Int) := by omega
  have hm1 : (s.main.length : Int) ≤ 900 := by omega
  clear h ok hn hml hcl
  go_enter Try.func33, Try.ntmps33
  go_upto_region 1 with fail
  obtain ⟨W0, hW0⟩ : ∃ W0, w.alloc (.cells #[.slice none 0 0, .slice none 0 0, .slice none 0 0, .int .i64 0] 33) = W0 := ⟨_, rfl⟩
  have HB0 := hide (show Below w.heap.size w W0 by rw [← hW0]; (repeat' first | exact zbR _ _ | assumption | refine zbD ?_ | refine zbA ?_ ?_ _ | refine zbS ?_ ?_ _ | refine zbT ?_ (by assumption) ?_ | (simp; done) | (simp; omega) | omega))
  have HQ00 := hide (show W0.heap[w.heap.size]? = some (.cells #[.slice none 0 0, .slice none 0 0, .slice none 0 0, .int .i64 0] 33 (0, 0)) by rw [← hW0]; exact World.alloc_heap_new _ _)
  rw [hW0]
  clear hW0
  obtain ⟨q, hq⟩ : ∃ q, w.heap.size = q := ⟨_, rfl⟩
  have HQL := hide (show w.heap.size ≤ q by omega)
  rw [hq] at HQ00 ⊢
  clear hq
  have HQ0 := hide (show W0.drew.heap[q]? = some (.cells #[.slice none 0 0, .slice none 0 0, .slice none 0 0, .int .i64 0] 33 (0, 0)) from HQ00.out)
  clear HQ00
  have hS : (fun w' => Below w.heap.size w w' ∧ w'.cell? ⟨L, 7, none⟩ = some (.slice mA s.main.length mc) ∧ w'.cell? ⟨L, 8, none⟩ = some (.slice cA s.cards.length cc) ∧ w'.cell? ⟨L, 0, none⟩ = some (.int .i64 s.f.places)) W0 := hSof _ HB0.out
  (try dsimp only at hS)
  refine wp_region_held_drew (S := (fun w' => Below w.heap.size w w' ∧ w'.cell? ⟨L, 7, none⟩ = some (.slice mA s.main.length mc) ∧ w'.cell? ⟨L, 8, none⟩ = some (.slice cA s.cards.length cc) ∧ w'.cell? ⟨L, 0, none⟩ = some (.int .i64 s.f.places))) (by kernel_rfl) ?_ (fun hD0 => ?_)
  · (try dsimp only); first | assumption | exact hSof _ (zbD HB0.out)
  refine tW ?_ 0 rfl (by kernel_rfl) (fun _ _ _ h => h) (by rfl) (by assumption) ?_ ?_; rotate_left; (focus (intro w hSw; (try dsimp only at hSw); go_simp; try with_reducible rfl)); try simp only [Act.put, zl, z0, z1]
  refine tW ?_ 1 rfl (by kernel_rfl) (fun _ _ _ h => h) (by rfl) (by assumption) ?_ ?_; rotate_left; (focus (intro w hSw; (try dsimp only at hSw); go_simp; try with_reducible rfl)); try simp only [Act.put, zl, z0, z1]
  refine tW ?_ 2 rfl (by kernel_rfl) (fun _ _ _ h => h) (by rfl) (by assumption) ?_ ?_; rotate_left; (focus (intro w hSw; (try dsimp only at hSw); go_simp; try with_reducible rfl)); try simp only [Act.put, zl, z0, z1]
  refine tW ?_ 3 rfl (by kernel_rfl) (fun _ _ _ h => h) (by rfl) (by assumption) ?_ ?_; rotate_left; (focus (intro w hSw; (try dsimp only at hSw); go_simp; try with_reducible rfl)); try simp only [Act.put, zl, z0, z1]
  refine tW ?_ 5 rfl (by kernel_rfl) (fun _ _ _ h => h) (by rfl) (by assumption) ?_ ?_; rotate_left; (focus (intro w hSw; (try dsimp only at hSw); go_simp; try with_reducible rfl)); try simp only [Act.put, zl, z0, z1]
  refine tW ?_ 6 rfl (by kernel_rfl) (fun _ _ _ h => h) (by rfl) (by assumption) ?_ ?_; rotate_left; (focus (intro w hSw; (try dsimp only at hSw); go_simp; try with_reducible rfl)); try simp only [Act.put, zl, z0, z1]
  refine tW ?_ 7 rfl (by kernel_rfl) (fun _ _ _ h => h) (by rfl) (by assumption) ?_ ?_; rotate_left; (focus (intro w hSw; (try dsimp only at hSw); go_simp; try with_reducible rfl)); try simp only [Act.put, zl, z0, z1]
  refine tW ?_ 8 rfl (by kernel_rfl) (fun _ _ _ h => h) (by rfl) (by assumption) ?_ ?_; rotate_left; (focus (intro w hSw; (try dsimp only at hSw); go_simp; try with_reducible rfl)); try simp only [Act.put, zl, z0, z1]
  refine tW ?_ 10 rfl (by kernel_rfl) (fun _ _ _ h => h) (by rfl) (by assumption) ?_ ?_; rotate_left; (focus (intro w hSw; (try dsimp only at hSw); go_simp; try with_reducible rfl)); try simp only [Act.put, zl, z0, z1]
  refine tW ?_ 12 rfl (by kernel_rfl) (fun _ _ _ h => h) (by rfl) (by assumption) ?_ ?_; rotate_left; (focus (intro w hSw; (try dsimp only at hSw); go_simp; try with_reducible rfl)); try simp only [Act.put, zl, z0, z1]
  refine tW ?_ 13 rfl (by kernel_rfl) (fun _ _ _ h => h) (by rfl) (by assumption) ?_ ?_; rotate_left; (focus (intro w hSw; (try dsimp only at hSw); go_simp; try with_reducible rfl)); try simp only [Act.put, zl, z0, z1]
  refine tW ?_ 14 rfl (by kernel_rfl) (fun _ _ _ h => h) (by rfl) (by assumption) ?_ ?_; rotate_left; (focus (intro w hSw; (try dsimp only at hSw); go_simp; try with_reducible rfl)); try simp only [Act.put, zl, z0, z1]
  refine tW ?_ 15 rfl (by kernel_rfl) (fun _ _ _ h => h) (by rfl) (by assumption) ?_ ?_; rotate_left; (focus (intro w hSw; (try dsimp only at hSw); go_simp; try with_reducible rfl)); try simp only [Act.put, zl, z0, z1]
  refine tW ?_ 16 rfl (by kernel_rfl) (fun _ _ _ h => h) (by rfl) (by assumption) ?_ ?_; rotate_left; (focus (intro w hSw; (try dsimp only at hSw); go_simp; try with_reducible rfl)); try simp only [Act.put, zl, z0, z1]
  refine tW ?_ 17 rfl (by kernel_rfl) (fun _ _ _ h => h) (by rfl) (by assumption) ?_ ?_; rotate_left; (focus (intro w hSw; (try dsimp only at hSw); go_simp; try with_reducible rfl)); try simp only [Act.put, zl, z0, z1]
  refine tW ?_ 18 rfl (by kernel_rfl) (fun _ _ _ h => h) (by rfl) (by assumption) ?_ ?_; rotate_left; (focus (intro w hSw; (try dsimp only at hSw); go_simp; try with_reducible rfl)); try simp only [Act.put, zl, z0, z1]
  refine tW ?_ 19 rfl (by kernel_rfl) (fun _ _ _ h => h) (by rfl) (by assumption) ?_ ?_; rotate_left; (focus (intro w hSw; (try dsimp only at hSw); go_simp; try with_reducible rfl)); try simp only [Act.put, zl, z0, z1]
  refine tW ?_ 20 rfl (by kernel_rfl) (fun _ _ _ h => h) (by rfl) (by assumption) ?_ ?_; rotate_left; (focus (intro w hSw; (try dsimp only at hSw); go_simp; try with_reducible rfl)); try simp only [Act.put, zl, z0, z1]
  refine tW ?_ 21 rfl (by kernel_rfl) (fun _ _ _ h => h) (by rfl) (by assumption) ?_ ?_; rotate_left; (focus (intro w hSw; (try dsimp only at hSw); go_simp; try with_reducible rfl)); try simp only [Act.put, zl, z0, z1]
  refine tW ?_ 22 rfl (by kernel_rfl) (fun _ _ _ h => h) (by rfl) (by assumption) ?_ ?_; rotate_left; (focus (intro w hSw; (try dsimp only at hSw); go_simp; try with_reducible rfl)); try simp only [Act.put, zl, z0, z1]
  refine wpAnyH_ready (rs := [4]) (by kernel_rfl) (by simp) ?_; refine consL 4 rfl (fun K hK => ?_) AllReadyH.nil
  (go_simp; go_at_call 47; refine (clone_any mA s.main.length mc s.main _ rfl (owns_RdI (HL.out.below' hD0.1).main rfl) (own_nil HL.out.main) (by have := HML.out; omega)).mono ?_; rintro e w91 ⟨A1, c1, rfl, ho9, hb9⟩; have hSn := hSof _ (zbT hD0.1 hb9 hD0.1.size); have HO1 := hide (owns_mono ho9 hD0.1.size); have HQ1 := hide ((hb9.block q (blk_lt HQ0.out)).trans HQ0.out); clear ho9 hb9; (try dsimp only at hSn))
  refine hK.out _ _ ?_ (fun hD1 => ?_)
  · (try dsimp only); first | assumption | exact hSof _ (zbD HB0.out)
  clear hK K hD0; try simp only [Act.put, zl, z0, z1]
  refine wpAnyH_ready (rs := [9]) (by kernel_rfl) (by simp) ?_; refine consL 9 rfl (fun K hK => ?_) AllReadyH.nil
  (go_simp; go_at_call 47; refine (clone_any cA s.cards.length cc s.cards _ rfl (owns_RdI (HL.out.below' hD1.1).cards rfl) (own_nil HL.out.cards) (by have := HCL.out; omega)).mono ?_; rintro e w92 ⟨A2, c2, rfl, ho9, hb9⟩; have hSn := hSof _ (zbT hD1.1 hb9 hD1.1.size); have HO2 := hide (owns_mono ho9 hD1.1.size); have HQ2 := hide ((hb9.block q (blk_lt HQ1.out)).trans HQ1.out); have HO1' := hide (owns_below HO1.out hb9); clear HO1; have HO1 := HO1'; clear HO1'; clear ho9 hb9; (try dsimp only at hSn))
  refine hK.out _ _ ?_ (fun hD2 => ?_)
  · (try dsimp only); first | assumption | exact hSof _ (zbD HB0.out)
  clear hK K hD1; try simp only [Act.put, zl, z0, z1]
  refine wpAnyH_ready (rs := [11]) (by kernel_rfl) (by simp) ?_; refine consL 11 rfl (fun K hK => ?_) AllReadyH.nil
  (go_simp; go_at_call 48; refine (alternates_any base L B n s _ _ _ (HL.out.below' hD2.1) OK.out HN.out (by have := HML.out; omega)).mono ?_; rintro e w93 ⟨A3, c3, rfl, ho9, hb9, hla9⟩; have HLA := hide hla9; clear hla9; have hSn := hSof _ (zbT hD2.1 hb9 hD2.1.size); have HO3 := hide (owns_mono ho9 hD2.1.size); have HQ3 := hide ((hb9.block q (blk_lt HQ2.out)).trans HQ2.out); have HO1' := hide (owns_below HO1.out hb9); have HO2' := hide (owns_below HO2.out hb9); clear ho9 hb9 HO1 HO2; (try dsimp only at hSn))
  refine hK.out _ _ ?_ (fun hD3 => ?_)
  · (try dsimp only); first | assumption | exact hSof _ (zbD HB0.out)
  clear hK K hD2; try simp only [Act.put, zl, z0, z1]
  refine tW ?_ 23 rfl (by kernel_rfl) (fun _ _ _ h => h) (by rfl) (by assumption) ?_ ?_; rotate_left; (focus (intro w hSw; (try dsimp only at hSw); go_simp; try with_reducible rfl)); try simp only [Act.put, zl, z0, z1]
  refine wpAnyH_ready (rs := [24]) (by kernel_rfl) (by simp) ?_; refine consL 24 rfl (fun K hK => ?_) AllReadyH.nil
  (refine step_row rfl 33 (.tmp 2) (.tmp 26) rfl _ _ rfl rfl 33 _ HQ3.out entRow rfl (by simp [Value.oneCell']) ?_; refine cap_row2 HQ3.out (fun W9 hqr hgr hbr => ?_); have hSn := hSof _ (hbr _ hD3.1 HQL.out); have H1R := hide (HO1'.out.kept hgr (.inr (row_ne HO1'.out HQ3.out (by decide)))); have H2R := hide (HO2'.out.kept hgr (.inr (row_ne HO2'.out HQ3.out (by decide)))); have H3R := hide (HO3.out.kept hgr (.inr (row_ne HO3.out HQ3.out (by decide)))); have HQR := hide hqr; clear hqr hgr hbr HO1' HO2' HO3 HQ3; (try dsimp only at hSn))
  refine hK.out _ _ ?_ (fun hD4 => ?_)
  · (try dsimp only); first | assumption | exact hSof _ (zbD HB0.out)
  clear hK K hD3; try simp only [Act.put, zl, z0, z1]
  refine wpAnyH_done (by kernel_rfl) ?_ _
  (try dsimp only [Act.put, List.getElem_toArray, List.getElem_cons_succ, List.getElem_cons_zero])
  (try simp only [zl, z0, z1])
  have HB9 := hide hSn.1
  clear hSn hS hSof
  have hw : IntKind.i64.wrap (s.f.places - (s.main.length : Int)) = s.f.places - (s.main.length : Int) := IntWalk.i64_in _ (by omega)
  rw [hw] at HQR
  clear hw
  have r0 : W9.cell? ⟨q, 0, none⟩ = some (.slice A1 s.main.length c1) := (blk_cell HQR.out 0).trans rfl
  have r1 : W9.cell? ⟨q, 1, none⟩ = some (.slice A2 s.cards.length c2) := (blk_cell HQR.out 1).trans rfl
  have r2 : W9.cell? ⟨q, 2, none⟩ = some (.slice A3 s.alts.length c3) := (blk_cell HQR.out 2).trans rfl
  have r3 : W9.cell? ⟨q, 3, none⟩ = some (.int .i64 (s.f.places - (s.main.length : Int))) := (blk_cell HQR.out 3).trans rfl
  go_wp2_with fail
  exact bodyPost_ret (v := .agg #[.slice A1 s.main.length c1, .slice A2 s.cards.length c2, .slice A3 s.alts.length c3, .int .i64 (s.f.places - (s.main.length : Int))]) (by simp [results, Try.results33, go_sem, r0, r1, r2, r3]) rfl ⟨A1, c1, A2, c2, A3, c3, rfl, H1R.out, H2R.out, H3R.out, HB9.out, HLA.out⟩

end Go.Proofs.Ytobjahlmjcnfoaa
