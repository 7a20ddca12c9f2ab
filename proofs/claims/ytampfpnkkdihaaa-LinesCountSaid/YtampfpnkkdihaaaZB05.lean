/-
  Part of a claim's texts: contracts of the program's functions and the plain functions that they compute, in build order.
-/
import Derived.ChangeKeysEq
import Derived.Laws.Tables
import Derived.IntWalk
import Derived.Test.YtampfpnkkdihaaaZB03
import Derived.Test.YtampfpnkkdihaaaZB04
namespace Go.Proofs.Ytampfpnkkdihaaa
open Go.RowKit
attribute [local go_sem ↓] Go.wp_at_zero Go.wp_at_succ

theorem run_eqA (a b c d : Int) (w : World) :
    (Op.equalIn 10000 64 (.agg #[.int .i64 a, .int .i64 b]) (.agg #[.int .i64 c, .int .i64 d])).run Try.prog w = .ok (a == c && b == d) w := by
  obtain ⟨i, hi⟩ : ∃ i, Try.prog.info? 3 = some i := Option.isSome_iff_exists.1 (by kernel_rfl)
  have hu : Try.prog.underlying 64 = some (.array 2 3) := by kernel_rfl
  have hc : Try.prog.cellsOf 3 = 1 := by kernel_rfl
  have hd := run_equalIn_array (P := Try.prog) w 9999 #[.int .i64 a, .int .i64 b] #[.int .i64 c, .int .i64 d] hu hi
  rw [show 9999 + 1 = 10000 from rfl] at hd
  rw [hd, hc]
  simp only [show List.range 2 = [0, 1] from rfl, Op.eqItems]
  by_cases h1 : a = c
  · by_cases h2 : b = d
    · simp [go_sem, h1, h2, Try.underlying3]
    · simp [go_sem, h1, h2, Try.underlying3]
  · simp [go_sem, h1, Try.underlying3]
attribute [local go_sem] run_eqA

namespace L
def core (a : Ap) : Ap := { a with A := none, c := 0 }
theorem stepR_core {each more : Int} {s : Rs} {a b : Ap} (h : core a = core b) : stepR each more s a = stepR each more s b := by
  obtain ⟨k, sd, sa, v, A, n, c, bx⟩ := a
  obtain ⟨k', sd', sa', v', A', n', c', bx'⟩ := b
  simp only [core, Ap.mk.injEq, true_and] at h
  obtain ⟨rfl, rfl, rfl, rfl, rfl, rfl⟩ := h
  rfl
theorem runFrom_core {each more : Int} : ∀ {l r : List Ap} {s : Rs}, l.map core = r.map core → runFrom each more s l = runFrom each more s r
  | [], [], s, _ => rfl
  | [], b :: r, s, h => by simp at h
  | a :: l, [], s, h => by simp at h
  | a :: l, b :: r, s, h => by
    simp only [List.map_cons, List.cons.injEq] at h
    simp only [runFrom]
    rw [stepR_core h.1, runFrom_core h.2]
theorem runD_le (each more : Int) (l : List Ap) : (runD each more l).length ≤ l.length := by
  unfold runD
  split
  · simp
  · have := runFrom_len (each := each) (more := more) (l := l) (s := rs0)
    simpa [rs0, runR] using this
end L
theorem runPost_core {each more : Int} {l r : List L.Ap} {w w' : World} {e : Ending} (h : l.map L.core = r.map L.core) (hp : RunPost each more l w e w') : RunPost each more r w e w' := by
  have hl : l.length = r.length := by simpa using congrArg List.length h
  have e0 : L.runR each more l = L.runR each more r := L.runFrom_core h
  have e1 : L.runBad each more l = L.runBad each more r := by unfold L.runBad; rw [e0, hl]
  unfold RunPost L.runD L.runL L.runE at hp ⊢
  rw [e0, e1] at hp
  exact hp
theorem rdS_keeps {S : Nat → Prop} {w w' : World} {B : Nat} {A : Option Addr} {ss : List L.St} (h : RdS w B A ss) (hk : Keeps S w w') (hB : B ≤ w.heap.size) (hS : ∀ b o, A = some ⟨b, o, none⟩ → S b) : RdS w' B A ss := fun k s hs => by
  obtain ⟨b, o, hA, hlt, h0, h1, h2, h3⟩ := h k s hs
  have z := hS b o hA
  have hl : b < w.heap.size := by omega
  exact ⟨b, o, hA, hlt, (hk.cell z hl).trans h0, (hk.cell z hl).trans h1, (hk.cell z hl).trans h2, (hk.cell z hl).trans h3⟩
theorem Keeps.of_grown {w w' : World} {row : Option Nat} (h : w.grownBy w' row) : Keeps (fun y => row ≠ some y) w w' :=
  ⟨⟨h.os, h.tape, h.output, h.size, fun i hi => absurd hi (Nat.not_lt_zero _)⟩, fun k hk hl => h.block k hl (fun e => hk e.symm)⟩
theorem grown_set (w : World) (a : Addr) (u : Value) : w.grownBy (w.setCell a u) (some a.block) := by
  have k := Keeps.setAt (S := fun y => y ≠ a.block) w a u (fun h => h rfl)
  exact ⟨k.rest.os, k.rest.tape, k.rest.output, k.rest.size, fun i hi hne => k.same i (fun e => hne (by rw [e])) hi⟩
theorem owns_set {w : World} {base : Nat} {e : TypeId} {size : Nat} {v : Value} {n : Nat} {xs : List Value} (h : w.ownsRow base e size v n xs) {a : Addr} (hne : v.ownBlock ≠ some a.block) (u : Value) : (w.setCell a u).ownsRow base e size v n xs :=
  h.kept (grown_set w a u) (.inr hne)
def ApOwn (w : World) (row : Option Nat) (l : List L.Ap) : Prop := ∀ a ∈ l, a.v.ss.length = a.n ∧ RdS w w.heap.size a.A a.v.ss ∧ (a.A = none → a.c = 0) ∧ ∀ b o, a.A = some ⟨b, o, none⟩ → row ≠ some b ∧ b < w.heap.size
theorem ApOwn.keeps {S : Nat → Prop} {w w' : World} {row row' : Option Nat} {l : List L.Ap} (h : ApOwn w row l) (hk : Keeps S w w') (hS : ∀ b, b < w.heap.size → row ≠ some b → S b ∧ row' ≠ some b) : ApOwn w' row' l := fun a ha => by
  obtain ⟨h1, h2, h3, h4⟩ := h a ha
  exact ⟨h1, (rdS_keeps h2 hk (Nat.le_refl _) (fun b o e => (hS b (h4 b o e).2 (h4 b o e).1).1)).mono hk.rest.size, h3, fun b o e => ⟨(hS b (h4 b o e).2 (h4 b o e).1).2, Nat.lt_of_lt_of_le (h4 b o e).2 hk.rest.size⟩⟩

set_option maxRecDepth 100000 in
set_option maxHeartbeats 6400000 in
theorem runsLaw_many (each more : Int) (A : Option Addr) (n c : Nat) (w : World) (h : 40 < n) :
    Calls Try.prog 14 #[.agg #[.int .i64 each, .int .i64 more], .slice A n c] w fun e w' => e = .returned (.bool true) ∧ Below w.heap.size w w' := by
  have h' : (40 : Int) < (n : Int) := by omega
  go_enter Try.func14, Try.ntmps14
  go_wp2_with (go_at_call 16; refine (works_any _).mono ?_; rintro e w19 ⟨rfl, hb19⟩)
  go_ret
  exact ⟨rfl, by (repeat' first | exact zbR _ _ | assumption | refine zbD ?_ | refine zbA ?_ ?_ _ | refine zbS ?_ ?_ _ | refine zbT ?_ (by assumption) ?_ | (simp; done) | (simp; omega) | omega)⟩

set_option maxRecDepth 100000 in
set_option maxHeartbeats 6400000 in
theorem runsLaw_few (each more : Int) (l : List L.Ap) (A : Option Addr) (n c : Nat) (w : World) (hn : l.length = n) (hr : RdA w w.heap.size A l) (h40 : n ≤ 40) :
    Calls Try.prog 14 #[.agg #[.int .i64 each, .int .i64 more], .slice A n c] w fun e w' => e = .returned (.bool true) ∧ Below w.heap.size w w' := by
  have HN := hide hn
  have HR := hide hr
  have hn40 : (n : Int) ≤ 40 := by omega
  obtain ⟨y1, hy1⟩ : ∃ y, (L.runL each more l).1 = y := ⟨_, rfl⟩
  obtain ⟨y2, hy2⟩ : ∃ y, (L.runL each more l).2 = y := ⟨_, rfl⟩
  obtain ⟨y3, hy3⟩ : ∃ y, L.runE each more l = y := ⟨_, rfl⟩
  have H1 := hide hy1
  have H2 := hide hy2
  have H3 := hide hy3
  clear hn hr hy1 hy2 hy3
  go_enter Try.func14, Try.ntmps14
  go_upto_region 1 with fail
  obtain ⟨W0, hW0⟩ : ∃ W0, w.alloc (.cells #[.int .i64 each, .int .i64 more] 62) = W0 := ⟨_, rfl⟩
  have gp : W0.heap[w.heap.size]? = some (.cells #[.int .i64 each, .int .i64 more] 62 (0, 0)) := by rw [← hW0]; exact World.alloc_heap_new _ _
  have gs : W0.heap.size = w.heap.size + 1 := by rw [← hW0]; simp
  have gB : Below w.heap.size w W0 := by rw [← hW0]; (repeat' first | exact zbR _ _ | assumption | refine zbD ?_ | refine zbA ?_ ?_ _ | refine zbS ?_ ?_ _ | refine zbT ?_ (by assumption) ?_ | (simp; done) | (simp; omega) | omega)
  rw [hW0]
  clear hW0
  obtain ⟨p, hp⟩ : ∃ p, w.heap.size = p := ⟨_, rfl⟩
  rw [hp]
  rw [hp] at gp
  have lp : p < W0.heap.size := by omega
  have HR0 := hide ((HR.out.below gB).mono (B' := W0.heap.size) gB.size)
  have GB := hide gB
  have GP := hide gp
  clear gp gB HR hp gs
  go_upto_region 5 with fail
  go_loopw [5, 6] (fun m t wr => ∃ i : Nat, i ≤ n ∧ t = .int .i64 i ∧ (∃ (own : List L.Ap) (sv : Option Addr) (c' : Nat), m = .slice sv i c' ∧ Hid (own.map L.core = (l.take i).map L.core) ∧ Hid (wr.ownsRow W0.heap.size 66 14 (.slice sv i c') i (flatA own)) ∧ Hid (ApOwn wr (Value.slice sv i c').ownBlock own)) ∧ Below W0.heap.size W0 wr) (fun _ t _ => n - (intOf t).toNat)
  case atStart => exact ⟨0, by omega, rfl, ⟨[], none, 0, rfl, hide rfl, hide (World.ownsRow_nil _ _ _ _), hide (fun a ha => by cases ha)⟩, Below.refl _ _⟩
  case round =>
    obtain ⟨i, hi, rfl, ⟨own, sv, c', rfl, HC, hown, HOS⟩, hB⟩ := hrel
    have qB := hB.size
    have hi0 : (0 : Int) ≤ (i : Int) := by omega
    have lpr : p < wr.heap.size := by omega
    have GBr := hide (GB.out.trans (hB.mono GB.out.size))
    by_cases hlt : i < n
    · obtain ⟨a, ha⟩ : ∃ a, l[i]? = some a := ⟨_, List.getElem?_eq_getElem (by have := HN.out; omega)⟩
      obtain ⟨b, o, hA, hbB, hat⟩ := (HR0.out.below hB) i a ha
      subst hA
      have hlt' : (i : Int) < (n : Int) := by omega
      have HATO := hide hat
      obtain ⟨c0, c1, c2, c3, c4, c5, c6, c7, c8, c9, c10, c11, c12, c13, hlen, hrd, hnil⟩ := hat
      have HLEN := hide hlen
      have HNIL := hide hnil
      have HRD := hide (hrd.mono (B' := wr.heap.size) qB)
      have HTK := hide (show (l.take (i + 1)).map L.core = (l.take i).map L.core ++ [L.core a] by rw [List.take_add_one, ha, Option.toList_some, List.map_append]; rfl)
      have lbr : b < wr.heap.size := by omega
      clear ha hlen hrd hnil
      cases hf : L.farB a.v
      · have HF := hide hf
        have ha40 : a.n ≤ 1000 := by have := (L.farB_no hf).1; have := HLEN.out; omega
        clear hf
        go_upto_region 9 with (go_at_call 28; refine (Far_any a.v a.A a.n a.c _ HLEN.out ((HRD.out.below (by (repeat' first | exact zbR _ _ | assumption | refine zbD ?_ | refine zbA ?_ ?_ _ | refine zbS ?_ ?_ _ | refine zbT ?_ (by assumption) ?_ | (simp; done) | (simp; omega) | omega))).mono (by first | (simp; done) | (simp; omega) | omega))).mono ?_; rintro e w2 ⟨rfl, hb2⟩; rw [HF.out])
        have q2 := hb2.size
        have HAT2 := hide (HATO.out.mono (B' := wr.heap.size) qB |>.below lbr hb2)
        obtain ⟨d0, d1, d2, d3, d4, d5, d6, d7, d8, d9, d10, d11, d12, d13, hl2, hrd2, hn2⟩ := HAT2.out
        have HRD2 := hide (hrd2.mono (B' := w2.heap.size) q2)
        have lb2 : b < w2.heap.size := by omega
        clear c0 c1 c2 c3 c4 c5 c6 c7 c8 c9 c10 c11 c12 c13 hrd2 hl2 hn2
        go_upto_region 10 with fail
        obtain ⟨W1, hW1⟩ : ∃ W1, w2.alloc (.cells #[.int .i64 a.kind, .int .i64 a.side, .int .i64 a.said, .int .i64 a.v.size, .slice a.A a.n a.c, .int .i64 a.v.wrong, .int .i64 a.v.hxl, .int .i64 a.v.hxh, .int .i64 a.v.hyl, .int .i64 a.v.hyh, .int .i64 a.b.l, .int .i64 a.b.r, .int .i64 a.b.b, .int .i64 a.b.t] 66) = W1 := ⟨_, rfl⟩
        have gk : W1.heap[w2.heap.size]? = some (.cells #[.int .i64 a.kind, .int .i64 a.side, .int .i64 a.said, .int .i64 a.v.size, .slice a.A a.n a.c, .int .i64 a.v.wrong, .int .i64 a.v.hxl, .int .i64 a.v.hxh, .int .i64 a.v.hyl, .int .i64 a.v.hyh, .int .i64 a.b.l, .int .i64 a.b.r, .int .i64 a.b.b, .int .i64 a.b.t] 66 (0, 0)) := by rw [← hW1]; exact World.alloc_heap_new _ _
        have gB1 : Below w2.heap.size w2 W1 := by rw [← hW1]; (repeat' first | exact zbR _ _ | assumption | refine zbD ?_ | refine zbA ?_ ?_ _ | refine zbS ?_ ?_ _ | refine zbT ?_ (by assumption) ?_ | (simp; done) | (simp; omega) | omega)
        have gs1 : W1.heap.size = w2.heap.size + 1 := by rw [← hW1]; simp
        rw [hW1]
        clear hW1 d0 d1 d2 d3 d4 d5 d6 d7 d8 d9 d10 d11 d12 d13 HAT2 HATO
        obtain ⟨k, hk⟩ : ∃ k, w2.heap.size = k := ⟨_, rfl⟩
        have lk : k < W1.heap.size := by omega
        have hrk : wr.heap.size ≤ k := by omega
        have HRD1 := hide ((HRD2.out.below gB1).mono (B' := W1.heap.size) (by omega))
        have HB1 := hide ((hb2.trans (gB1.mono q2)))
        rw [hk] at gk ⊢
        have GK := hide gk
        have ck0 := (blk_cell gk 0).trans rfl; have ck1 := (blk_cell gk 1).trans rfl; have ck2 := (blk_cell gk 2).trans rfl; have ck3 := (blk_cell gk 3).trans rfl; have ck4 := (blk_cell gk 4).trans rfl; have ck5 := (blk_cell gk 5).trans rfl; have ck6 := (blk_cell gk 6).trans rfl; have ck7 := (blk_cell gk 7).trans rfl; have ck8 := (blk_cell gk 8).trans rfl; have ck9 := (blk_cell gk 9).trans rfl; have ck10 := (blk_cell gk 10).trans rfl; have ck11 := (blk_cell gk 11).trans rfl; have ck12 := (blk_cell gk 12).trans rfl; have ck13 := (blk_cell gk 13).trans rfl
        clear gk gB1 gs1 hb2 q2 hk HRD2 lb2
        go_upto_region 11 with (go_at_call 26; refine (Copy_any a.v a.A a.n a.c _ HLEN.out ((HRD1.out.below (by (repeat' first | exact zbR _ _ | assumption | refine zbD ?_ | refine zbA ?_ ?_ _ | refine zbS ?_ ?_ _ | refine zbT ?_ (by assumption) ?_ | (simp; done) | (simp; omega) | omega))).mono (by first | (simp; done) | (simp; omega) | omega)) HNIL.out ha40).mono ?_; rintro e w3 ⟨A1, c1, rfl, hown3, hb3⟩; have bk3 := (hb3.block k lk).trans GK.out; have e30 := (blk_cell bk3 3).trans rfl; have e31 := (blk_cell bk3 4).trans rfl; have e32 := (blk_cell bk3 5).trans rfl; have e33 := (blk_cell bk3 6).trans rfl; have e34 := (blk_cell bk3 7).trans rfl; have e35 := (blk_cell bk3 8).trans rfl; have e36 := (blk_cell bk3 9).trans rfl; have f30 := blk_frozen bk3 3; have f31 := blk_frozen bk3 4; have f32 := blk_frozen bk3 5; have f33 := blk_frozen bk3 6; have f34 := blk_frozen bk3 7; have f35 := blk_frozen bk3 8; have f36 := blk_frozen bk3 9; have q3 := hb3.size; have z3k : k < w3.heap.size := (by omega))
        obtain ⟨W4, hW4⟩ : ∃ W4, World.setCell (World.setCell (World.setCell (World.setCell (World.setCell (World.setCell (World.setCell w3 ⟨k, 3, none⟩ (.int .i64 a.v.size)) ⟨k, 4, none⟩ (.slice A1 a.n c1)) ⟨k, 5, none⟩ (.int .i64 a.v.wrong)) ⟨k, 6, none⟩ (.int .i64 a.v.hxl)) ⟨k, 7, none⟩ (.int .i64 a.v.hxh)) ⟨k, 8, none⟩ (.int .i64 a.v.hyl)) ⟨k, 9, none⟩ (.int .i64 a.v.hyh) = W4 := ⟨_, rfl⟩
        have gk4 : W4.heap[k]? = some (.cells #[.int .i64 a.kind, .int .i64 a.side, .int .i64 a.said, .int .i64 a.v.size, .slice A1 a.n c1, .int .i64 a.v.wrong, .int .i64 a.v.hxl, .int .i64 a.v.hxh, .int .i64 a.v.hyl, .int .i64 a.v.hyh, .int .i64 a.b.l, .int .i64 a.b.r, .int .i64 a.b.b, .int .i64 a.b.t] 66 (0, 0)) := by rw [← hW4]; exact blk_set (blk_set (blk_set (blk_set (blk_set (blk_set (blk_set bk3 3 _) 4 _) 5 _) 6 _) 7 _) 8 _) 9 _
        have K4 : Keeps (fun y => y ≠ k) w3 W4 := by rw [← hW4]; exact (((((((Keeps.refl _ w3).st (fun h => h rfl)).st (fun h => h rfl)).st (fun h => h rfl)).st (fun h => h rfl)).st (fun h => h rfl)).st (fun h => h rfl)).st (fun h => h rfl)
        have hOlt : ∀ g, (Value.slice sv i c').ownBlock = some g → W0.heap.size ≤ g ∧ g < wr.heap.size := fun g hg => hown.out.lt g hg
        have hrne : (Value.slice sv i c').ownBlock ≠ some k := fun e => by have := hOlt k e; omega
        have gO4 : W4.ownsRow W0.heap.size 66 14 (.slice sv i c') i (flatA own) := by
          rw [← hW4]
          have h1 : Below wr.heap.size wr w3 := HB1.out.trans (hb3.mono (by have := HB1.out.size; omega))
          have := owns_below hown.out h1
          exact owns_set (owns_set (owns_set (owns_set (owns_set (owns_set (owns_set (this) hrne _) hrne _) hrne _) hrne _) hrne _) hrne _) hrne _
        have KR : Keeps (fun y => y < wr.heap.size) wr W4 := by
          have h1 : Below wr.heap.size wr w3 := HB1.out.trans (hb3.mono (by have := HB1.out.size; omega))
          exact (Keeps.of_below h1).trans (K4.less (fun y hy => by show y ≠ k; omega))
        have gA4 : ApOwn W4 (Value.slice sv i c').ownBlock own := HOS.out.keeps KR (fun b hb hne => ⟨hb, hne⟩)
        have hA1 : ∀ b o, A1 = some ⟨b, o, none⟩ → (Value.slice sv i c').ownBlock ≠ some b ∧ b < W4.heap.size ∧ b ≠ k := fun b o e => by
          have h1 := hown3.lt b (by rw [e]; rfl)
          have h2 := K4.rest.size
          exact ⟨fun e' => by have := hOlt b e'; omega, by omega, by omega⟩
        have gN4 : RdS W4 W4.heap.size A1 a.v.ss := (rdS_keeps (owns_RdS hown3 HLEN.out) K4 (Nat.le_refl _) (fun b o e => (hA1 b o e).2.2)).mono K4.rest.size
        have gN0 : A1 = none → c1 = 0 := fun e => by
          rcases hown3.2 with ⟨h, _⟩ | ⟨g, cap, cur, h, _⟩
          · simp only [Value.slice.injEq] at h; exact h.2.2
          · simp only [Value.slice.injEq] at h; rw [e] at h; cases h.1
        have gB4 : Below W0.heap.size W0 W4 := hB.trans (KR.below (n := W0.heap.size) (fun y hy => by show y < wr.heap.size; omega) qB)
        rw [hW4]
        clear hW4 e30 e31 e32 e33 e34 e35 e36 f30 f31 f32 f33 f34 f35 f36 bk3 ck0 ck1 ck2 ck3 ck4 ck5 ck6 ck7 ck8 ck9 ck10 ck11 ck12 ck13 hb3 q3 z3k hown3 K4 GK
        have ck0 := (blk_cell gk4 0).trans rfl; have ck1 := (blk_cell gk4 1).trans rfl; have ck2 := (blk_cell gk4 2).trans rfl; have ck3 := (blk_cell gk4 3).trans rfl; have ck4 := (blk_cell gk4 4).trans rfl; have ck5 := (blk_cell gk4 5).trans rfl; have ck6 := (blk_cell gk4 6).trans rfl; have ck7 := (blk_cell gk4 7).trans rfl; have ck8 := (blk_cell gk4 8).trans rfl; have ck9 := (blk_cell gk4 9).trans rfl; have ck10 := (blk_cell gk4 10).trans rfl; have ck11 := (blk_cell gk4 11).trans rfl; have ck12 := (blk_cell gk4 12).trans rfl; have ck13 := (blk_cell gk4 13).trans rfl
        have lk4 := blk_lt gk4
        have HO4 := hide gO4
        have HA4 := hide gA4
        have HN4 := hide gN4
        have HN0 := hide gN0
        have HAB := hide hA1
        have HB4 := hide gB4
        have q4 := gB4.size
        have HNEW := hide (show (own ++ [{ a with A := A1, c := c1 }]).map L.core = (l.take (i + 1)).map L.core by rw [HTK.out, List.map_append, HC.out]; rfl)
        clear gk4 gO4 gA4 gN4 gN0 gB4 hA1 hOlt hrne KR HOS hown HRD1 HRD HB1
        go_wp2_with (refine wpList_app_aps rfl (.tmp 39) (.tmp 41) rfl W0.heap.size _ own i rfl (HO4.out.alloc _) (some ⟨_, 0, none⟩) 1 1 [{ a with A := A1, c := c1 }] rfl rfl (rdA_one (a := { a with A := A1, c := c1 }) (World.alloc_heap_new _ _) HLEN.out ((HN4.out.below ((Below.refl _ _).alloc (Nat.le_refl _) _)).mono (by simp)) HN0.out) (fun e => by cases e) (by omega) (by omega) (by simp; omega) (i + 1) rfl ?_; intro A7 c7 w7 hown7 hgrow hblk; have hg7 := grown_below (B := W0.heap.size) hgrow (by simp; omega) (fun g hg => (HO4.out.lt g hg).1); have HO7 := hide hown7; have HG7 := hide hgrow; have HK7 := hide hblk; clear hown7 hgrow hblk)
        go_roundw
        case rel =>
          refine ⟨i + 1, by omega, by go_num, ⟨_, A7, c7, rfl, HNEW, HO7, hide ?_⟩, (HB4.out.trans ((Below.refl _ _).alloc q4 _)).trans hg7⟩
          have KA : Keeps (fun y => (Value.slice sv i c').ownBlock ≠ some y) W4 w7 := (Keeps.of_below ((Below.refl _ _).alloc (Nat.le_refl _) _)).trans (Keeps.of_grown HG7.out)
          have hnew : ∀ b, b < W4.heap.size → (Value.slice sv i c').ownBlock ≠ some b → (Value.slice A7 (i + 1) c7).ownBlock ≠ some b := fun b hb hne e => by
            rcases HK7.out with h | h
            · rw [h] at e; exact hne e
            · rw [h] at e
              injection e with e
              simp at e
              omega
          intro x hx
          rcases List.mem_append.1 hx with hx | hx
          · exact HA4.out.keeps KA (fun b hb hne => ⟨hne, hnew b hb hne⟩) x hx
          · obtain rfl := List.mem_singleton.1 hx
            exact ⟨HLEN.out, (rdS_keeps HN4.out KA (Nat.le_refl _) (fun b o e => (HAB.out b o e).1)).mono KA.rest.size, HN0.out, fun b o e => ⟨hnew b (HAB.out b o e).2.1 (HAB.out b o e).1, Nat.lt_of_lt_of_le (HAB.out b o e).2.1 KA.rest.size⟩⟩
        case measure => simp [intOf]; omega
      · have HF := hide hf
        clear hf
        go_wp2_with (first | (go_at_call 28; refine (Far_any a.v a.A a.n a.c _ HLEN.out ((HRD.out.below (by (repeat' first | exact zbR _ _ | assumption | refine zbD ?_ | refine zbA ?_ ?_ _ | refine zbS ?_ ?_ _ | refine zbT ?_ (by assumption) ?_ | (simp; done) | (simp; omega) | omega))).mono (by first | (simp; done) | (simp; omega) | omega))).mono ?_; rintro e w2 ⟨rfl, hb2⟩; rw [HF.out]) | (go_at_call 16; refine (works_any _).mono ?_; rintro e w19 ⟨rfl, hb19⟩))
        go_ret
        exact ⟨rfl, (GBr.out.trans (hb2.mono (by have := GBr.out.size; omega))).trans (hb19.mono (by have := GBr.out.size; have := hb2.size; omega))⟩
    · have hin : i = n := by omega
      subst hin
      have HSAME := hide (show own.map L.core = l.map L.core by rw [HC.out, List.take_of_length_le (by have := HN.out; omega)])
      have hol : own.length = i := by have := congrArg List.length HSAME.out; simp only [List.length_map] at this; have := HN.out; omega
      have HRO := hide (owns_RdA hown.out hol rfl (fun a ha => ⟨(HOS.out a ha).1, (HOS.out a ha).2.1, (HOS.out a ha).2.2.1⟩))
      have HOL := hide hol
      have HRL := hide ((HR0.out.below hB).mono (B' := wr.heap.size) qB)
      have bp := (hB.block p lp).trans GP.out
      have cp0 := (blk_cell bp 0).trans rfl; have cp1 := (blk_cell bp 1).trans rfl
      clear bp hol
      go_wp2_with (first | (go_at_call 33; refine (Run_any each more own sv _ c' _ HOL.out ((HRO.out.below (by (repeat' first | exact zbR _ _ | assumption | refine zbD ?_ | refine zbA ?_ ?_ _ | refine zbS ?_ ?_ _ | refine zbT ?_ (by assumption) ?_ | (simp; done) | (simp; omega) | omega))).mono (by first | (simp; done) | (simp; omega) | omega))).mono ?_; rintro e w8 hpost; obtain ⟨sv8, c8, rfl, hown8, hb8⟩ := runPost_core HSAME.out hpost; rw [H1.out, H2.out, H3.out]; have HI8 := hide (owns_RdI hown8 rfl); clear hown8 hpost; obtain ⟨hc8, hf8⟩ := bcell hb8; have q8 := hb8.size; (try simp only [World.size_alloc] at q8); have z8_p : p < w8.heap.size := (by omega)) | (go_at_call 45; refine (refRun_any each more l A _ c _ HN.out ((HRL.out.below (by (repeat' first | exact zbR _ _ | assumption | refine zbD ?_ | refine zbA ?_ ?_ _ | refine zbS ?_ ?_ _ | refine zbT ?_ (by assumption) ?_ | (simp; done) | (simp; omega) | omega))).mono (by first | (simp; done) | (simp; omega) | omega))).mono ?_; rintro e w9 ⟨sv9, c9, rfl, hown9, hb9⟩; rw [H1.out, H2.out, H3.out]; have HI9 := hide (owns_RdI hown9 rfl); clear hown9; obtain ⟨hc9, hf9⟩ := bcell hb9; have q9 := hb9.size; (try simp only [World.size_alloc] at q9); have z9_p : p < w9.heap.size := (by omega); have zn98 : w8.heap.size < w9.heap.size := (by omega)) | (go_at_call 34; refine (sameInts_any sv8 sv9 _ c8 c9 (L.runD each more l) _ rfl ((HI8.out.below (by (repeat' first | exact zbR _ _ | assumption | refine zbD ?_ | refine zbA ?_ ?_ _ | refine zbS ?_ ?_ _ | refine zbT ?_ (by assumption) ?_ | (simp; done) | (simp; omega) | omega))).mono (by first | (simp; done) | (simp; omega) | omega)) ((HI9.out.below (by (repeat' first | exact zbR _ _ | assumption | refine zbD ?_ | refine zbA ?_ ?_ _ | refine zbS ?_ ?_ _ | refine zbT ?_ (by assumption) ?_ | (simp; done) | (simp; omega) | omega))).mono (by first | (simp; done) | (simp; omega) | omega)) (by have := L.runD_le each more l; have := HN.out; omega)).mono ?_; rintro e w10 ⟨rfl, hb10⟩; obtain ⟨hc10, hf10⟩ := bcell hb10; have q10 := hb10.size; (try simp only [World.size_alloc] at q10); have z10_p : p < w10.heap.size := (by omega); have zn108 : w8.heap.size < w10.heap.size := (by omega); have zn109 : w9.heap.size < w10.heap.size := (by omega)) | (go_at_call 16; refine (works_any _).mono ?_; rintro e w19 ⟨rfl, hb19⟩))
      go_ret
      exact ⟨rfl, GBr.out.trans ((show Below wr.heap.size wr _ by (repeat' first | exact zbR _ _ | assumption | refine zbD ?_ | refine zbA ?_ ?_ _ | refine zbS ?_ ?_ _ | refine zbT ?_ (by assumption) ?_ | (simp; done) | (simp; omega) | omega)).mono GBr.out.size)⟩

theorem runsLaw_any (each more : Int) (l : List L.Ap) (A : Option Addr) (n c : Nat) (w : World) (hn : l.length = n) (hr : RdA w w.heap.size A l) :
    Calls Try.prog 14 #[.agg #[.int .i64 each, .int .i64 more], .slice A n c] w fun e w' => e = .returned (.bool true) ∧ Below w.heap.size w w' := by
  rcases Nat.lt_or_ge 40 n with h | h
  · exact runsLaw_many each more A n c w h
  · exact runsLaw_few each more l A n c w hn hr h

end Go.Proofs.Ytampfpnkkdihaaa

namespace Go.Proofs.Ytampfpnkkdihaaa
open Go.RowKit

theorem row_ne {w : World} {base b : Nat} {e : TypeId} {n size : Nat} {xs : List Value} {v : Value} {cs : Array Value} {t : TypeId} (h : w.ownsRow base e size v n xs) (hb : w.heap[b]? = some (.cells cs t (0, 0))) (ht : e ≠ t) : v.ownBlock ≠ some b := by
  rcases h.2 with ⟨rfl, _⟩ | ⟨g, cap, cur, rfl, _, hh, _⟩
  · simp [Value.ownBlock]
  · intro he
    have hgb : g = b := by simpa [Value.ownBlock] using he
    subst hgb
    rw [hb] at hh
    simp only [Option.some.injEq, Obj.cells.injEq] at hh
    exact ht hh.2.1.symm

theorem below_row {B : Nat} {a w : World} (h : Below B a w) {b : Nat} (hb : B ≤ b) (cs : Array Value) : Below B a (w.setRow b cs) :=
  ⟨h.os, h.tape, h.output, by simp only [size_setRow]; exact h.size, fun i hi => (setRow_other _ _ i _ (by omega)).trans (h.block i hi)⟩
theorem alloc_new_at {w : World} {O : Obj} {k : Nat} (h : k = w.heap.size) : (w.alloc O).heap[k]? = some O := by subst h; exact World.alloc_heap_new w O
theorem drew_size (W : World) : W.drew.heap.size = W.heap.size := rfl
theorem cap_alloc {K : Act → World → Prop} {a : Act} {u : World} {O : Obj} (h : (u.alloc O).heap[u.heap.size]? = some O → Below u.heap.size u (u.alloc O) → u.heap.size ≤ u.heap.size → K a (u.alloc O)) : K a (u.alloc O) := h (World.alloc_heap_new u O) (zbA (zbR _ _) (Nat.le_refl _) O) (Nat.le_refl _)
theorem cap_allocD {K : Act → World → Prop} {a : Act} {u : World} {O : Obj} (h : (u.alloc O).heap[u.heap.size]? = some O → Below u.heap.size u (u.alloc O) → u.heap.size ≤ u.heap.size → K a (u.alloc O).drew) : K a (u.alloc O).drew := h (World.alloc_heap_new u O) (zbA (zbR _ _) (Nat.le_refl _) O) (Nat.le_refl _)
theorem cap_gen {K : Act → World → Prop} {a : Act} {W : World} (h : ∀ W', W' = W → K a W') : K a W := h W rfl
theorem step_row_count {P : Program} {w : World} {ops : Array Oper} {o : Oper} {a : Act} {K : Act → World → Prop} {Q : Exit → Act → World → Prop} {E : Prop} (hgd : o.guard = none) (ty : TypeId) (x y : Operand) (ho : o.op = .store ty x y)
    (g : Nat) (cells : Array Value) (hx : a.eval x = .pointer (some ⟨g, 0, none⟩)) (hy : a.eval y = .agg cells)
    (t : TypeId) (old : Array Value) (hg : w.heap[g]? = some (.cells old t (0, 0))) (hi : (P.info? ty).map (·.size) = some cells.size)
    (hold : old.size = cells.size) (h1 : cells.all (·.oneCell') = true)
    (h : K (a.put o.dst undef) (w.setRow g cells)) : if Region.wanted o (yielded ops a.tmps) = true then Oper.wp P o a w K Q else E := by
  have hw : Region.wanted o (yielded ops a.tmps) = true := by simp [Region.wanted, hgd]
  rw [if_pos hw]
  exact wp_store_row ty x y ho g cells hx hy t old hg hi hold h1 h
theorem arrRow : (Try.prog.info? 64).map (·.size) = some 2 := by kernel_rfl
theorem step_app_aps {w : World} {ops : Array Oper} {o : Oper} {a : Act} {K : Act → World → Prop} {Q : Exit → Act → World → Prop} {E : Prop} (hgd : o.guard = none) (s x : Operand)
    (ho : o.op = .call { callee := .builtin .append, args := #[s, x], argTypes := #[63, 63] }) (base : Nat) (v : Value) (ps : List L.Ap) (m0 : Nat) (hs : a.eval s = v) (hown : w.ownsRow base 66 14 v m0 (flatA ps))
    (A : Option Addr) (n c : Nat) (ss : List L.Ap) (hx : a.eval x = .slice A n c) (hn : ss.length = n) (hr : RdA w w.heap.size A ss) (hA : A = none → c = 0) (h0 : m0 ≤ 1000000) (h1 : n ≤ 1000) (hbase : base ≤ w.heap.size) (N : Nat) (hN : m0 + n = N)
    (h : ∀ A' c' w', w'.ownsRow base 66 14 (.slice A' N c') N (flatA (ps ++ ss)) → w.grownBy w' v.ownBlock → K (a.put o.dst (.slice A' N c')) w') :
    if Region.wanted o (yielded ops a.tmps) = true then Oper.wp Try.prog o a w K Q else E := by
  subst hN
  have hw : Region.wanted o (yielded ops a.tmps) = true := by simp [Region.wanted, hgd]
  rw [if_pos hw]
  obtain ⟨A', c', w', hr', h2, h3, _⟩ := run_app_aps o.type base v ps m0 hown A n c ss hn hr hA h0 h1 hbase
  unfold Oper.wp execOp
  simp only [ho, resolve, invoke, builtin, Sem.run_bind, Sem.run_pure, Result.andThen_ok, List.map_toArray, List.map_cons, List.map_nil, hs, hx, hr']
  exact h A' c' w' h2 h3
theorem own_new {w : World} {q B : Nat} (hq : w.heap[q]? = some (.cells #[.int .i64 1, .int .i64 0, .int .i64 0, .int .i64 0, .slice none 0 0, .int .i64 0, .int .i64 0, .int .i64 0, .int .i64 0, .int .i64 0, .int .i64 0, .int .i64 0, .int .i64 0, .int .i64 0] 66 (0, 0))) (h : B ≤ q) : w.ownsRow B 66 14 (.slice (some ⟨q, 0, none⟩) 1 1) 1 (flatA [L.apNew]) :=
  ⟨rfl, .inr ⟨q, 1, _, rfl, h, hq, Nat.le_refl _, (by decide), rfl, rfl⟩⟩
theorem apNew_rd (w : World) (B : Nat) : RdS w B L.apNew.A L.apNew.v.ss := by
  intro k s h
  have h' : ([] : List L.St)[k]? = some s := h
  simp at h'
theorem apNew_in (w : World) (B : Nat) : ApsIn w B [L.apNew] := fun a ha => by
  obtain rfl := List.mem_singleton.1 ha
  exact ⟨rfl, apNew_rd w B, fun _ => rfl⟩
theorem apTie_rd (w : World) (B : Nat) : RdS w B L.apTie.A L.apTie.v.ss := by
  intro k s h
  have h' : ([] : List L.St)[k]? = some s := h
  simp at h'
theorem apTie_in (w : World) (B : Nat) : ApsIn w B [L.apTie] := fun a ha => by
  obtain rfl := List.mem_singleton.1 ha
  exact ⟨rfl, apTie_rd w B, fun _ => rfl⟩
theorem run_cnt1 (each more : Int) (l : List L.Ap) (s : L.Rs) (h : L.CountFin each more l s) (A : Option Addr) (n c B : Nat) (w : World) (hn : l.length = n) (hown : w.ownsRow B 66 14 (.slice A (n + 1) c) (n + 1) (flatA ([L.apNew] ++ l))) (hin : ApsIn w w.heap.size l) :
    Calls Try.prog 33 #[.agg #[.int .i64 each, .int .i64 more], .slice A (n + 1) c] w fun e w' => ∃ (sv : Option Addr) (c' : Nat), e = .returned (.tuple #[.slice sv s.ds.length c', .agg #[.int .i64 s.l0, .int .i64 s.l1], .int .i64 0]) ∧ w'.ownsRow w.heap.size 3 1 (.slice sv s.ds.length c') s.ds.length (flatI s.ds) ∧ Below w.heap.size w w' := by
  have hl : ([L.apNew] ++ l).length = n + 1 := by rw [List.length_append, hn]; show 1 + n = n + 1; omega
  refine (Run_any each more ([L.apNew] ++ l) A (n + 1) c w hl (owns_RdA hown hl rfl (ApsIn.app (apNew_in _ _) hin))).mono ?_
  rintro e w' ⟨sv, c', rfl, ho, hb⟩
  have e1 : L.runD each more ([L.apNew] ++ l) = s.ds := h.d
  have e2 : (L.runL each more ([L.apNew] ++ l)).1 = s.l0 := h.l0
  have e3 : (L.runL each more ([L.apNew] ++ l)).2 = s.l1 := h.l1
  have e4 : L.runE each more ([L.apNew] ++ l) = 0 := h.e
  rw [e1] at ho ⊢
  rw [e2, e3, e4]
  exact ⟨sv, c', rfl, ho, hb⟩
theorem run_cnt2 (each more : Int) (l : List L.Ap) (s : L.Rs) (h : L.CountFin each more l s) (A : Option Addr) (n c B : Nat) (w : World) (hn : l.length = n) (hown : w.ownsRow B 66 14 (.slice A (n + 2) c) (n + 2) (flatA ([L.apNew] ++ l ++ [L.apTie]))) (hin : ApsIn w w.heap.size l) :
    Calls Try.prog 33 #[.agg #[.int .i64 each, .int .i64 more], .slice A (n + 2) c] w fun e w' => ∃ (sv : Option Addr) (c' : Nat), e = .returned (.tuple #[.slice sv s.ds.length c', .agg #[.int .i64 (s.l0 + more), .int .i64 (s.l1 + more)], .int .i64 0]) ∧ w'.ownsRow w.heap.size 3 1 (.slice sv s.ds.length c') s.ds.length (flatI s.ds) ∧ Below w.heap.size w w' := by
  have hl : ([L.apNew] ++ l ++ [L.apTie]).length = n + 2 := by rw [List.length_append, List.length_append, hn]; show 1 + n + 1 = n + 2; omega
  refine (Run_any each more ([L.apNew] ++ l ++ [L.apTie]) A (n + 2) c w hl (owns_RdA hown hl rfl (ApsIn.app (ApsIn.app (apNew_in _ _) hin) (apTie_in _ _)))).mono ?_
  rintro e w' ⟨sv, c', rfl, ho, hb⟩
  have e1 : L.runD each more ([L.apNew] ++ l ++ [L.apTie]) = s.ds := h.d'
  have e2 : (L.runL each more ([L.apNew] ++ l ++ [L.apTie])).1 = s.l0 + more := h.l0'
  have e3 : (L.runL each more ([L.apNew] ++ l ++ [L.apTie])).2 = s.l1 + more := h.l1'
  have e4 : L.runE each more ([L.apNew] ++ l ++ [L.apTie]) = 0 := h.e'
  rw [e1] at ho ⊢
  rw [e2, e3, e4]
  exact ⟨sv, c', rfl, ho, hb⟩
theorem setRow_grown (w : World) (b : Nat) (cs : Array Value) : w.grownBy (w.setRow b cs) (some b) := ⟨rfl, rfl, rfl, by simp, fun k _ hk => setRow_other w _ k _ (fun e => hk (by rw [e]))⟩

end Go.Proofs.Ytampfpnkkdihaaa

namespace Go.Proofs.Ytampfpnkkdihaaa
open Go.RowKit
attribute [local go_sem ↓] Go.wp_at_zero Go.wp_at_succ
attribute [local go_sem] run_eqA

def regOf (n : Nat) : Code → Option Code
  | .region k ops d => if k == n then some (.region k ops d) else none
  | .seq a b => match regOf n a with
    | some c => some c
    | none => regOf n b
  | .block _ c => regOf n c
  | .loop c => regOf n c
  | .cond _ a b => match regOf n a with
    | some c => some c
    | none => regOf n b
  | _ => none
noncomputable def cntReg (n : Nat) : Code := ((Try.f9.body.bind (regOf n)).getD .skip)

end Go.Proofs.Ytampfpnkkdihaaa
