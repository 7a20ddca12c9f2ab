/-
  Part of a claim's texts: contracts of the program's functions and the plain functions that they compute, in build order.
-/
import Derived.KernelRfl
import Derived.Test.YtoaogpipogeamaaRows
import Derived.WalkKit
import Derived.WalkSpells
import Derived.WalkLawsBesides
import Derived.DeepKeys4
import Derived.Maps.OwnOps
import Derived.Maps.Views
import Derived.Maps.OwnSet
import Derived.Test.YtoaogpipogeamaaZB01
import Derived.Test.YtoaogpipogeamaaZB02
import Derived.Test.YtoaogpipogeamaaZB03
import Derived.Test.YtoaogpipogeamaaZB07
namespace Go.Proofs.Ytoaogpipogeamaa
open Go.RowKit
namespace M
def exM : Mt := (playF (start exF 0) exP).getD noM
theorem ex_some : (playF (start exF 0) exP).isSome = true := by decide +kernel
theorem ex_facts : exM.server = 1 ∧ exM.ends = 3 ∧ exM.balls = 2 ∧ exM.winner = -1 ∧ exM.sets = [⟨3, 1⟩] ∧ exM.games = ⟨0, 1⟩ ∧ exM.pts = ⟨0, 0⟩ := by decide +kernel
theorem ex_playM : playM exF 0 exP = exM := by
  unfold playM exM
  rw [if_pos (by decide +kernel), if_pos (by decide +kernel), if_neg (by decide +kernel)]
theorem ex_playE : playE exF 0 exP = 0 := by decide +kernel
theorem ex_ways : waysV exF [⟨2, 3⟩] = 4 ∧ waysE exF [⟨2, 3⟩] = 0 := by decide +kernel
theorem ex_least : leastV exF [] zero zero 0 = 16 ∧ leastE exF [] zero zero 0 = 0 := by decide +kernel
end M
end Go.Proofs.Ytoaogpipogeamaa

namespace Go.Proofs.Ytoaogpipogeamaa
open Go.RowKit Go

theorem run_eql_pair (a b c d : Int) (w : World) :
    (binOp .eql 32 (.agg #[.int .i64 a, .int .i64 b]) (.agg #[.int .i64 c, .int .i64 d])).run Try.prog w = .ok (.bool (a == c && b == d)) w := by
  by_cases h1 : a = c
  · by_cases h2 : b = d
    · simp [go_sem, h1, h2, Try.underlying32]
    · simp [go_sem, h1, h2, Try.underlying32]
  · simp [go_sem, h1, Try.underlying32]

end Go.Proofs.Ytoaogpipogeamaa

namespace Go.Proofs.Ytoaogpipogeamaa
open Go.RowKit
theorem run_neq_pair (a b c d : Int) (w : World) :
    (binOp .neq 32 (.agg #[.int .i64 a, .int .i64 b]) (.agg #[.int .i64 c, .int .i64 d])).run Try.prog w = .ok (.bool (!(a == c && b == d))) w := by
  by_cases h1 : a = c
  · by_cases h2 : b = d
    · simp [go_sem, h1, h2, Try.underlying32]
    · simp [go_sem, h1, h2, Try.underlying32]
  · simp [go_sem, h1, Try.underlying32]
attribute [local go_sem ↓] Go.wp_at_zero Go.wp_at_succ run_eql_pair run_neq_pair

theorem below_drewN {B : Nat} {a w : World} (h : Below B a w) (n : Nat) : Below B a (w.drewN n) := ⟨h.os, h.tape, h.output, h.size, h.block⟩
theorem pr_eq {g h : M.Pr} : (g.A == h.A && g.B == h.B) = decide (g = h) := by
  obtain ⟨a, b⟩ := g
  obtain ⟨c, d⟩ := h
  rw [Bool.eq_iff_iff]
  simp
def M.sameB (ps qs : List M.Pr) (g1 g2 p1 p2 : M.Pr) : Bool := decide (ps = qs) && decide (g1 = g2) && decide (p1 = p2)
theorem take_next {ps qs : List M.Pr} {k : Nat} {p q : M.Pr} (h : ps.take k = qs.take k) (hp : ps[k]? = some p) (hq : qs[k]? = some q) (he : p = q) : ps.take (k + 1) = qs.take (k + 1) := by
  rw [List.take_add_one, List.take_add_one, h, hp, hq, he]
theorem take_diff {ps qs : List M.Pr} {k : Nat} {p q : M.Pr} (hp : ps[k]? = some p) (hq : qs[k]? = some q) (he : p ≠ q) : ps ≠ qs := by
  rintro rfl
  rw [hp] at hq
  exact he (Option.some.inj hq)

set_option maxHeartbeats 4000000 in
theorem sameBoard_any (A1 A2 : Option Addr) (n1 n2 c1 c2 : Nat) (ps qs : List M.Pr) (g1 g2 p1 p2 : M.Pr) (w : World) (hn1 : ps.length = n1) (hn2 : qs.length = n2) (hr1 : RdP w w.heap.size A1 ps) (hr2 : RdP w w.heap.size A2 qs) (hm : n1 ≤ 1000000) (hm2 : n2 ≤ 1000000) :
    Calls Try.prog 22 #[.agg #[.slice A1 n1 c1, .int .i64 g1.A, .int .i64 g1.B, .int .i64 p1.A, .int .i64 p1.B], .agg #[.slice A2 n2 c2, .int .i64 g2.A, .int .i64 g2.B, .int .i64 p2.A, .int .i64 p2.B]] w fun e w' => e = .returned (.bool (M.sameB ps qs g1 g2 p1 p2)) ∧ Below w.heap.size w w' := by
  have HN1 := hide hn1
  have HN2 := hide hn2
  have HR1 := hide hr1
  have HR2 := hide hr2
  clear hn1 hn2 hr1 hr2
  cases hl : ((n1 : Int) != (n2 : Int))
  · obtain rfl : n1 = n2 := by simp at hl; omega
    cases hg : (g1.A == g2.A && g1.B == g2.B)
    · have ho : M.sameB ps qs g1 g2 p1 p2 = false := by unfold M.sameB; rw [← pr_eq (g := g1), hg]; simp
      rw [ho]; clear ho
      go_enter Try.func22, Try.ntmps22
      go_wp2_with fail
      go_ret
      exact ⟨rfl, by (repeat' first | exact zbR _ _ | assumption | refine zbD ?_ | refine zbA ?_ ?_ _ | refine zbS ?_ ?_ _ | refine zbT ?_ (by assumption) ?_ | (simp; done) | (simp; omega) | omega)⟩
    · cases hp : (p1.A == p2.A && p1.B == p2.B)
      · have ho : M.sameB ps qs g1 g2 p1 p2 = false := by unfold M.sameB; rw [← pr_eq (g := p1), hp]; simp
        rw [ho]; clear ho
        go_enter Try.func22, Try.ntmps22
        go_wp2_with fail
        go_ret
        exact ⟨rfl, by (repeat' first | exact zbR _ _ | assumption | refine zbD ?_ | refine zbA ?_ ?_ _ | refine zbS ?_ ?_ _ | refine zbT ?_ (by assumption) ?_ | (simp; done) | (simp; omega) | omega)⟩
      · have ho : M.sameB ps qs g1 g2 p1 p2 = decide (ps = qs) := by unfold M.sameB; rw [← pr_eq (g := g1), hg, ← pr_eq (g := p1), hp]; simp
        rw [ho]; clear ho
        go_enter Try.func22, Try.ntmps22
        go_wp2_with fail
        go_loopw [5] (fun i wr => ∃ k : Nat, k ≤ n1 ∧ i = .int .i64 k ∧ Hid (ps.take k = qs.take k) ∧ wr.cell? ⟨w.heap.size, 0, none⟩ = some (.slice A1 n1 c1) ∧ wr.cell? ⟨w.heap.size + 1, 0, none⟩ = some (.slice A2 n1 c2) ∧ Below w.heap.size w wr ∧ w.heap.size < wr.heap.size ∧ w.heap.size + 1 < wr.heap.size) (fun i _ => n1 - (intOf i).toNat)
        case atStart => exact ⟨0, by omega, rfl, hide rfl, by (first | (go_keep; done) | (go_split_ands; (repeat' apply And.intro) <;> first | (go_keep; done) | (simp [*, zcA, zcP, zfA, zfP]; done) | (simp [zcA, zcP] <;> rfl) | (simp [*, zsS, zsO, zsA]; done) | ((first | refine (hc _ _ ?_).trans ?_ | refine (hf _ _ ?_).trans ?_) <;> first | assumption | (simp; done) | (simp; omega) | omega | (go_keep; done) | (simp [*, zcA, zcP, zfA, zfP]; done) | (simp [zcA, zcP]; rfl)) | (repeat' first | exact zbR _ _ | assumption | refine zbD ?_ | refine zbA ?_ ?_ _ | refine zbS ?_ ?_ _ | refine zbT ?_ (by assumption) ?_ | (simp; done) | (simp; omega) | omega)))⟩
        case round =>
          obtain ⟨k, hk, rfl, hno, hS0⟩ := hrel
          by_cases hlt : k < n1
          · obtain ⟨p, hp'⟩ : ∃ q, ps[k]? = some q := ⟨_, List.getElem?_eq_getElem (by have := HN1.out; omega)⟩
            obtain ⟨q, hq'⟩ : ∃ q, qs[k]? = some q := ⟨_, List.getElem?_eq_getElem (by have := HN2.out; omega)⟩
            obtain ⟨b, o, hA, hbB, c0, c1'⟩ := (HR1.out.below hS0.2.2.1) k p hp'
            obtain ⟨b2, o2, hA2, hbB2, d0, d1⟩ := (HR2.out.below hS0.2.2.1) k q hq'
            subst hA hA2
            have HP := hide hp'
            have HQ := hide hq'
            clear hp' hq'
            have hlt' : (k : Int) < (n1 : Int) := by omega
            have hk0 : (0 : Int) ≤ (k : Int) := by omega
            obtain ⟨hx0, hx1, hB, hz0, hz1⟩ := hS0
            cases he : (p.A == q.A && p.B == q.B)
            · have hne : ps ≠ qs := take_diff HP.out HQ.out (by rw [pr_eq] at he; simpa using he)
              have hd : decide (ps = qs) = false := decide_eq_false hne
              have HDD := hide hd
              clear hne hd
              go_wp2_with fail
              go_quiet (fail)
              go_wp2_with fail
              go_ret
              exact ⟨by rw [HDD.out]; rfl, below_drewN hB _⟩
            · have HT := hide (take_next hno.out HP.out HQ.out (by rw [pr_eq] at he; simpa using he))
              go_wp2_with fail
              go_quiet (fail)
              go_wp2_with fail
              go_roundw
              case rel => exact ⟨k + 1, by omega, by go_num, HT, by simp [hx0], by simp [hx1], below_drewN hB _, by simp [hz0], by simp [hz1]⟩
              case measure => simp [intOf]; omega
          · have hkn : k = n1 := by omega
            have hall : ps = qs := by
              have := hno.out
              rwa [List.take_of_length_le (by have := HN1.out; omega), List.take_of_length_le (by have := HN2.out; omega)] at this
            have hd : decide (ps = qs) = true := decide_eq_true hall
            have HDD := hide hd
            clear hall hd
            subst hkn
            obtain ⟨hx0, hx1, hB, hz0, hz1⟩ := hS0
            go_wp2_with fail
            go_ret
            exact ⟨by rw [HDD.out]; rfl, by (repeat' first | exact zbR _ _ | assumption | refine zbD ?_ | refine zbA ?_ ?_ _ | refine zbS ?_ ?_ _ | refine zbT ?_ (by assumption) ?_ | (simp; done) | (simp; omega) | omega)⟩
  · have ho : M.sameB ps qs g1 g2 p1 p2 = false := by
      have : ps ≠ qs := by rintro rfl; have h1 := HN1.out; have h2 := HN2.out; simp at hl; omega
      unfold M.sameB; rw [decide_eq_false this]; rfl
    rw [ho]; clear ho
    go_enter Try.func22, Try.ntmps22
    go_wp2_with fail
    go_ret
    exact ⟨rfl, by (repeat' first | exact zbR _ _ | assumption | refine zbD ?_ | refine zbA ?_ ?_ _ | refine zbS ?_ ?_ _ | refine zbT ?_ (by assumption) ?_ | (simp; done) | (simp; omega) | omega)⟩

end Go.Proofs.Ytoaogpipogeamaa

namespace Go.Proofs.Ytoaogpipogeamaa
open Go.RowKit Go.Maps

theorem laidOut : laidOutB Try.prog = true := by kernel_rfl
theorem rowPair : 32 < Try.prog.types.size := of_decide_eq_true (by kernel_rfl)
theorem widePair : (match Try.prog.underlying 32 with | some (.array _ _) | some (.struct _) => true | _ => false) = true := by kernel_rfl
theorem pairKey : Try.prog.keyTypeAt 2 32 = true := by kernel_rfl
set_option maxRecDepth 100000 in
theorem pairLaw : WideMaps.KeyLaw Try.prog 32 := deep_law_laid laidOut (m := 2) (by omega) rowPair pairKey widePair
theorem pairKeyed : Keyed Try.prog 32 := Keyed.of_law pairLaw
theorem pairType : Try.prog.keyType 32 = true := by kernel_rfl
theorem pairCells : Try.prog.cellsOf 32 = 2 := by kernel_rfl
theorem intCells : Try.prog.cellsOf 3 = 1 := by kernel_rfl

def keyL (p : M.Pr) : Lit := .string (keyBytes [.int .i64 p.A, .int .i64 p.B])
theorem wfA {p : M.Pr} (hp : M.Small p) : (Lit.int .i64 p.A).wf = true := WalkArith.wf_i64 (by have := hp.a0; have := hp.a1; omega)
theorem wfB {p : M.Pr} (hp : M.Small p) : (Lit.int .i64 p.B).wf = true := WalkArith.wf_i64 (by have := hp.b0; have := hp.b1; omega)
theorem keyP_eq (p : M.Pr) (hp : M.Small p) : keyOf Try.prog 32 (.agg #[.int .i64 p.A, .int .i64 p.B]) = some (keyL p) := by
  obtain ⟨m, hm⟩ : ∃ m, Try.prog.types.size = m + 1 := ⟨Try.prog.types.size - 1, by have := rowPair; omega⟩
  unfold keyOf
  simp only [Try.underlying32]
  rw [if_pos (by simp [pairType, Value.formed, Try.underlying32, pairCells]), hm]
  unfold Program.keyLits
  simp only [Try.underlying32, Value.cells]
  rw [if_pos (by rw [pairCells]; exact ⟨rfl, by simp⟩)]
  simp [intCells, Program.keyLits, Try.underlying3, wfA hp, wfB hp, keyL]

theorem keyL_ne {p q : M.Pr} (hp : M.Small p) (hq : M.Small q) (h : p ≠ q) : keyL p ≠ keyL q := fun e => by
  have := pairKeyed.inj (keyP_eq p hp) (by rw [e]; exact keyP_eq q hq)
  injection this with this
  have h0 := congrArg (fun a : Array Value => a[0]?) this
  have h1 := congrArg (fun a : Array Value => a[1]?) this
  simp at h0 h1
  exact h (by cases p; cases q; simp_all)

def MapF (w : World) (B : Nat) (F : M.Pr → Int) (n : Nat) : Prop :=
  ∃ D : DataW Unit, IsMap D ∧ w.ownsMap Try.prog 32 (plainElem Try.prog 3) B n D ∧ ∀ p, M.Small p → D.atKey (keyL p) (.lit (.int .i64 0)) = .lit (.int .i64 (F p))

theorem zeroInt (w : World) : (zeroValue 3).run Try.prog w = .ok (.int .i64 0) w := by kernel_rfl

open Classical in
noncomputable def upd (F : M.Pr → Int) (p : M.Pr) (v : Int) : M.Pr → Int := fun q => if q = p then v else F q

theorem MapF.made (w : World) : MapF (w.alloc (.map #[] 0)) w.heap.size (fun _ => 0) 0 :=
  ⟨.map [], isMap_empty, World.ownsMap_made _ _ _ _, fun p _ => by simp [DataW.atKey]⟩
theorem MapF.lt {w : World} {B n : Nat} {F : M.Pr → Int} (h : MapF w B F n) : B < w.heap.size := by
  obtain ⟨D, _, h, _⟩ := h; exact h.lt
theorem MapF.below {w w' : World} {B n : Nat} {F : M.Pr → Int} (h : MapF w B F n) (hb : Below w.heap.size w w') : MapF w' B F n := by
  obtain ⟨D, hi, h, hF⟩ := h
  exact ⟨D, hi, h.kept (row := none) ⟨hb.os, hb.tape, hb.output, hb.size, fun i hi _ => hb.block i hi⟩ (by simp), hF⟩
theorem MapF.look {w : World} {B n : Nat} {F : M.Pr → Int} (h : MapF w B F n) (p : M.Pr) (hp : M.Small p) :
    (Instr.lookup 112 (.map (some B)) (.agg #[.int .i64 p.A, .int .i64 p.B]) false).run Try.prog w = .ok (.int .i64 (F p)) w := by
  obtain ⟨D, hi, h, hF⟩ := h
  obtain ⟨c, hrun, hat, _⟩ := h.lookup_int pairKeyed Try.underlying112 Try.underlying3 (zeroInt w) (keyP_eq p hp)
  rw [hF p hp] at hat
  simp only [DataW.lit.injEq, Lit.int.injEq, true_and] at hat
  rw [hat]; exact hrun
set_option maxRecDepth 100000 in
theorem MapF.store {w : World} {B n : Nat} {F : M.Pr → Int} (h : MapF w B F n) (hn : n < 1000000) (p : M.Pr) (hp : M.Small p) (v : Int) (hv : (Lit.int .i64 v).wf = true) :
    ∃ w', (Instr.mapUpdate 112 (.map (some B)) (.agg #[.int .i64 p.A, .int .i64 p.B]) (.int .i64 v)).run Try.prog w = .ok () w' ∧ MapF w' B (upd F p v) (n + 1) ∧ w.grownBy w' (some B) := by
  obtain ⟨D, hi, h, hF⟩ := h
  obtain ⟨w', hrun, ho, hg⟩ := h.update pairKeyed Try.underlying112 (by simp only [maxLen]; omega) (keyP_eq p hp) (plainElem_int Try.underlying3 hv)
  refine ⟨w', hrun, ⟨_, hi.put _ _, ho, fun q hq => ?_⟩, hg⟩
  unfold upd
  by_cases e : q = p
  · rw [if_pos e, e]
    exact atKey_put_same hi (pairKeyed.key (keyP_eq p hp)) _ _
  · rw [if_neg e, atKey_put_other (keyL_ne hq hp e)]
    exact hF q hq

end Go.Proofs.Ytoaogpipogeamaa

namespace Go.Proofs.Ytoaogpipogeamaa
open Go.RowKit
attribute [local go_sem ↓] Go.wp_at_zero Go.wp_at_succ run_eql_pair

theorem MapF.congr {w : World} {B n : Nat} {F G : M.Pr → Int} (h : MapF w B F n) (hFG : ∀ p, F p = G p) : MapF w B G n := by
  obtain ⟨D, hi, h, hF⟩ := h
  exact ⟨D, hi, h, fun p hp => by rw [← hFG]; exact hF p hp⟩
theorem upd_ne {F : M.Pr → Int} {p q : M.Pr} {v : Int} (h : q ≠ p) : upd F p v q = F q := if_neg h
theorem upd_hold {f : M.Fm} {e : M.Pr} {a b : Nat} (hb : (b : Int) ≤ e.B) (ha : (a : Int) ≤ e.A) (h : M.good f e a b = true) (p : M.Pr) :
    upd (M.hold f e a b) (M.nat a b) ((M.left f e a b : Int) + M.down f e a b) p = M.hold f e a (b + 1) p := by
  rw [M.hold_next hb ha h]; unfold upd
  by_cases hp : p = M.nat a b
  · simp [hp]
  · simp [hp]
theorem minus_ne (a b : Nat) (s : Int) : M.minus (M.nat a b) s ≠ M.nat a b := by
  unfold M.minus M.nat; split <;> (intro h; simp at h; omega)

set_option maxHeartbeats 16000000 in
set_option maxRecDepth 100000 in
theorem orders_any (f : M.Fm) (e : M.Pr) (w : World) (hv : M.Valid f) (he : 0 ≤ e.A ∧ e.A ≤ 40 ∧ 0 ≤ e.B ∧ e.B ≤ 40) :
    Calls Try.prog 56 #[.agg #[.int .i64 f.sets, .int .i64 f.games, .bool f.noAd, .int .i64 f.tie, .int .i64 f.to, .int .i64 f.lastTie, .int .i64 f.lastTo, .int .i64 f.first, .int .i64 f.next, .bool f.doubles], .agg #[.int .i64 e.A, .int .i64 e.B]] w fun x w' => x = .returned (.int .i64 (M.orders f e)) ∧ Below w.heap.size w w' := by
  have HV := hide hv
  have HE := hide he
  obtain ⟨e0, e1, e2, e3⟩ := he
  have hm0 : MapF (((w.alloc (.cells #[.int .i64 f.sets, .int .i64 f.games, .bool f.noAd, .int .i64 f.tie, .int .i64 f.to, .int .i64 f.lastTie, .int .i64 f.lastTo, .int .i64 f.first, .int .i64 f.next, .bool f.doubles] 23)).alloc (.cells #[.int .i64 e.A, .int .i64 e.B] 32)).alloc (.map #[] 0)) (w.heap.size + 1 + 1) (fun _ => 0) 0 := by
    have := MapF.made ((w.alloc (.cells #[.int .i64 f.sets, .int .i64 f.games, .bool f.noAd, .int .i64 f.tie, .int .i64 f.to, .int .i64 f.lastTie, .int .i64 f.lastTo, .int .i64 f.first, .int .i64 f.next, .bool f.doubles] 23)).alloc (.cells #[.int .i64 e.A, .int .i64 e.B] 32))
    simpa using this
  obtain ⟨w1, hrun, hm1, hg⟩ := hm0.store (by omega) M.zero ⟨by decide, by decide, by decide, by decide⟩ 1 (by decide)
  have hM1 : MapF w1 (w.heap.size + 1 + 1) (M.hold f e 0 0) 1 := hm1.congr (fun p => by rw [M.hold_start]; unfold upd; by_cases h : p = M.zero <;> simp [h])
  have hz0 := hg.size
  simp at hz0
  have hB1 : Below w.heap.size w w1 := Below.grown (((( Below.refl _ _).alloc (Nat.le_refl _) _).alloc (by simp) _).alloc (by simp; omega) _) hg (by simp; omega) (by intro k hk; injection hk with hk; omega)
  have hc1 : ∀ b o, b < w.heap.size + 1 + 1 → w1.cell? ⟨b, o, none⟩ = (((w.alloc (.cells #[.int .i64 f.sets, .int .i64 f.games, .bool f.noAd, .int .i64 f.tie, .int .i64 f.to, .int .i64 f.lastTie, .int .i64 f.lastTo, .int .i64 f.first, .int .i64 f.next, .bool f.doubles] 23)).alloc (.cells #[.int .i64 e.A, .int .i64 e.B] 32)).alloc (.map #[] 0)).cell? ⟨b, o, none⟩ :=
    fun b o h => World.cell?_of_block (hg.block b (by simp; omega) (by simp; omega))
  have hS1 : (fun w' => Below w.heap.size w w' ∧ w.heap.size < w'.heap.size ∧ w.heap.size + 1 < w'.heap.size ∧ w.heap.size + 1 + 1 < w'.heap.size ∧ w'.cell? ⟨w.heap.size + 1, 0, none⟩ = some (.int .i64 e.A) ∧ w'.cell? ⟨w.heap.size + 1, 1, none⟩ = some (.int .i64 e.B) ∧ w'.cell? ⟨w.heap.size, 0, none⟩ = some (.int .i64 f.sets) ∧ w'.cell? ⟨w.heap.size, 1, none⟩ = some (.int .i64 f.games) ∧ w'.cell? ⟨w.heap.size, 2, none⟩ = some (.bool f.noAd) ∧ w'.cell? ⟨w.heap.size, 3, none⟩ = some (.int .i64 f.tie) ∧ w'.cell? ⟨w.heap.size, 4, none⟩ = some (.int .i64 f.to) ∧ w'.cell? ⟨w.heap.size, 5, none⟩ = some (.int .i64 f.lastTie) ∧ w'.cell? ⟨w.heap.size, 6, none⟩ = some (.int .i64 f.lastTo) ∧ w'.cell? ⟨w.heap.size, 7, none⟩ = some (.int .i64 f.first) ∧ w'.cell? ⟨w.heap.size, 8, none⟩ = some (.int .i64 f.next) ∧ w'.cell? ⟨w.heap.size, 9, none⟩ = some (.bool f.doubles)) w1 := by
    dsimp only
    refine ⟨hB1, by omega, by omega, by omega, ?_⟩
    (repeat' apply And.intro) <;> (rw [hc1 _ _ (by omega), World.cell?_alloc_past _ _ _ (by simp; try omega)]; simp)
  dsimp only at hS1
  have HM1 := hide hM1
  have hmm := @run_makeMap Try.prog
  have hrun' : (Instr.mapUpdate 112 (.map (some (w.heap.size + 1 + 1))) (.agg #[.int .i64 0, .int .i64 0]) (.int .i64 1)).run Try.prog (((w.alloc (.cells #[.int .i64 f.sets, .int .i64 f.games, .bool f.noAd, .int .i64 f.tie, .int .i64 f.to, .int .i64 f.lastTie, .int .i64 f.lastTo, .int .i64 f.first, .int .i64 f.next, .bool f.doubles] 23)).alloc (.cells #[.int .i64 e.A, .int .i64 e.B] 32)).alloc (.map #[] 0)) = .ok () w1 := hrun
  clear hv hm0 hm1 hM1 hg hB1 hc1 hrun
  go_enter Try.func56, Try.ntmps56
  go_wp2
  go_loopw [15] (fun i wr => ∃ a : Nat, (a : Int) ≤ e.A + 1 ∧ i = .int .i64 a ∧ Hid (∃ n, n ≤ 1 + 50 * a ∧ MapF wr (w.heap.size + 1 + 1) (M.hold f e a 0) n) ∧ Below w.heap.size w wr ∧ w.heap.size < wr.heap.size ∧ w.heap.size + 1 < wr.heap.size ∧ w.heap.size + 1 + 1 < wr.heap.size ∧ wr.cell? ⟨w.heap.size + 1, 0, none⟩ = some (.int .i64 e.A) ∧ wr.cell? ⟨w.heap.size + 1, 1, none⟩ = some (.int .i64 e.B) ∧ wr.cell? ⟨w.heap.size, 0, none⟩ = some (.int .i64 f.sets) ∧ wr.cell? ⟨w.heap.size, 1, none⟩ = some (.int .i64 f.games) ∧ wr.cell? ⟨w.heap.size, 2, none⟩ = some (.bool f.noAd) ∧ wr.cell? ⟨w.heap.size, 3, none⟩ = some (.int .i64 f.tie) ∧ wr.cell? ⟨w.heap.size, 4, none⟩ = some (.int .i64 f.to) ∧ wr.cell? ⟨w.heap.size, 5, none⟩ = some (.int .i64 f.lastTie) ∧ wr.cell? ⟨w.heap.size, 6, none⟩ = some (.int .i64 f.lastTo) ∧ wr.cell? ⟨w.heap.size, 7, none⟩ = some (.int .i64 f.first) ∧ wr.cell? ⟨w.heap.size, 8, none⟩ = some (.int .i64 f.next) ∧ wr.cell? ⟨w.heap.size, 9, none⟩ = some (.bool f.doubles)) (fun i _ => (e.A + 1 - intOf i).toNat)
  case atStart => exact ⟨0, by omega, rfl, hide ⟨1, by omega, HM1.out⟩, hS1⟩
  case round =>
    obtain ⟨a, ha, rfl, hM, hS0⟩ := hrel
    by_cases hlt : (a : Int) < e.A + 1
    · go_wp2
      obtain ⟨wo, rfl⟩ : ∃ wo : World, wo = wr := ⟨_, rfl⟩
      go_loopw [21] (fun i wr => ∃ b : Nat, (b : Int) ≤ e.B + 1 ∧ i = .int .i64 b ∧ Hid (∃ n, n ≤ 1 + 50 * a + b ∧ MapF wr (w.heap.size + 1 + 1) (M.hold f e a b) n) ∧ Below w.heap.size w wr ∧ w.heap.size < wr.heap.size ∧ w.heap.size + 1 < wr.heap.size ∧ w.heap.size + 1 + 1 < wr.heap.size ∧ wr.cell? ⟨w.heap.size + 1, 0, none⟩ = some (.int .i64 e.A) ∧ wr.cell? ⟨w.heap.size + 1, 1, none⟩ = some (.int .i64 e.B) ∧ wr.cell? ⟨w.heap.size, 0, none⟩ = some (.int .i64 f.sets) ∧ wr.cell? ⟨w.heap.size, 1, none⟩ = some (.int .i64 f.games) ∧ wr.cell? ⟨w.heap.size, 2, none⟩ = some (.bool f.noAd) ∧ wr.cell? ⟨w.heap.size, 3, none⟩ = some (.int .i64 f.tie) ∧ wr.cell? ⟨w.heap.size, 4, none⟩ = some (.int .i64 f.to) ∧ wr.cell? ⟨w.heap.size, 5, none⟩ = some (.int .i64 f.lastTie) ∧ wr.cell? ⟨w.heap.size, 6, none⟩ = some (.int .i64 f.lastTo) ∧ wr.cell? ⟨w.heap.size, 7, none⟩ = some (.int .i64 f.first) ∧ wr.cell? ⟨w.heap.size, 8, none⟩ = some (.int .i64 f.next) ∧ wr.cell? ⟨w.heap.size, 9, none⟩ = some (.bool f.doubles)) (fun i _ => (e.B + 1 - intOf i).toNat)
      case atStart => exact ⟨0, by omega, rfl, hM, hS0⟩
      case round =>
        obtain ⟨b, hb, rfl, hM', hS'⟩ := hrel
        by_cases hlt2 : (b : Int) < e.B + 1
        · obtain ⟨n, hn, hM2⟩ := hM'.out
          have HAB : Hid (M.Small (M.nat a b)) := hide ⟨by show (-1000000 : Int) ≤ (a : Int); omega, by show (a : Int) ≤ 1000000; omega, by show (-1000000 : Int) ≤ (b : Int); omega, by show (b : Int) ≤ 1000000; omega⟩
          have HAL : Hid (M.Small (M.minus (M.nat a b) 0)) := hide (HAB.out.minus ⟨by show (-999999 : Int) ≤ (a : Int); omega, by show (-999999 : Int) ≤ (b : Int); omega⟩ 0)
          have HAD : Hid (M.Small (M.minus (M.nat a b) 1)) := hide (HAB.out.minus ⟨by show (-999999 : Int) ≤ (a : Int); omega, by show (-999999 : Int) ≤ (b : Int); omega⟩ 1)
          have HL0 : Hid (M.hold f e a b (M.minus (M.nat a b) 0) = M.left f e a b) := hide (M.hold_left (by omega) (by omega))
          have HL1 : Hid (M.hold f e a b (M.minus (M.nat a b) 1) = M.down f e a b) := hide (M.hold_down (by omega) (by omega))
          have bl := M.left_most HV.out (e := e) ⟨by omega, by omega⟩ (a := a) (b := b) (by omega) (by omega)
          have bd := M.down_most HV.out (e := e) ⟨by omega, by omega⟩ (a := a) (b := b) (by omega) (by omega)
          have ew : IntKind.i64.wrap ((M.left f e a b : Int) + M.down f e a b) = (M.left f e a b : Int) + M.down f e a b := IntWalk.i64_in _ (by omega)
          have HWF : Hid ((Lit.int .i64 ((M.left f e a b : Int) + M.down f e a b)).wf = true) := hide (WalkArith.wf_i64 (by omega))
          clear bl bd
          cases hE : ((a : Int) == e.A && (b : Int) == e.B)
          · by_cases h0 : (0 : Int) < (a : Int) + (b : Int)
            · cases hga : M.gamesArise f (M.nat a b)
              · have hgood : M.good f e a b = false := by
                  unfold M.good; rw [hga]; simp at hE; simp; omega
                have HREL : Hid (∃ n, n ≤ 1 + 50 * a + (b + 1) ∧ MapF wr (w.heap.size + 1 + 1) (M.hold f e a (b + 1)) n) := hide ⟨n, by omega, hM2.congr (fun p => (M.hold_same (by omega) (by omega) hgood p).symm)⟩
                clear hM2 hgood
                go_wp2_with (first | (go_at_call 67; refine (gamesArise_any f (M.nat a b) _ HAB.out).mono ?_; rintro e wg ⟨rfl, hb⟩; obtain ⟨hc, hf⟩ := bcell hb; have hz := hb.size; (try simp at hz); have hSn : ((fun w' => Below w.heap.size w w' ∧ w.heap.size < w'.heap.size ∧ w.heap.size + 1 < w'.heap.size ∧ w.heap.size + 1 + 1 < w'.heap.size ∧ w'.cell? ⟨w.heap.size + 1, 0, none⟩ = some (.int .i64 e.A) ∧ w'.cell? ⟨w.heap.size + 1, 1, none⟩ = some (.int .i64 e.B) ∧ w'.cell? ⟨w.heap.size, 0, none⟩ = some (.int .i64 f.sets) ∧ w'.cell? ⟨w.heap.size, 1, none⟩ = some (.int .i64 f.games) ∧ w'.cell? ⟨w.heap.size, 2, none⟩ = some (.bool f.noAd) ∧ w'.cell? ⟨w.heap.size, 3, none⟩ = some (.int .i64 f.tie) ∧ w'.cell? ⟨w.heap.size, 4, none⟩ = some (.int .i64 f.to) ∧ w'.cell? ⟨w.heap.size, 5, none⟩ = some (.int .i64 f.lastTie) ∧ w'.cell? ⟨w.heap.size, 6, none⟩ = some (.int .i64 f.lastTo) ∧ w'.cell? ⟨w.heap.size, 7, none⟩ = some (.int .i64 f.first) ∧ w'.cell? ⟨w.heap.size, 8, none⟩ = some (.int .i64 f.next) ∧ w'.cell? ⟨w.heap.size, 9, none⟩ = some (.bool f.doubles) ∧ w'.cell? ⟨wr.heap.size, 0, none⟩ = some (.int .i64 (a : Int)) ∧ w'.cell? ⟨wr.heap.size, 1, none⟩ = some (.int .i64 (b : Int)) ∧ wr.heap.size < w'.heap.size)) wg := (by (try dsimp only); (first | (go_keep; done) | (go_split_ands; (repeat' apply And.intro) <;> first | (go_keep; done) | (simp [*, zcA, zcP, zfA, zfP]; done) | (simp [zcA, zcP] <;> rfl) | (simp [*, zsS, zsO, zsA]; done) | ((first | refine (hc _ _ ?_).trans ?_ | refine (hf _ _ ?_).trans ?_) <;> first | assumption | (simp; done) | (simp; omega) | omega | (go_keep; done) | (simp [*, zcA, zcP, zfA, zfP]; done) | (simp [zcA, zcP]; rfl)) | (repeat' first | exact zbR _ _ | assumption | refine zbD ?_ | refine zbA ?_ ?_ _ | refine zbS ?_ ?_ _ | refine zbT ?_ (by assumption) ?_ | (simp; done) | (simp; omega) | omega)))); (try dsimp only at hSn); (try clear hS); have hS := hSn; clear hSn hc hf))
                have HREL2 : Hid (∃ n, n ≤ 1 + 50 * a + (b + 1) ∧ MapF wg (w.heap.size + 1 + 1) (M.hold f e a (b + 1)) n) := hide (by
                  obtain ⟨n, hn, hm⟩ := HREL.out
                  exact ⟨n, hn, hm.below (by (repeat' first | exact zbR _ _ | assumption | refine zbD ?_ | refine zbA ?_ ?_ _ | refine zbS ?_ ?_ _ | refine zbT ?_ (by assumption) ?_ | (simp; done) | (simp; omega) | omega))⟩)
                go_roundw
                case rel => exact ⟨b + 1, by omega, by go_num, HREL2, by (first | (go_keep; done) | (go_split_ands; (repeat' apply And.intro) <;> first | (go_keep; done) | (simp [*, zcA, zcP, zfA, zfP]; done) | (simp [zcA, zcP] <;> rfl) | (simp [*, zsS, zsO, zsA]; done) | ((first | refine (hc _ _ ?_).trans ?_ | refine (hf _ _ ?_).trans ?_) <;> first | assumption | (simp; done) | (simp; omega) | omega | (go_keep; done) | (simp [*, zcA, zcP, zfA, zfP]; done) | (simp [zcA, zcP]; rfl)) | (repeat' first | exact zbR _ _ | assumption | refine zbD ?_ | refine zbA ?_ ?_ _ | refine zbS ?_ ?_ _ | refine zbT ?_ (by assumption) ?_ | (simp; done) | (simp; omega) | omega)))⟩
                case measure => simp [intOf]; omega
              · have hgood : M.good f e a b = true := by
                  unfold M.good; rw [hga]; simp; omega
                have HG := hide hgood
                clear hgood
                go_wp2_with (first | (go_at_call 67; refine (gamesArise_any f (M.nat a b) _ HAB.out).mono ?_; rintro e wg ⟨rfl, hb⟩; obtain ⟨hc, hf⟩ := bcell hb; have hz := hb.size; (try simp at hz); have hSn : ((fun w' => Below w.heap.size w w' ∧ w.heap.size < w'.heap.size ∧ w.heap.size + 1 < w'.heap.size ∧ w.heap.size + 1 + 1 < w'.heap.size ∧ w'.cell? ⟨w.heap.size + 1, 0, none⟩ = some (.int .i64 e.A) ∧ w'.cell? ⟨w.heap.size + 1, 1, none⟩ = some (.int .i64 e.B) ∧ w'.cell? ⟨w.heap.size, 0, none⟩ = some (.int .i64 f.sets) ∧ w'.cell? ⟨w.heap.size, 1, none⟩ = some (.int .i64 f.games) ∧ w'.cell? ⟨w.heap.size, 2, none⟩ = some (.bool f.noAd) ∧ w'.cell? ⟨w.heap.size, 3, none⟩ = some (.int .i64 f.tie) ∧ w'.cell? ⟨w.heap.size, 4, none⟩ = some (.int .i64 f.to) ∧ w'.cell? ⟨w.heap.size, 5, none⟩ = some (.int .i64 f.lastTie) ∧ w'.cell? ⟨w.heap.size, 6, none⟩ = some (.int .i64 f.lastTo) ∧ w'.cell? ⟨w.heap.size, 7, none⟩ = some (.int .i64 f.first) ∧ w'.cell? ⟨w.heap.size, 8, none⟩ = some (.int .i64 f.next) ∧ w'.cell? ⟨w.heap.size, 9, none⟩ = some (.bool f.doubles) ∧ w'.cell? ⟨wr.heap.size, 0, none⟩ = some (.int .i64 (a : Int)) ∧ w'.cell? ⟨wr.heap.size, 1, none⟩ = some (.int .i64 (b : Int)) ∧ wr.heap.size < w'.heap.size)) wg := (by (try dsimp only); (first | (go_keep; done) | (go_split_ands; (repeat' apply And.intro) <;> first | (go_keep; done) | (simp [*, zcA, zcP, zfA, zfP]; done) | (simp [zcA, zcP] <;> rfl) | (simp [*, zsS, zsO, zsA]; done) | ((first | refine (hc _ _ ?_).trans ?_ | refine (hf _ _ ?_).trans ?_) <;> first | assumption | (simp; done) | (simp; omega) | omega | (go_keep; done) | (simp [*, zcA, zcP, zfA, zfP]; done) | (simp [zcA, zcP]; rfl)) | (repeat' first | exact zbR _ _ | assumption | refine zbD ?_ | refine zbA ?_ ?_ _ | refine zbS ?_ ?_ _ | refine zbT ?_ (by assumption) ?_ | (simp; done) | (simp; omega) | omega)))); (try dsimp only at hSn); (try clear hS); have hS := hSn; clear hSn hc hf))
                have hM2 : MapF wg.drew (w.heap.size + 1 + 1) (M.hold f e a b) n := MapF.below (w := wr) hM2 (by (repeat' first | exact zbR _ _ | assumption | refine zbD ?_ | refine zbA ?_ ?_ _ | refine zbS ?_ ?_ _ | refine zbT ?_ (by assumption) ?_ | (simp; done) | (simp; omega) | omega))
                have hl0 := MapF.look hM2 (M.minus (M.nat a b) 0) HAL.out
                have hl1 := MapF.look hM2 (M.minus (M.nat a b) 1) HAD.out
                rw [HL0.out] at hl0
                rw [HL1.out] at hl1
                refine wp_region_held_drew (S := (fun w' => Below w.heap.size w w' ∧ w.heap.size < w'.heap.size ∧ w.heap.size + 1 < w'.heap.size ∧ w.heap.size + 1 + 1 < w'.heap.size ∧ w'.cell? ⟨w.heap.size + 1, 0, none⟩ = some (.int .i64 e.A) ∧ w'.cell? ⟨w.heap.size + 1, 1, none⟩ = some (.int .i64 e.B) ∧ w'.cell? ⟨w.heap.size, 0, none⟩ = some (.int .i64 f.sets) ∧ w'.cell? ⟨w.heap.size, 1, none⟩ = some (.int .i64 f.games) ∧ w'.cell? ⟨w.heap.size, 2, none⟩ = some (.bool f.noAd) ∧ w'.cell? ⟨w.heap.size, 3, none⟩ = some (.int .i64 f.tie) ∧ w'.cell? ⟨w.heap.size, 4, none⟩ = some (.int .i64 f.to) ∧ w'.cell? ⟨w.heap.size, 5, none⟩ = some (.int .i64 f.lastTie) ∧ w'.cell? ⟨w.heap.size, 6, none⟩ = some (.int .i64 f.lastTo) ∧ w'.cell? ⟨w.heap.size, 7, none⟩ = some (.int .i64 f.first) ∧ w'.cell? ⟨w.heap.size, 8, none⟩ = some (.int .i64 f.next) ∧ w'.cell? ⟨w.heap.size, 9, none⟩ = some (.bool f.doubles) ∧ w'.cell? ⟨wr.heap.size, 0, none⟩ = some (.int .i64 (a : Int)) ∧ w'.cell? ⟨wr.heap.size, 1, none⟩ = some (.int .i64 (b : Int)) ∧ wr.heap.size < w'.heap.size ∧ (Instr.lookup 112 (.map (some (w.heap.size + 1 + 1))) (.agg #[.int .i64 (M.minus (M.nat a b) 0).A, .int .i64 (M.minus (M.nat a b) 0).B]) false).run Try.prog w' = .ok (.int .i64 (M.left f e a b)) w' ∧ (Instr.lookup 112 (.map (some (w.heap.size + 1 + 1))) (.agg #[.int .i64 (M.minus (M.nat a b) 1).A, .int .i64 (M.minus (M.nat a b) 1).B]) false).run Try.prog w' = .ok (.int .i64 (M.down f e a b)) w')) (by kernel_rfl) ?_ (fun hD0 => ?_)
                · (try dsimp only); first | (go_split_ands; (repeat' apply And.intro) <;> first | with_reducible exact hl0 | with_reducible exact hl1 | with_reducible exact hb9 | with_reducible assumption | (with_reducible refine (hc _ _ (by first | (simp; done) | (simp; omega) | omega)).trans ?_; (first | with_reducible assumption | (simp [*]; done))) | (simp [*, World.cell?_alloc_some]; done) | omega) | (first | (go_keep; done) | (go_split_ands; (repeat' apply And.intro) <;> first | (go_keep; done) | (simp [*, zcA, zcP, zfA, zfP]; done) | (simp [zcA, zcP] <;> rfl) | (simp [*, zsS, zsO, zsA]; done) | ((first | refine (hc _ _ ?_).trans ?_ | refine (hf _ _ ?_).trans ?_) <;> first | assumption | (simp; done) | (simp; omega) | omega | (go_keep; done) | (simp [*, zcA, zcP, zfA, zfP]; done) | (simp [zcA, zcP]; rfl)) | (repeat' first | exact zbR _ _ | assumption | refine zbD ?_ | refine zbA ?_ ?_ _ | refine zbS ?_ ?_ _ | refine zbT ?_ (by assumption) ?_ | (simp; done) | (simp; omega) | omega)))
                refine tW ?_ 0 rfl (by kernel_rfl) (fun _ _ _ h => h) (by rfl) (by assumption) ?_ ?_; rotate_left; (focus (intro w hSw; (try dsimp only at hSw); go_simp; try with_reducible rfl)); try simp only [Act.put, zl, z0, z1]
                refine tW ?_ 1 rfl (by kernel_rfl) (fun _ _ _ h => h) (by rfl) (by assumption) ?_ ?_; rotate_left; (focus (intro w hSw; (try dsimp only at hSw); go_simp; try with_reducible rfl)); try simp only [Act.put, zl, z0, z1]
                refine tW ?_ 2 rfl (by kernel_rfl) (fun _ _ _ h => h) (by rfl) (by assumption) ?_ ?_; rotate_left; (focus (intro w hSw; (try dsimp only at hSw); go_simp; try with_reducible rfl)); try simp only [Act.put, zl, z0, z1]
                refine tW ?_ 3 rfl (by kernel_rfl) (fun _ _ _ h => h) (by rfl) (by assumption) ?_ ?_; rotate_left; (focus (intro w hSw; (try dsimp only at hSw); go_simp; try with_reducible rfl)); try simp only [Act.put, zl, z0, z1]
                refine tW ?_ 6 rfl (by kernel_rfl) (fun _ _ _ h => h) (by rfl) (by assumption) ?_ ?_; rotate_left; (focus (intro w hSw; (try dsimp only at hSw); go_simp; try with_reducible rfl)); try simp only [Act.put, zl, z0, z1]
                refine tW ?_ 7 rfl (by kernel_rfl) (fun _ _ _ h => h) (by rfl) (by assumption) ?_ ?_; rotate_left; (focus (intro w hSw; (try dsimp only at hSw); go_simp; try with_reducible rfl)); try simp only [Act.put, zl, z0, z1]
                refine wpAnyH_ready (rs := [4]) (by kernel_rfl) (by simp) ?_; refine consL 4 rfl (fun K hK => ?_) AllReadyH.nil; go_simp
                (go_at_call 75; refine (minus_any (M.nat a b) _ _ HAB.out).mono ?_; rintro _ w' ⟨rfl, hb⟩; obtain ⟨hc, hf⟩ := bcell hb; have hz := hb.size; (try simp at hz); have hM2 := MapF.below hM2 hb; have hl0 := MapF.look hM2 (M.minus (M.nat a b) 0) HAL.out; have hl1 := MapF.look hM2 (M.minus (M.nat a b) 1) HAD.out; rw [HL0.out] at hl0; rw [HL1.out] at hl1)
                refine hK.out _ _ ?_ (fun hD1 => ?_)
                · (try dsimp only); first | (go_split_ands; (repeat' apply And.intro) <;> first | with_reducible exact hl0 | with_reducible exact hl1 | with_reducible exact hb9 | with_reducible assumption | (with_reducible refine (hc _ _ (by first | (simp; done) | (simp; omega) | omega)).trans ?_; (first | with_reducible assumption | (simp [*]; done))) | (simp [*, World.cell?_alloc_some]; done) | omega) | (first | (go_keep; done) | (go_split_ands; (repeat' apply And.intro) <;> first | (go_keep; done) | (simp [*, zcA, zcP, zfA, zfP]; done) | (simp [zcA, zcP] <;> rfl) | (simp [*, zsS, zsO, zsA]; done) | ((first | refine (hc _ _ ?_).trans ?_ | refine (hf _ _ ?_).trans ?_) <;> first | assumption | (simp; done) | (simp; omega) | omega | (go_keep; done) | (simp [*, zcA, zcP, zfA, zfP]; done) | (simp [zcA, zcP]; rfl)) | (repeat' first | exact zbR _ _ | assumption | refine zbD ?_ | refine zbA ?_ ?_ _ | refine zbS ?_ ?_ _ | refine zbT ?_ (by assumption) ?_ | (simp; done) | (simp; omega) | omega)))
                clear hK K hD0; try simp only [Act.put, zl, z0, z1]
                refine tW ?_ 5 rfl (by kernel_rfl) (fun _ _ _ h => h) (by rfl) (by assumption) ?_ ?_; rotate_left; (focus (intro w hSw; (try dsimp only at hSw); go_simp; try with_reducible rfl)); try simp only [Act.put, zl, z0, z1]
                refine wpAnyH_ready (rs := [8]) (by kernel_rfl) (by simp) ?_; refine consL 8 rfl (fun K hK => ?_) AllReadyH.nil; go_simp
                (go_at_call 75; refine (minus_any (M.nat a b) _ _ HAB.out).mono ?_; rintro _ w' ⟨rfl, hb⟩; obtain ⟨hc, hf⟩ := bcell hb; have hz := hb.size; (try simp at hz); have hM2 := MapF.below hM2 hb; have hl0 := MapF.look hM2 (M.minus (M.nat a b) 0) HAL.out; have hl1 := MapF.look hM2 (M.minus (M.nat a b) 1) HAD.out; rw [HL0.out] at hl0; rw [HL1.out] at hl1)
                refine hK.out _ _ ?_ (fun hD2 => ?_)
                · (try dsimp only); first | (go_split_ands; (repeat' apply And.intro) <;> first | with_reducible exact hl0 | with_reducible exact hl1 | with_reducible exact hb9 | with_reducible assumption | (with_reducible refine (hc _ _ (by first | (simp; done) | (simp; omega) | omega)).trans ?_; (first | with_reducible assumption | (simp [*]; done))) | (simp [*, World.cell?_alloc_some]; done) | omega) | (first | (go_keep; done) | (go_split_ands; (repeat' apply And.intro) <;> first | (go_keep; done) | (simp [*, zcA, zcP, zfA, zfP]; done) | (simp [zcA, zcP] <;> rfl) | (simp [*, zsS, zsO, zsA]; done) | ((first | refine (hc _ _ ?_).trans ?_ | refine (hf _ _ ?_).trans ?_) <;> first | assumption | (simp; done) | (simp; omega) | omega | (go_keep; done) | (simp [*, zcA, zcP, zfA, zfP]; done) | (simp [zcA, zcP]; rfl)) | (repeat' first | exact zbR _ _ | assumption | refine zbD ?_ | refine zbA ?_ ?_ _ | refine zbS ?_ ?_ _ | refine zbT ?_ (by assumption) ?_ | (simp; done) | (simp; omega) | omega)))
                clear hK K hD1; try simp only [Act.put, zl, z0, z1]
                refine tW ?_ 9 rfl (by kernel_rfl) (fun _ _ _ h => h) (by rfl) (by assumption) ?_ ?_; rotate_left; (focus (intro w hSw; (try dsimp only at hSw); go_simp; try with_reducible rfl)); try simp only [Act.put, zl, z0, z1]
                refine tW ?_ 10 rfl (by kernel_rfl) (fun _ _ _ h => h) (by rfl) (by assumption) ?_ ?_; rotate_left; (focus (intro w hSw; (try dsimp only at hSw); go_simp; try with_reducible rfl)); try simp only [Act.put, zl, z0, z1]
                refine wpAnyH_ready (rs := [11]) (by kernel_rfl) (by simp) ?_; refine consL 11 rfl (fun K hK => ?_) AllReadyH.nil
                (obtain ⟨w9, hrun9, hM9, hg9⟩ := MapF.store hM2 (by omega) (M.nat a b) HAB.out ((M.left f e a b : Int) + M.down f e a b) HWF.out; have hrun9 : (Instr.mapUpdate 112 (.map (some (w.heap.size + 1 + 1))) (.agg #[.int .i64 (a : Int), .int .i64 (b : Int)]) (.int .i64 ((M.left f e a b : Int) + M.down f e a b))).run Try.prog w' = .ok () w9 := hrun9; have hc : ∀ b' o, b' < w'.heap.size ∧ b' ≠ w.heap.size + 1 + 1 → w9.cell? ⟨b', o, none⟩ = w'.cell? ⟨b', o, none⟩ := (fun b' o h => World.cell?_of_block (hg9.block b' h.1 (by simp; omega))); have hf : ∀ b' o, b' < w'.heap.size ∧ b' ≠ w.heap.size + 1 + 1 → w9.frozen? ⟨b', o, none⟩ = w'.frozen? ⟨b', o, none⟩ := (fun b' o h => World.frozen?_of_block (hg9.block b' h.1 (by simp; omega))); have hz := hg9.size; have hl0 := MapF.look hM9 (M.minus (M.nat a b) 0) HAL.out; have hl1 := MapF.look hM9 (M.minus (M.nat a b) 1) HAD.out; rw [upd_ne (minus_ne a b 0), HL0.out] at hl0; rw [upd_ne (minus_ne a b 1), HL1.out] at hl1; have hb9 : Below w.heap.size w w9 := Below.grown (by (go_split_ands; assumption)) hg9 (by omega) (by intro k hk; injection hk with hk; omega); rw [if_pos (by rfl)]; go_simp)
                refine hK.out _ _ ?_ (fun hD3 => ?_)
                · (try dsimp only); first | (go_split_ands; (repeat' apply And.intro) <;> first | with_reducible exact hl0 | with_reducible exact hl1 | with_reducible exact hb9 | with_reducible assumption | (with_reducible refine (hc _ _ (by first | (simp; done) | (simp; omega) | omega)).trans ?_; (first | with_reducible assumption | (simp [*]; done))) | (simp [*, World.cell?_alloc_some]; done) | omega) | (first | (go_keep; done) | (go_split_ands; (repeat' apply And.intro) <;> first | (go_keep; done) | (simp [*, zcA, zcP, zfA, zfP]; done) | (simp [zcA, zcP] <;> rfl) | (simp [*, zsS, zsO, zsA]; done) | ((first | refine (hc _ _ ?_).trans ?_ | refine (hf _ _ ?_).trans ?_) <;> first | assumption | (simp; done) | (simp; omega) | omega | (go_keep; done) | (simp [*, zcA, zcP, zfA, zfP]; done) | (simp [zcA, zcP]; rfl)) | (repeat' first | exact zbR _ _ | assumption | refine zbD ?_ | refine zbA ?_ ?_ _ | refine zbS ?_ ?_ _ | refine zbT ?_ (by assumption) ?_ | (simp; done) | (simp; omega) | omega)))
                clear hK K hD2; try simp only [Act.put, zl, z0, z1]
                refine wpAnyH_done (by kernel_rfl) ?_ _
                go_wp2
                have HREL : Hid (∃ n, n ≤ 1 + 50 * a + (b + 1) ∧ MapF w9 (w.heap.size + 1 + 1) (M.hold f e a (b + 1)) n) := hide ⟨n + 1, by omega, hM9.congr (fun p => upd_hold (by omega) (by omega) HG.out p)⟩
                go_roundw
                case rel => exact ⟨b + 1, by omega, by go_num, HREL, by (first | (go_keep; done) | (go_split_ands; (repeat' apply And.intro) <;> first | (go_keep; done) | (simp [*, zcA, zcP, zfA, zfP]; done) | (simp [zcA, zcP] <;> rfl) | (simp [*, zsS, zsO, zsA]; done) | ((first | refine (hc _ _ ?_).trans ?_ | refine (hf _ _ ?_).trans ?_) <;> first | assumption | (simp; done) | (simp; omega) | omega | (go_keep; done) | (simp [*, zcA, zcP, zfA, zfP]; done) | (simp [zcA, zcP]; rfl)) | (repeat' first | exact zbR _ _ | assumption | refine zbD ?_ | refine zbA ?_ ?_ _ | refine zbS ?_ ?_ _ | refine zbT ?_ (by assumption) ?_ | (simp; done) | (simp; omega) | omega)))⟩
                case measure => simp [intOf]; omega
            · have hgood : M.good f e a b = false := by
                unfold M.good; simp at hE; simp; omega
              have HREL : Hid (∃ n, n ≤ 1 + 50 * a + (b + 1) ∧ MapF wr (w.heap.size + 1 + 1) (M.hold f e a (b + 1)) n) := hide ⟨n, by omega, hM2.congr (fun p => (M.hold_same (by omega) (by omega) hgood p).symm)⟩
              clear hM2 hgood
              go_wp2_with (first | (go_at_call 67; refine (gamesArise_any f (M.nat a b) _ HAB.out).mono ?_; rintro e wg ⟨rfl, hb⟩; obtain ⟨hc, hf⟩ := bcell hb; have hz := hb.size; (try simp at hz); have hSn : ((fun w' => Below w.heap.size w w' ∧ w.heap.size < w'.heap.size ∧ w.heap.size + 1 < w'.heap.size ∧ w.heap.size + 1 + 1 < w'.heap.size ∧ w'.cell? ⟨w.heap.size + 1, 0, none⟩ = some (.int .i64 e.A) ∧ w'.cell? ⟨w.heap.size + 1, 1, none⟩ = some (.int .i64 e.B) ∧ w'.cell? ⟨w.heap.size, 0, none⟩ = some (.int .i64 f.sets) ∧ w'.cell? ⟨w.heap.size, 1, none⟩ = some (.int .i64 f.games) ∧ w'.cell? ⟨w.heap.size, 2, none⟩ = some (.bool f.noAd) ∧ w'.cell? ⟨w.heap.size, 3, none⟩ = some (.int .i64 f.tie) ∧ w'.cell? ⟨w.heap.size, 4, none⟩ = some (.int .i64 f.to) ∧ w'.cell? ⟨w.heap.size, 5, none⟩ = some (.int .i64 f.lastTie) ∧ w'.cell? ⟨w.heap.size, 6, none⟩ = some (.int .i64 f.lastTo) ∧ w'.cell? ⟨w.heap.size, 7, none⟩ = some (.int .i64 f.first) ∧ w'.cell? ⟨w.heap.size, 8, none⟩ = some (.int .i64 f.next) ∧ w'.cell? ⟨w.heap.size, 9, none⟩ = some (.bool f.doubles) ∧ w'.cell? ⟨wr.heap.size, 0, none⟩ = some (.int .i64 (a : Int)) ∧ w'.cell? ⟨wr.heap.size, 1, none⟩ = some (.int .i64 (b : Int)) ∧ wr.heap.size < w'.heap.size)) wg := (by (try dsimp only); (first | (go_keep; done) | (go_split_ands; (repeat' apply And.intro) <;> first | (go_keep; done) | (simp [*, zcA, zcP, zfA, zfP]; done) | (simp [zcA, zcP] <;> rfl) | (simp [*, zsS, zsO, zsA]; done) | ((first | refine (hc _ _ ?_).trans ?_ | refine (hf _ _ ?_).trans ?_) <;> first | assumption | (simp; done) | (simp; omega) | omega | (go_keep; done) | (simp [*, zcA, zcP, zfA, zfP]; done) | (simp [zcA, zcP]; rfl)) | (repeat' first | exact zbR _ _ | assumption | refine zbD ?_ | refine zbA ?_ ?_ _ | refine zbS ?_ ?_ _ | refine zbT ?_ (by assumption) ?_ | (simp; done) | (simp; omega) | omega)))); (try dsimp only at hSn); (try clear hS); have hS := hSn; clear hSn hc hf))
              have HREL2 : Hid (∃ n, n ≤ 1 + 50 * a + (b + 1) ∧ MapF (wr.alloc (.cells #[.int .i64 (a : Int), .int .i64 (b : Int)] 32)) (w.heap.size + 1 + 1) (M.hold f e a (b + 1)) n) := hide (by
                obtain ⟨n, hn, hm⟩ := HREL.out
                exact ⟨n, hn, hm.below (by (repeat' first | exact zbR _ _ | assumption | refine zbD ?_ | refine zbA ?_ ?_ _ | refine zbS ?_ ?_ _ | refine zbT ?_ (by assumption) ?_ | (simp; done) | (simp; omega) | omega))⟩)
              go_roundw
              case rel => exact ⟨b + 1, by omega, by go_num, HREL2, by (first | (go_keep; done) | (go_split_ands; (repeat' apply And.intro) <;> first | (go_keep; done) | (simp [*, zcA, zcP, zfA, zfP]; done) | (simp [zcA, zcP] <;> rfl) | (simp [*, zsS, zsO, zsA]; done) | ((first | refine (hc _ _ ?_).trans ?_ | refine (hf _ _ ?_).trans ?_) <;> first | assumption | (simp; done) | (simp; omega) | omega | (go_keep; done) | (simp [*, zcA, zcP, zfA, zfP]; done) | (simp [zcA, zcP]; rfl)) | (repeat' first | exact zbR _ _ | assumption | refine zbD ?_ | refine zbA ?_ ?_ _ | refine zbS ?_ ?_ _ | refine zbT ?_ (by assumption) ?_ | (simp; done) | (simp; omega) | omega)))⟩
              case measure => simp [intOf]; omega
          · have hgood : M.good f e a b = true := by
              unfold M.good; simp at hE; simp [hE]
            have HG := hide hgood
            clear hgood
            go_wp2_with (first | (go_at_call 67; refine (gamesArise_any f (M.nat a b) _ HAB.out).mono ?_; rintro e wg ⟨rfl, hb⟩; obtain ⟨hc, hf⟩ := bcell hb; have hz := hb.size; (try simp at hz); have hSn : ((fun w' => Below w.heap.size w w' ∧ w.heap.size < w'.heap.size ∧ w.heap.size + 1 < w'.heap.size ∧ w.heap.size + 1 + 1 < w'.heap.size ∧ w'.cell? ⟨w.heap.size + 1, 0, none⟩ = some (.int .i64 e.A) ∧ w'.cell? ⟨w.heap.size + 1, 1, none⟩ = some (.int .i64 e.B) ∧ w'.cell? ⟨w.heap.size, 0, none⟩ = some (.int .i64 f.sets) ∧ w'.cell? ⟨w.heap.size, 1, none⟩ = some (.int .i64 f.games) ∧ w'.cell? ⟨w.heap.size, 2, none⟩ = some (.bool f.noAd) ∧ w'.cell? ⟨w.heap.size, 3, none⟩ = some (.int .i64 f.tie) ∧ w'.cell? ⟨w.heap.size, 4, none⟩ = some (.int .i64 f.to) ∧ w'.cell? ⟨w.heap.size, 5, none⟩ = some (.int .i64 f.lastTie) ∧ w'.cell? ⟨w.heap.size, 6, none⟩ = some (.int .i64 f.lastTo) ∧ w'.cell? ⟨w.heap.size, 7, none⟩ = some (.int .i64 f.first) ∧ w'.cell? ⟨w.heap.size, 8, none⟩ = some (.int .i64 f.next) ∧ w'.cell? ⟨w.heap.size, 9, none⟩ = some (.bool f.doubles) ∧ w'.cell? ⟨wr.heap.size, 0, none⟩ = some (.int .i64 (a : Int)) ∧ w'.cell? ⟨wr.heap.size, 1, none⟩ = some (.int .i64 (b : Int)) ∧ wr.heap.size < w'.heap.size)) wg := (by (try dsimp only); (first | (go_keep; done) | (go_split_ands; (repeat' apply And.intro) <;> first | (go_keep; done) | (simp [*, zcA, zcP, zfA, zfP]; done) | (simp [zcA, zcP] <;> rfl) | (simp [*, zsS, zsO, zsA]; done) | ((first | refine (hc _ _ ?_).trans ?_ | refine (hf _ _ ?_).trans ?_) <;> first | assumption | (simp; done) | (simp; omega) | omega | (go_keep; done) | (simp [*, zcA, zcP, zfA, zfP]; done) | (simp [zcA, zcP]; rfl)) | (repeat' first | exact zbR _ _ | assumption | refine zbD ?_ | refine zbA ?_ ?_ _ | refine zbS ?_ ?_ _ | refine zbT ?_ (by assumption) ?_ | (simp; done) | (simp; omega) | omega)))); (try dsimp only at hSn); (try clear hS); have hS := hSn; clear hSn hc hf))
            have hM2 : MapF (wr.alloc (.cells #[.int .i64 (a : Int), .int .i64 (b : Int)] 32)).drew (w.heap.size + 1 + 1) (M.hold f e a b) n := MapF.below (w := wr) hM2 (by (repeat' first | exact zbR _ _ | assumption | refine zbD ?_ | refine zbA ?_ ?_ _ | refine zbS ?_ ?_ _ | refine zbT ?_ (by assumption) ?_ | (simp; done) | (simp; omega) | omega))
            have hl0 := MapF.look hM2 (M.minus (M.nat a b) 0) HAL.out
            have hl1 := MapF.look hM2 (M.minus (M.nat a b) 1) HAD.out
            rw [HL0.out] at hl0
            rw [HL1.out] at hl1
            refine wp_region_held_drew (S := (fun w' => Below w.heap.size w w' ∧ w.heap.size < w'.heap.size ∧ w.heap.size + 1 < w'.heap.size ∧ w.heap.size + 1 + 1 < w'.heap.size ∧ w'.cell? ⟨w.heap.size + 1, 0, none⟩ = some (.int .i64 e.A) ∧ w'.cell? ⟨w.heap.size + 1, 1, none⟩ = some (.int .i64 e.B) ∧ w'.cell? ⟨w.heap.size, 0, none⟩ = some (.int .i64 f.sets) ∧ w'.cell? ⟨w.heap.size, 1, none⟩ = some (.int .i64 f.games) ∧ w'.cell? ⟨w.heap.size, 2, none⟩ = some (.bool f.noAd) ∧ w'.cell? ⟨w.heap.size, 3, none⟩ = some (.int .i64 f.tie) ∧ w'.cell? ⟨w.heap.size, 4, none⟩ = some (.int .i64 f.to) ∧ w'.cell? ⟨w.heap.size, 5, none⟩ = some (.int .i64 f.lastTie) ∧ w'.cell? ⟨w.heap.size, 6, none⟩ = some (.int .i64 f.lastTo) ∧ w'.cell? ⟨w.heap.size, 7, none⟩ = some (.int .i64 f.first) ∧ w'.cell? ⟨w.heap.size, 8, none⟩ = some (.int .i64 f.next) ∧ w'.cell? ⟨w.heap.size, 9, none⟩ = some (.bool f.doubles) ∧ w'.cell? ⟨wr.heap.size, 0, none⟩ = some (.int .i64 (a : Int)) ∧ w'.cell? ⟨wr.heap.size, 1, none⟩ = some (.int .i64 (b : Int)) ∧ wr.heap.size < w'.heap.size ∧ (Instr.lookup 112 (.map (some (w.heap.size + 1 + 1))) (.agg #[.int .i64 (M.minus (M.nat a b) 0).A, .int .i64 (M.minus (M.nat a b) 0).B]) false).run Try.prog w' = .ok (.int .i64 (M.left f e a b)) w' ∧ (Instr.lookup 112 (.map (some (w.heap.size + 1 + 1))) (.agg #[.int .i64 (M.minus (M.nat a b) 1).A, .int .i64 (M.minus (M.nat a b) 1).B]) false).run Try.prog w' = .ok (.int .i64 (M.down f e a b)) w')) (by kernel_rfl) ?_ (fun hD0 => ?_)
            · (try dsimp only); first | (go_split_ands; (repeat' apply And.intro) <;> first | with_reducible exact hl0 | with_reducible exact hl1 | with_reducible exact hb9 | with_reducible assumption | (with_reducible refine (hc _ _ (by first | (simp; done) | (simp; omega) | omega)).trans ?_; (first | with_reducible assumption | (simp [*]; done))) | (simp [*, World.cell?_alloc_some]; done) | omega) | (first | (go_keep; done) | (go_split_ands; (repeat' apply And.intro) <;> first | (go_keep; done) | (simp [*, zcA, zcP, zfA, zfP]; done) | (simp [zcA, zcP] <;> rfl) | (simp [*, zsS, zsO, zsA]; done) | ((first | refine (hc _ _ ?_).trans ?_ | refine (hf _ _ ?_).trans ?_) <;> first | assumption | (simp; done) | (simp; omega) | omega | (go_keep; done) | (simp [*, zcA, zcP, zfA, zfP]; done) | (simp [zcA, zcP]; rfl)) | (repeat' first | exact zbR _ _ | assumption | refine zbD ?_ | refine zbA ?_ ?_ _ | refine zbS ?_ ?_ _ | refine zbT ?_ (by assumption) ?_ | (simp; done) | (simp; omega) | omega)))
            refine tW ?_ 0 rfl (by kernel_rfl) (fun _ _ _ h => h) (by rfl) (by assumption) ?_ ?_; rotate_left; (focus (intro w hSw; (try dsimp only at hSw); go_simp; try with_reducible rfl)); try simp only [Act.put, zl, z0, z1]
            refine tW ?_ 1 rfl (by kernel_rfl) (fun _ _ _ h => h) (by rfl) (by assumption) ?_ ?_; rotate_left; (focus (intro w hSw; (try dsimp only at hSw); go_simp; try with_reducible rfl)); try simp only [Act.put, zl, z0, z1]
            refine tW ?_ 2 rfl (by kernel_rfl) (fun _ _ _ h => h) (by rfl) (by assumption) ?_ ?_; rotate_left; (focus (intro w hSw; (try dsimp only at hSw); go_simp; try with_reducible rfl)); try simp only [Act.put, zl, z0, z1]
            refine tW ?_ 3 rfl (by kernel_rfl) (fun _ _ _ h => h) (by rfl) (by assumption) ?_ ?_; rotate_left; (focus (intro w hSw; (try dsimp only at hSw); go_simp; try with_reducible rfl)); try simp only [Act.put, zl, z0, z1]
            refine tW ?_ 6 rfl (by kernel_rfl) (fun _ _ _ h => h) (by rfl) (by assumption) ?_ ?_; rotate_left; (focus (intro w hSw; (try dsimp only at hSw); go_simp; try with_reducible rfl)); try simp only [Act.put, zl, z0, z1]
            refine tW ?_ 7 rfl (by kernel_rfl) (fun _ _ _ h => h) (by rfl) (by assumption) ?_ ?_; rotate_left; (focus (intro w hSw; (try dsimp only at hSw); go_simp; try with_reducible rfl)); try simp only [Act.put, zl, z0, z1]
            refine wpAnyH_ready (rs := [4]) (by kernel_rfl) (by simp) ?_; refine consL 4 rfl (fun K hK => ?_) AllReadyH.nil; go_simp
            (go_at_call 75; refine (minus_any (M.nat a b) _ _ HAB.out).mono ?_; rintro _ w' ⟨rfl, hb⟩; obtain ⟨hc, hf⟩ := bcell hb; have hz := hb.size; (try simp at hz); have hM2 := MapF.below hM2 hb; have hl0 := MapF.look hM2 (M.minus (M.nat a b) 0) HAL.out; have hl1 := MapF.look hM2 (M.minus (M.nat a b) 1) HAD.out; rw [HL0.out] at hl0; rw [HL1.out] at hl1)
            refine hK.out _ _ ?_ (fun hD1 => ?_)
            · (try dsimp only); first | (go_split_ands; (repeat' apply And.intro) <;> first | with_reducible exact hl0 | with_reducible exact hl1 | with_reducible exact hb9 | with_reducible assumption | (with_reducible refine (hc _ _ (by first | (simp; done) | (simp; omega) | omega)).trans ?_; (first | with_reducible assumption | (simp [*]; done))) | (simp [*, World.cell?_alloc_some]; done) | omega) | (first | (go_keep; done) | (go_split_ands; (repeat' apply And.intro) <;> first | (go_keep; done) | (simp [*, zcA, zcP, zfA, zfP]; done) | (simp [zcA, zcP] <;> rfl) | (simp [*, zsS, zsO, zsA]; done) | ((first | refine (hc _ _ ?_).trans ?_ | refine (hf _ _ ?_).trans ?_) <;> first | assumption | (simp; done) | (simp; omega) | omega | (go_keep; done) | (simp [*, zcA, zcP, zfA, zfP]; done) | (simp [zcA, zcP]; rfl)) | (repeat' first | exact zbR _ _ | assumption | refine zbD ?_ | refine zbA ?_ ?_ _ | refine zbS ?_ ?_ _ | refine zbT ?_ (by assumption) ?_ | (simp; done) | (simp; omega) | omega)))
            clear hK K hD0; try simp only [Act.put, zl, z0, z1]
            refine tW ?_ 5 rfl (by kernel_rfl) (fun _ _ _ h => h) (by rfl) (by assumption) ?_ ?_; rotate_left; (focus (intro w hSw; (try dsimp only at hSw); go_simp; try with_reducible rfl)); try simp only [Act.put, zl, z0, z1]
            refine wpAnyH_ready (rs := [8]) (by kernel_rfl) (by simp) ?_; refine consL 8 rfl (fun K hK => ?_) AllReadyH.nil; go_simp
            (go_at_call 75; refine (minus_any (M.nat a b) _ _ HAB.out).mono ?_; rintro _ w' ⟨rfl, hb⟩; obtain ⟨hc, hf⟩ := bcell hb; have hz := hb.size; (try simp at hz); have hM2 := MapF.below hM2 hb; have hl0 := MapF.look hM2 (M.minus (M.nat a b) 0) HAL.out; have hl1 := MapF.look hM2 (M.minus (M.nat a b) 1) HAD.out; rw [HL0.out] at hl0; rw [HL1.out] at hl1)
            refine hK.out _ _ ?_ (fun hD2 => ?_)
            · (try dsimp only); first | (go_split_ands; (repeat' apply And.intro) <;> first | with_reducible exact hl0 | with_reducible exact hl1 | with_reducible exact hb9 | with_reducible assumption | (with_reducible refine (hc _ _ (by first | (simp; done) | (simp; omega) | omega)).trans ?_; (first | with_reducible assumption | (simp [*]; done))) | (simp [*, World.cell?_alloc_some]; done) | omega) | (first | (go_keep; done) | (go_split_ands; (repeat' apply And.intro) <;> first | (go_keep; done) | (simp [*, zcA, zcP, zfA, zfP]; done) | (simp [zcA, zcP] <;> rfl) | (simp [*, zsS, zsO, zsA]; done) | ((first | refine (hc _ _ ?_).trans ?_ | refine (hf _ _ ?_).trans ?_) <;> first | assumption | (simp; done) | (simp; omega) | omega | (go_keep; done) | (simp [*, zcA, zcP, zfA, zfP]; done) | (simp [zcA, zcP]; rfl)) | (repeat' first | exact zbR _ _ | assumption | refine zbD ?_ | refine zbA ?_ ?_ _ | refine zbS ?_ ?_ _ | refine zbT ?_ (by assumption) ?_ | (simp; done) | (simp; omega) | omega)))
            clear hK K hD1; try simp only [Act.put, zl, z0, z1]
            refine tW ?_ 9 rfl (by kernel_rfl) (fun _ _ _ h => h) (by rfl) (by assumption) ?_ ?_; rotate_left; (focus (intro w hSw; (try dsimp only at hSw); go_simp; try with_reducible rfl)); try simp only [Act.put, zl, z0, z1]
            refine tW ?_ 10 rfl (by kernel_rfl) (fun _ _ _ h => h) (by rfl) (by assumption) ?_ ?_; rotate_left; (focus (intro w hSw; (try dsimp only at hSw); go_simp; try with_reducible rfl)); try simp only [Act.put, zl, z0, z1]
            refine wpAnyH_ready (rs := [11]) (by kernel_rfl) (by simp) ?_; refine consL 11 rfl (fun K hK => ?_) AllReadyH.nil
            (obtain ⟨w9, hrun9, hM9, hg9⟩ := MapF.store hM2 (by omega) (M.nat a b) HAB.out ((M.left f e a b : Int) + M.down f e a b) HWF.out; have hrun9 : (Instr.mapUpdate 112 (.map (some (w.heap.size + 1 + 1))) (.agg #[.int .i64 (a : Int), .int .i64 (b : Int)]) (.int .i64 ((M.left f e a b : Int) + M.down f e a b))).run Try.prog w' = .ok () w9 := hrun9; have hc : ∀ b' o, b' < w'.heap.size ∧ b' ≠ w.heap.size + 1 + 1 → w9.cell? ⟨b', o, none⟩ = w'.cell? ⟨b', o, none⟩ := (fun b' o h => World.cell?_of_block (hg9.block b' h.1 (by simp; omega))); have hf : ∀ b' o, b' < w'.heap.size ∧ b' ≠ w.heap.size + 1 + 1 → w9.frozen? ⟨b', o, none⟩ = w'.frozen? ⟨b', o, none⟩ := (fun b' o h => World.frozen?_of_block (hg9.block b' h.1 (by simp; omega))); have hz := hg9.size; have hl0 := MapF.look hM9 (M.minus (M.nat a b) 0) HAL.out; have hl1 := MapF.look hM9 (M.minus (M.nat a b) 1) HAD.out; rw [upd_ne (minus_ne a b 0), HL0.out] at hl0; rw [upd_ne (minus_ne a b 1), HL1.out] at hl1; have hb9 : Below w.heap.size w w9 := Below.grown (by (go_split_ands; assumption)) hg9 (by omega) (by intro k hk; injection hk with hk; omega); rw [if_pos (by rfl)]; go_simp)
            refine hK.out _ _ ?_ (fun hD3 => ?_)
            · (try dsimp only); first | (go_split_ands; (repeat' apply And.intro) <;> first | with_reducible exact hl0 | with_reducible exact hl1 | with_reducible exact hb9 | with_reducible assumption | (with_reducible refine (hc _ _ (by first | (simp; done) | (simp; omega) | omega)).trans ?_; (first | with_reducible assumption | (simp [*]; done))) | (simp [*, World.cell?_alloc_some]; done) | omega) | (first | (go_keep; done) | (go_split_ands; (repeat' apply And.intro) <;> first | (go_keep; done) | (simp [*, zcA, zcP, zfA, zfP]; done) | (simp [zcA, zcP] <;> rfl) | (simp [*, zsS, zsO, zsA]; done) | ((first | refine (hc _ _ ?_).trans ?_ | refine (hf _ _ ?_).trans ?_) <;> first | assumption | (simp; done) | (simp; omega) | omega | (go_keep; done) | (simp [*, zcA, zcP, zfA, zfP]; done) | (simp [zcA, zcP]; rfl)) | (repeat' first | exact zbR _ _ | assumption | refine zbD ?_ | refine zbA ?_ ?_ _ | refine zbS ?_ ?_ _ | refine zbT ?_ (by assumption) ?_ | (simp; done) | (simp; omega) | omega)))
            clear hK K hD2; try simp only [Act.put, zl, z0, z1]
            refine wpAnyH_done (by kernel_rfl) ?_ _
            go_wp2
            have HREL : Hid (∃ n, n ≤ 1 + 50 * a + (b + 1) ∧ MapF w9 (w.heap.size + 1 + 1) (M.hold f e a (b + 1)) n) := hide ⟨n + 1, by omega, hM9.congr (fun p => upd_hold (by omega) (by omega) HG.out p)⟩
            go_roundw
            case rel => exact ⟨b + 1, by omega, by go_num, HREL, by (first | (go_keep; done) | (go_split_ands; (repeat' apply And.intro) <;> first | (go_keep; done) | (simp [*, zcA, zcP, zfA, zfP]; done) | (simp [zcA, zcP] <;> rfl) | (simp [*, zsS, zsO, zsA]; done) | ((first | refine (hc _ _ ?_).trans ?_ | refine (hf _ _ ?_).trans ?_) <;> first | assumption | (simp; done) | (simp; omega) | omega | (go_keep; done) | (simp [*, zcA, zcP, zfA, zfP]; done) | (simp [zcA, zcP]; rfl)) | (repeat' first | exact zbR _ _ | assumption | refine zbD ?_ | refine zbA ?_ ?_ _ | refine zbS ?_ ?_ _ | refine zbT ?_ (by assumption) ?_ | (simp; done) | (simp; omega) | omega)))⟩
            case measure => simp [intOf]; omega
        · have hb1 : (b : Int) = e.B + 1 := by omega
          have HREL : Hid (∃ n, n ≤ 1 + 50 * (a + 1) ∧ MapF wr (w.heap.size + 1 + 1) (M.hold f e (a + 1) 0) n) := hide (by
            obtain ⟨n, hn, hm⟩ := hM'.out
            exact ⟨n, by omega, hm.congr (fun p => M.hold_row hb1 p)⟩)
          clear hb1
          go_wp2
          go_roundw
          case rel => exact ⟨a + 1, by omega, by go_num, HREL, by (first | (go_keep; done) | (go_split_ands; (repeat' apply And.intro) <;> first | (go_keep; done) | (simp [*, zcA, zcP, zfA, zfP]; done) | (simp [zcA, zcP] <;> rfl) | (simp [*, zsS, zsO, zsA]; done) | ((first | refine (hc _ _ ?_).trans ?_ | refine (hf _ _ ?_).trans ?_) <;> first | assumption | (simp; done) | (simp; omega) | omega | (go_keep; done) | (simp [*, zcA, zcP, zfA, zfP]; done) | (simp [zcA, zcP]; rfl)) | (repeat' first | exact zbR _ _ | assumption | refine zbD ?_ | refine zbA ?_ ?_ _ | refine zbS ?_ ?_ _ | refine zbT ?_ (by assumption) ?_ | (simp; done) | (simp; omega) | omega)))⟩
          case measure => simp [intOf]; omega
    · have ha1 : (a : Int) = e.A + 1 := by omega
      obtain ⟨n, hn, hm⟩ := hM.out
      have hl := MapF.look hm e ⟨by omega, by omega, by omega, by omega⟩
      rw [M.hold_end ⟨e0, e2⟩ ha1] at hl
      clear ha1 hm hrun'
      go_wp2
      go_ret
      exact ⟨rfl, by (go_split_ands; (repeat' first | exact zbR _ _ | assumption | refine zbD ?_ | refine zbA ?_ ?_ _ | refine zbS ?_ ?_ _ | refine zbT ?_ (by assumption) ?_ | (simp; done) | (simp; omega) | omega))⟩

end Go.Proofs.Ytoaogpipogeamaa

namespace Go.Proofs.Ytoaogpipogeamaa
open Go.RowKit
attribute [local go_sem ↓] Go.wp_at_zero Go.wp_at_succ

theorem sw_parts {f : M.Fm} {ps : List M.Pr} {g p : M.Pr} (h : M.swE f ps g p = 0) : M.Valid f ∧ M.numbered ps g p = true ∧ M.standB f ps g p = true := by
  unfold M.swE at h
  cases hv : M.validB f
  · simp [hv] at h
  · cases hn : M.numbered ps g p
    · simp [hv, hn] at h
    · cases hs : M.standB f ps g p
      · simp [hv, hn, hs] at h
      · exact ⟨(M.validB_iff f).1 hv, rfl, rfl⟩
theorem wonBy_cons {f : M.Fm} {won g r : M.Pr} {l : List M.Pr} (h : M.wonBy f won (g :: l) = some r) : M.winner f won = -1 ∧ M.setWinner (M.ofSet f won) g ≠ -1 ∧ M.wonBy f (M.plus won (M.setWinner (M.ofSet f won) g)) l = some r := by
  unfold M.wonBy at h
  split at h
  · rename_i hc; exact ⟨hc.1, hc.2, h⟩
  · cases h

set_option maxHeartbeats 8000000 in
theorem Ways_any (f : M.Fm) (A : Option Addr) (n c : Nat) (ps : List M.Pr) (w : World) (hn : ps.length = n) (hr : RdP w w.heap.size A ps) (hm : n ≤ 1000000) :
    Calls Try.prog 32 #[.agg #[.int .i64 f.sets, .int .i64 f.games, .bool f.noAd, .int .i64 f.tie, .int .i64 f.to, .int .i64 f.lastTie, .int .i64 f.lastTo, .int .i64 f.first, .int .i64 f.next, .bool f.doubles], .slice A n c] w fun e w' => e = .returned (.tuple #[.int .i64 (M.waysV f ps), .int .i64 (M.waysE f ps)]) ∧ Below w.heap.size w w' := by
  have HN := hide hn
  have HR := hide hr
  clear hn hr
  cases hsw : (M.swE f ps M.zero M.zero != 0)
  · have h0 : M.swE f ps M.zero M.zero = 0 := by simpa using hsw
    obtain ⟨hv, hnu, hst⟩ := sw_parts h0
    obtain ⟨r, hwr⟩ : ∃ r, M.wonBy f M.zero ps = some r := by
      unfold M.standB at hst
      cases hw : M.wonBy f M.zero ps with
      | none => rw [hw] at hst; cases hst
      | some r => exact ⟨r, rfl⟩
    obtain ⟨_, hpf, _, _⟩ := M.numbered_parts hnu
    have he : M.waysE f ps = match M.waysB f M.zero 1 ps with | none => 2 | some _ => 0 := if_neg (fun h => h h0)
    have hvv : M.waysV f ps = match M.waysB f M.zero 1 ps with | none => 0 | some w => (w : Int) := if_neg (fun h => h h0)
    have HV := hide hv
    have HPF := hide hpf
    have HWR := hide hwr
    have HEE := hide he
    have HVV := hide hvv
    have v0 := hv.s0
    have v1 := hv.s1
    clear hv hnu hst hpf hwr he hvv
    go_enter Try.func32, Try.ntmps32
    go_wp2_with (first | (go_at_call 45; refine (setsWon_any f A n c ps M.zero M.zero _ HN.out ((HR.out.below (by (repeat' first | exact zbR _ _ | assumption | refine zbD ?_ | refine zbA ?_ ?_ _ | refine zbS ?_ ?_ _ | refine zbT ?_ (by assumption) ?_ | (simp; done) | (simp; omega) | omega))).mono (by first | (simp; done) | (simp; omega))) hm).mono ?_; rintro e w2a ⟨rfl, hb⟩; obtain ⟨hc, hf⟩ := bcell hb; have hz := hb.size; (try simp at hz); have hSn : ((fun w' => Below w.heap.size w w' ∧ w.heap.size < w'.heap.size ∧ w'.cell? ⟨w.heap.size, 0, none⟩ = some (.int .i64 f.sets) ∧ w'.cell? ⟨w.heap.size, 1, none⟩ = some (.int .i64 f.games) ∧ w'.cell? ⟨w.heap.size, 2, none⟩ = some (.bool f.noAd) ∧ w'.cell? ⟨w.heap.size, 3, none⟩ = some (.int .i64 f.tie) ∧ w'.cell? ⟨w.heap.size, 4, none⟩ = some (.int .i64 f.to) ∧ w'.cell? ⟨w.heap.size, 5, none⟩ = some (.int .i64 f.lastTie) ∧ w'.cell? ⟨w.heap.size, 6, none⟩ = some (.int .i64 f.lastTo) ∧ w'.cell? ⟨w.heap.size, 7, none⟩ = some (.int .i64 f.first) ∧ w'.cell? ⟨w.heap.size, 8, none⟩ = some (.int .i64 f.next) ∧ w'.cell? ⟨w.heap.size, 9, none⟩ = some (.bool f.doubles))) w2a := (by (try dsimp only); (first | (go_keep; done) | (go_split_ands; (repeat' apply And.intro) <;> first | (go_keep; done) | (simp [*, zcA, zcP, zfA, zfP]; done) | (simp [zcA, zcP] <;> rfl) | (simp [*, zsS, zsO, zsA]; done) | ((first | refine (hc _ _ ?_).trans ?_ | refine (hf _ _ ?_).trans ?_) <;> first | assumption | (simp; done) | (simp; omega) | omega | (go_keep; done) | (simp [*, zcA, zcP, zfA, zfP]; done) | (simp [zcA, zcP]; rfl)) | (repeat' first | exact zbR _ _ | assumption | refine zbD ?_ | refine zbA ?_ ?_ _ | refine zbS ?_ ?_ _ | refine zbT ?_ (by assumption) ?_ | (simp; done) | (simp; omega) | omega)))); (try dsimp only at hSn); (try clear hS); have hS := hSn; clear hSn hc hf))
    have hlt0 : w.heap.size < w2a.heap.size := hS.2.1
    have hne1 : ¬ (w.heap.size = w2a.heap.size + 1) := by omega
    have hne2 : ¬ (w2a.heap.size + 1 = w.heap.size) := by omega
    go_loopw [8, 27] (fun x i wr => ∃ k : Nat, k ≤ n ∧ i = .int .i64 k ∧ ∃ u : Nat, x = .int .i64 u ∧ ∃ won : M.Pr, 1 ≤ u ∧ u ≤ 1000000000000 ∧ Hid (M.waysB f M.zero 1 ps = M.waysB f won u (ps.drop k)) ∧ Hid (M.wonBy f won (ps.drop k) = M.wonBy f M.zero ps) ∧ Hid (0 ≤ won.A ∧ 0 ≤ won.B ∧ won.A ≤ k ∧ won.B ≤ k) ∧ Below w.heap.size w wr ∧ w.heap.size < wr.heap.size ∧ w2a.heap.size + 1 < wr.heap.size ∧ wr.cell? ⟨w2a.heap.size + 1, 0, none⟩ = some (.int .i64 won.A) ∧ wr.cell? ⟨w2a.heap.size + 1, 1, none⟩ = some (.int .i64 won.B) ∧ wr.frozen? ⟨w2a.heap.size + 1, 0, none⟩ = false ∧ wr.frozen? ⟨w2a.heap.size + 1, 1, none⟩ = false ∧ wr.cell? ⟨w.heap.size, 0, none⟩ = some (.int .i64 f.sets) ∧ wr.cell? ⟨w.heap.size, 1, none⟩ = some (.int .i64 f.games) ∧ wr.cell? ⟨w.heap.size, 2, none⟩ = some (.bool f.noAd) ∧ wr.cell? ⟨w.heap.size, 3, none⟩ = some (.int .i64 f.tie) ∧ wr.cell? ⟨w.heap.size, 4, none⟩ = some (.int .i64 f.to) ∧ wr.cell? ⟨w.heap.size, 5, none⟩ = some (.int .i64 f.lastTie) ∧ wr.cell? ⟨w.heap.size, 6, none⟩ = some (.int .i64 f.lastTo) ∧ wr.cell? ⟨w.heap.size, 7, none⟩ = some (.int .i64 f.first) ∧ wr.cell? ⟨w.heap.size, 8, none⟩ = some (.int .i64 f.next) ∧ wr.cell? ⟨w.heap.size, 9, none⟩ = some (.bool f.doubles)) (fun _ i _ => n - (intOf i).toNat)
    case atStart => exact ⟨0, by omega, rfl, 1, rfl, M.zero, by omega, by omega, hide (by simp), hide (by simp), hide (by decide), by (first | (go_keep; done) | (go_split_ands; (repeat' apply And.intro) <;> first | (go_keep; done) | (simp [*, zcA, zcP, zfA, zfP]; done) | (simp [zcA, zcP] <;> rfl) | (simp [*, zsS, zsO, zsA]; done) | ((first | refine (hc _ _ ?_).trans ?_ | refine (hf _ _ ?_).trans ?_) <;> first | assumption | (simp; done) | (simp; omega) | omega | (go_keep; done) | (simp [*, zcA, zcP, zfA, zfP]; done) | (simp [zcA, zcP]; rfl)) | (repeat' first | exact zbR _ _ | assumption | refine zbD ?_ | refine zbA ?_ ?_ _ | refine zbS ?_ ?_ _ | refine zbT ?_ (by assumption) ?_ | (simp; done) | (simp; omega) | omega)))⟩
    case round =>
      obtain ⟨k, hk, rfl, u, rfl, won, hu1, hu2, hwa, hwo, hwb, hS0⟩ := hrel
      have hn5 : n ≤ 1000000 := hm
      have HWS : Hid (M.Small won) := hide ⟨by have := hwb.out; omega, by have := hwb.out; omega, by have := hwb.out; omega, by have := hwb.out; omega⟩
      by_cases hlt : k < n
      · obtain ⟨q, hq⟩ : ∃ q, ps[k]? = some q := ⟨_, List.getElem?_eq_getElem (by have := HN.out; omega)⟩
        obtain ⟨b, o, hA, hbB, c0, c1⟩ := (HR.out.below (by exact hS0.1)) k q hq
        subst hA
        have hqf := fine_bd (List.all_eq_true.1 HPF.out q (List.mem_of_getElem? hq))
        have HQF := hide hqf
        have hd : ps.drop k = q :: ps.drop (k + 1) := by
          obtain ⟨hl, rfl⟩ := List.getElem?_eq_some_iff.1 hq
          exact List.drop_eq_getElem_cons hl
        have HQS : Hid (M.Small q) := hide ⟨by omega, by omega, by omega, by omega⟩
        have HQ0 : Hid (-1000 ≤ q.A ∧ -1000 ≤ q.B) := hide (by omega)
        have HQ1 : Hid (q.A ≤ 1000 ∧ q.B ≤ 1000) := hide (by omega)
        have HVS := hide (HV.out.ofSet won)
        have hw1 : M.wonBy f won (q :: ps.drop (k + 1)) = some r := by rw [← hd, hwo.out]; exact HWR.out
        obtain ⟨hwin, hset, hnext⟩ := wonBy_cons hw1
        have hpos := M.orders_pos ⟨hqf.1, hqf.2.2.1⟩ hset
        have hmost := M.orders_most HVS.out hqf
        have hwa' := hwa.out
        rw [hd] at hwa'
        have hst : M.waysB f won u (q :: ps.drop (k + 1)) = if M.maxWays < u * M.orders (M.ofSet f won) q then none else M.waysB f (M.plus won (M.setWinner (M.ofSet f won) q)) (u * M.orders (M.ofSet f won) q) (ps.drop (k + 1)) := rfl
        rw [hst] at hwa'
        have HWA := hide hwa'
        have HNX := hide hnext
        have HSC := hide (M.setWinner_cases (M.ofSet f won) q)
        have hp1 : (1 : Int) ≤ (M.orders (M.ofSet f won) q : Int) := by omega
        have hq0 : 0 ≤ (1000000000000 : Int) / (M.orders (M.ofSet f won) q : Int) := Int.ediv_nonneg (by decide) (by omega)
        have hq1 : (1000000000000 : Int) / (M.orders (M.ofSet f won) q : Int) ≤ 1000000000000 := Int.ediv_le_self _ (by decide)
        have hiff : (1000000000000 : Int) / (M.orders (M.ofSet f won) q : Int) < (u : Int) ↔ (1000000000000 : Int) < (u : Int) * (M.orders (M.ofSet f won) q : Int) := Int.ediv_lt_iff_lt_mul (by omega)
        have hPS : Hid (0 ≤ (M.plus won (M.setWinner (M.ofSet f won) q)).A ∧ 0 ≤ (M.plus won (M.setWinner (M.ofSet f won) q)).B ∧ (M.plus won (M.setWinner (M.ofSet f won) q)).A ≤ (k + 1 : Nat) ∧ (M.plus won (M.setWinner (M.ofSet f won) q)).B ≤ (k + 1 : Nat)) := hide (by have := hwb.out; unfold M.plus; split <;> (dsimp; omega))
        have HSETN := hide hset
        clear hpos hmost hwa' hst hnext hwin hset hw1 hd hqf hq
        by_cases hdiv : (1000000000000 : Int) / (M.orders (M.ofSet f won) q : Int) < (u : Int)
        · have hbig : M.maxWays < u * M.orders (M.ofSet f won) q := by
            have := hiff.1 hdiv
            unfold M.maxWays
            have h2 : ((u * M.orders (M.ofSet f won) q : Nat) : Int) = (u : Int) * (M.orders (M.ofSet f won) q : Int) := Int.natCast_mul _ _
            omega
          have hnone : M.waysB f M.zero 1 ps = none := by rw [HWA.out, if_pos hbig]
          have HO := hide hnone
          clear hnone hbig hiff
          go_wp2_with (first | (go_at_call 55; refine (ofSet_any f won _ (by omega) (by omega)).mono ?_; rintro e w4 ⟨rfl, hb⟩; obtain ⟨hc, hf⟩ := bcell hb; have hz := hb.size; (try simp at hz); have hSn : ((fun w' => Below w.heap.size w w' ∧ w.heap.size < w'.heap.size ∧ w2a.heap.size + 1 < w'.heap.size ∧ w'.cell? ⟨w2a.heap.size + 1, 0, none⟩ = some (.int .i64 won.A) ∧ w'.cell? ⟨w2a.heap.size + 1, 1, none⟩ = some (.int .i64 won.B) ∧ w'.frozen? ⟨w2a.heap.size + 1, 0, none⟩ = false ∧ w'.frozen? ⟨w2a.heap.size + 1, 1, none⟩ = false ∧ w'.cell? ⟨w.heap.size, 0, none⟩ = some (.int .i64 f.sets) ∧ w'.cell? ⟨w.heap.size, 1, none⟩ = some (.int .i64 f.games) ∧ w'.cell? ⟨w.heap.size, 2, none⟩ = some (.bool f.noAd) ∧ w'.cell? ⟨w.heap.size, 3, none⟩ = some (.int .i64 f.tie) ∧ w'.cell? ⟨w.heap.size, 4, none⟩ = some (.int .i64 f.to) ∧ w'.cell? ⟨w.heap.size, 5, none⟩ = some (.int .i64 f.lastTie) ∧ w'.cell? ⟨w.heap.size, 6, none⟩ = some (.int .i64 f.lastTo) ∧ w'.cell? ⟨w.heap.size, 7, none⟩ = some (.int .i64 f.first) ∧ w'.cell? ⟨w.heap.size, 8, none⟩ = some (.int .i64 f.next) ∧ w'.cell? ⟨w.heap.size, 9, none⟩ = some (.bool f.doubles) ∧ wr.heap.size < w'.heap.size ∧ w'.cell? ⟨wr.heap.size, 0, none⟩ = some (.int .i64 q.A) ∧ w'.cell? ⟨wr.heap.size, 1, none⟩ = some (.int .i64 q.B))) w4 := (by (try dsimp only); (first | (go_keep; done) | (go_split_ands; (repeat' apply And.intro) <;> first | (go_keep; done) | (simp [*, zcA, zcP, zfA, zfP]; done) | (simp [zcA, zcP] <;> rfl) | (simp [*, zsS, zsO, zsA]; done) | ((first | refine (hc _ _ ?_).trans ?_ | refine (hf _ _ ?_).trans ?_) <;> first | assumption | (simp; done) | (simp; omega) | omega | (go_keep; done) | (simp [*, zcA, zcP, zfA, zfP]; done) | (simp [zcA, zcP]; rfl)) | (repeat' first | exact zbR _ _ | assumption | refine zbD ?_ | refine zbA ?_ ?_ _ | refine zbS ?_ ?_ _ | refine zbT ?_ (by assumption) ?_ | (simp; done) | (simp; omega) | omega)))); (try dsimp only at hSn); (try clear hS); have hS := hSn; clear hSn hc hf) | (go_at_call 56; refine (orders_any (M.ofSet f won) q _ HVS.out HQF.out).mono ?_; rintro e w5 ⟨rfl, hb⟩; obtain ⟨hc, hf⟩ := bcell hb; have hz := hb.size; (try simp at hz); have hSn : ((fun w' => Below w.heap.size w w' ∧ w.heap.size < w'.heap.size ∧ w2a.heap.size + 1 < w'.heap.size ∧ w'.cell? ⟨w2a.heap.size + 1, 0, none⟩ = some (.int .i64 won.A) ∧ w'.cell? ⟨w2a.heap.size + 1, 1, none⟩ = some (.int .i64 won.B) ∧ w'.frozen? ⟨w2a.heap.size + 1, 0, none⟩ = false ∧ w'.frozen? ⟨w2a.heap.size + 1, 1, none⟩ = false ∧ w'.cell? ⟨w.heap.size, 0, none⟩ = some (.int .i64 f.sets) ∧ w'.cell? ⟨w.heap.size, 1, none⟩ = some (.int .i64 f.games) ∧ w'.cell? ⟨w.heap.size, 2, none⟩ = some (.bool f.noAd) ∧ w'.cell? ⟨w.heap.size, 3, none⟩ = some (.int .i64 f.tie) ∧ w'.cell? ⟨w.heap.size, 4, none⟩ = some (.int .i64 f.to) ∧ w'.cell? ⟨w.heap.size, 5, none⟩ = some (.int .i64 f.lastTie) ∧ w'.cell? ⟨w.heap.size, 6, none⟩ = some (.int .i64 f.lastTo) ∧ w'.cell? ⟨w.heap.size, 7, none⟩ = some (.int .i64 f.first) ∧ w'.cell? ⟨w.heap.size, 8, none⟩ = some (.int .i64 f.next) ∧ w'.cell? ⟨w.heap.size, 9, none⟩ = some (.bool f.doubles) ∧ wr.heap.size < w'.heap.size ∧ w'.cell? ⟨wr.heap.size, 0, none⟩ = some (.int .i64 q.A) ∧ w'.cell? ⟨wr.heap.size, 1, none⟩ = some (.int .i64 q.B) ∧ w4.heap.size < w'.heap.size ∧ w'.cell? ⟨w4.heap.size, 0, none⟩ = some (.int .i64 (M.ofSet f won).sets) ∧ w'.cell? ⟨w4.heap.size, 1, none⟩ = some (.int .i64 (M.ofSet f won).games) ∧ w'.cell? ⟨w4.heap.size, 2, none⟩ = some (.bool (M.ofSet f won).noAd) ∧ w'.cell? ⟨w4.heap.size, 3, none⟩ = some (.int .i64 (M.ofSet f won).tie) ∧ w'.cell? ⟨w4.heap.size, 4, none⟩ = some (.int .i64 (M.ofSet f won).to) ∧ w'.cell? ⟨w4.heap.size, 5, none⟩ = some (.int .i64 (M.ofSet f won).lastTie) ∧ w'.cell? ⟨w4.heap.size, 6, none⟩ = some (.int .i64 (M.ofSet f won).lastTo) ∧ w'.cell? ⟨w4.heap.size, 7, none⟩ = some (.int .i64 (M.ofSet f won).first) ∧ w'.cell? ⟨w4.heap.size, 8, none⟩ = some (.int .i64 (M.ofSet f won).next) ∧ w'.cell? ⟨w4.heap.size, 9, none⟩ = some (.bool (M.ofSet f won).doubles))) w5 := (by (try dsimp only); (first | (go_keep; done) | (go_split_ands; (repeat' apply And.intro) <;> first | (go_keep; done) | (simp [*, zcA, zcP, zfA, zfP]; done) | (simp [zcA, zcP] <;> rfl) | (simp [*, zsS, zsO, zsA]; done) | ((first | refine (hc _ _ ?_).trans ?_ | refine (hf _ _ ?_).trans ?_) <;> first | assumption | (simp; done) | (simp; omega) | omega | (go_keep; done) | (simp [*, zcA, zcP, zfA, zfP]; done) | (simp [zcA, zcP]; rfl)) | (repeat' first | exact zbR _ _ | assumption | refine zbD ?_ | refine zbA ?_ ?_ _ | refine zbS ?_ ?_ _ | refine zbT ?_ (by assumption) ?_ | (simp; done) | (simp; omega) | omega)))); (try dsimp only at hSn); (try clear hS); have hS := hSn; clear hSn hc hf))
          go_ret2
          exact ⟨by rw [HVV.out, HEE.out, HO.out]; rfl, by (go_split_ands; (repeat' first | exact zbR _ _ | assumption | refine zbD ?_ | refine zbA ?_ ?_ _ | refine zbS ?_ ?_ _ | refine zbT ?_ (by assumption) ?_ | (simp; done) | (simp; omega) | omega))⟩
        · have hsmall : (u : Int) * (M.orders (M.ofSet f won) q : Int) ≤ 1000000000000 := by
            have := fun h => hdiv (hiff.2 h); omega
          have hnn : 0 ≤ (u : Int) * (M.orders (M.ofSet f won) q : Int) := Int.mul_nonneg (by omega) (by omega)
          have h2 : ((u * M.orders (M.ofSet f won) q : Nat) : Int) = (u : Int) * (M.orders (M.ofSet f won) q : Int) := Int.natCast_mul _ _
          have hpos2 : 1 ≤ u * M.orders (M.ofSet f won) q := Nat.mul_pos (by omega) (by omega)
          have hle2 : u * M.orders (M.ofSet f won) q ≤ 1000000000000 := by omega
          have hon : M.waysB f M.zero 1 ps = M.waysB f (M.plus won (M.setWinner (M.ofSet f won) q)) (u * M.orders (M.ofSet f won) q) (ps.drop (k + 1)) := by rw [HWA.out, if_neg (by unfold M.maxWays; omega)]
          have HON := hide hon
          have H2 := hide h2
          have HP2 := hide hpos2
          have HL2 := hide hle2
          clear hon h2 hpos2 hle2 hiff
          go_wp2_with (first | (go_at_call 55; refine (ofSet_any f won _ (by omega) (by omega)).mono ?_; rintro e w4 ⟨rfl, hb⟩; obtain ⟨hc, hf⟩ := bcell hb; have hz := hb.size; (try simp at hz); have hSn : ((fun w' => Below w.heap.size w w' ∧ w.heap.size < w'.heap.size ∧ w2a.heap.size + 1 < w'.heap.size ∧ w'.cell? ⟨w2a.heap.size + 1, 0, none⟩ = some (.int .i64 won.A) ∧ w'.cell? ⟨w2a.heap.size + 1, 1, none⟩ = some (.int .i64 won.B) ∧ w'.frozen? ⟨w2a.heap.size + 1, 0, none⟩ = false ∧ w'.frozen? ⟨w2a.heap.size + 1, 1, none⟩ = false ∧ w'.cell? ⟨w.heap.size, 0, none⟩ = some (.int .i64 f.sets) ∧ w'.cell? ⟨w.heap.size, 1, none⟩ = some (.int .i64 f.games) ∧ w'.cell? ⟨w.heap.size, 2, none⟩ = some (.bool f.noAd) ∧ w'.cell? ⟨w.heap.size, 3, none⟩ = some (.int .i64 f.tie) ∧ w'.cell? ⟨w.heap.size, 4, none⟩ = some (.int .i64 f.to) ∧ w'.cell? ⟨w.heap.size, 5, none⟩ = some (.int .i64 f.lastTie) ∧ w'.cell? ⟨w.heap.size, 6, none⟩ = some (.int .i64 f.lastTo) ∧ w'.cell? ⟨w.heap.size, 7, none⟩ = some (.int .i64 f.first) ∧ w'.cell? ⟨w.heap.size, 8, none⟩ = some (.int .i64 f.next) ∧ w'.cell? ⟨w.heap.size, 9, none⟩ = some (.bool f.doubles) ∧ wr.heap.size < w'.heap.size ∧ w'.cell? ⟨wr.heap.size, 0, none⟩ = some (.int .i64 q.A) ∧ w'.cell? ⟨wr.heap.size, 1, none⟩ = some (.int .i64 q.B))) w4 := (by (try dsimp only); (first | (go_keep; done) | (go_split_ands; (repeat' apply And.intro) <;> first | (go_keep; done) | (simp [*, zcA, zcP, zfA, zfP]; done) | (simp [zcA, zcP] <;> rfl) | (simp [*, zsS, zsO, zsA]; done) | ((first | refine (hc _ _ ?_).trans ?_ | refine (hf _ _ ?_).trans ?_) <;> first | assumption | (simp; done) | (simp; omega) | omega | (go_keep; done) | (simp [*, zcA, zcP, zfA, zfP]; done) | (simp [zcA, zcP]; rfl)) | (repeat' first | exact zbR _ _ | assumption | refine zbD ?_ | refine zbA ?_ ?_ _ | refine zbS ?_ ?_ _ | refine zbT ?_ (by assumption) ?_ | (simp; done) | (simp; omega) | omega)))); (try dsimp only at hSn); (try clear hS); have hS := hSn; clear hSn hc hf) | (go_at_call 56; refine (orders_any (M.ofSet f won) q _ HVS.out HQF.out).mono ?_; rintro e w5 ⟨rfl, hb⟩; obtain ⟨hc, hf⟩ := bcell hb; have hz := hb.size; (try simp at hz); have hSn : ((fun w' => Below w.heap.size w w' ∧ w.heap.size < w'.heap.size ∧ w2a.heap.size + 1 < w'.heap.size ∧ w'.cell? ⟨w2a.heap.size + 1, 0, none⟩ = some (.int .i64 won.A) ∧ w'.cell? ⟨w2a.heap.size + 1, 1, none⟩ = some (.int .i64 won.B) ∧ w'.frozen? ⟨w2a.heap.size + 1, 0, none⟩ = false ∧ w'.frozen? ⟨w2a.heap.size + 1, 1, none⟩ = false ∧ w'.cell? ⟨w.heap.size, 0, none⟩ = some (.int .i64 f.sets) ∧ w'.cell? ⟨w.heap.size, 1, none⟩ = some (.int .i64 f.games) ∧ w'.cell? ⟨w.heap.size, 2, none⟩ = some (.bool f.noAd) ∧ w'.cell? ⟨w.heap.size, 3, none⟩ = some (.int .i64 f.tie) ∧ w'.cell? ⟨w.heap.size, 4, none⟩ = some (.int .i64 f.to) ∧ w'.cell? ⟨w.heap.size, 5, none⟩ = some (.int .i64 f.lastTie) ∧ w'.cell? ⟨w.heap.size, 6, none⟩ = some (.int .i64 f.lastTo) ∧ w'.cell? ⟨w.heap.size, 7, none⟩ = some (.int .i64 f.first) ∧ w'.cell? ⟨w.heap.size, 8, none⟩ = some (.int .i64 f.next) ∧ w'.cell? ⟨w.heap.size, 9, none⟩ = some (.bool f.doubles) ∧ wr.heap.size < w'.heap.size ∧ w'.cell? ⟨wr.heap.size, 0, none⟩ = some (.int .i64 q.A) ∧ w'.cell? ⟨wr.heap.size, 1, none⟩ = some (.int .i64 q.B) ∧ w4.heap.size < w'.heap.size ∧ w'.cell? ⟨w4.heap.size, 0, none⟩ = some (.int .i64 (M.ofSet f won).sets) ∧ w'.cell? ⟨w4.heap.size, 1, none⟩ = some (.int .i64 (M.ofSet f won).games) ∧ w'.cell? ⟨w4.heap.size, 2, none⟩ = some (.bool (M.ofSet f won).noAd) ∧ w'.cell? ⟨w4.heap.size, 3, none⟩ = some (.int .i64 (M.ofSet f won).tie) ∧ w'.cell? ⟨w4.heap.size, 4, none⟩ = some (.int .i64 (M.ofSet f won).to) ∧ w'.cell? ⟨w4.heap.size, 5, none⟩ = some (.int .i64 (M.ofSet f won).lastTie) ∧ w'.cell? ⟨w4.heap.size, 6, none⟩ = some (.int .i64 (M.ofSet f won).lastTo) ∧ w'.cell? ⟨w4.heap.size, 7, none⟩ = some (.int .i64 (M.ofSet f won).first) ∧ w'.cell? ⟨w4.heap.size, 8, none⟩ = some (.int .i64 (M.ofSet f won).next) ∧ w'.cell? ⟨w4.heap.size, 9, none⟩ = some (.bool (M.ofSet f won).doubles))) w5 := (by (try dsimp only); (first | (go_keep; done) | (go_split_ands; (repeat' apply And.intro) <;> first | (go_keep; done) | (simp [*, zcA, zcP, zfA, zfP]; done) | (simp [zcA, zcP] <;> rfl) | (simp [*, zsS, zsO, zsA]; done) | ((first | refine (hc _ _ ?_).trans ?_ | refine (hf _ _ ?_).trans ?_) <;> first | assumption | (simp; done) | (simp; omega) | omega | (go_keep; done) | (simp [*, zcA, zcP, zfA, zfP]; done) | (simp [zcA, zcP]; rfl)) | (repeat' first | exact zbR _ _ | assumption | refine zbD ?_ | refine zbA ?_ ?_ _ | refine zbS ?_ ?_ _ | refine zbT ?_ (by assumption) ?_ | (simp; done) | (simp; omega) | omega)))); (try dsimp only at hSn); (try clear hS); have hS := hSn; clear hSn hc hf))
          refine wp_region_held_drew (S := (fun w' => Below w.heap.size w w' ∧ w.heap.size < w'.heap.size ∧ w2a.heap.size + 1 < w'.heap.size ∧ w'.frozen? ⟨w2a.heap.size + 1, 0, none⟩ = false ∧ w'.frozen? ⟨w2a.heap.size + 1, 1, none⟩ = false ∧ w'.cell? ⟨w.heap.size, 0, none⟩ = some (.int .i64 f.sets) ∧ w'.cell? ⟨w.heap.size, 1, none⟩ = some (.int .i64 f.games) ∧ w'.cell? ⟨w.heap.size, 2, none⟩ = some (.bool f.noAd) ∧ w'.cell? ⟨w.heap.size, 3, none⟩ = some (.int .i64 f.tie) ∧ w'.cell? ⟨w.heap.size, 4, none⟩ = some (.int .i64 f.to) ∧ w'.cell? ⟨w.heap.size, 5, none⟩ = some (.int .i64 f.lastTie) ∧ w'.cell? ⟨w.heap.size, 6, none⟩ = some (.int .i64 f.lastTo) ∧ w'.cell? ⟨w.heap.size, 7, none⟩ = some (.int .i64 f.first) ∧ w'.cell? ⟨w.heap.size, 8, none⟩ = some (.int .i64 f.next) ∧ w'.cell? ⟨w.heap.size, 9, none⟩ = some (.bool f.doubles) ∧ wr.heap.size < w'.heap.size ∧ w'.cell? ⟨wr.heap.size, 0, none⟩ = some (.int .i64 q.A) ∧ w'.cell? ⟨wr.heap.size, 1, none⟩ = some (.int .i64 q.B) ∧ w4.heap.size < w'.heap.size ∧ w'.cell? ⟨w4.heap.size, 0, none⟩ = some (.int .i64 (M.ofSet f won).sets) ∧ w'.cell? ⟨w4.heap.size, 1, none⟩ = some (.int .i64 (M.ofSet f won).games) ∧ w'.cell? ⟨w4.heap.size, 2, none⟩ = some (.bool (M.ofSet f won).noAd) ∧ w'.cell? ⟨w4.heap.size, 3, none⟩ = some (.int .i64 (M.ofSet f won).tie) ∧ w'.cell? ⟨w4.heap.size, 4, none⟩ = some (.int .i64 (M.ofSet f won).to) ∧ w'.cell? ⟨w4.heap.size, 5, none⟩ = some (.int .i64 (M.ofSet f won).lastTie) ∧ w'.cell? ⟨w4.heap.size, 6, none⟩ = some (.int .i64 (M.ofSet f won).lastTo) ∧ w'.cell? ⟨w4.heap.size, 7, none⟩ = some (.int .i64 (M.ofSet f won).first) ∧ w'.cell? ⟨w4.heap.size, 8, none⟩ = some (.int .i64 (M.ofSet f won).next) ∧ w'.cell? ⟨w4.heap.size, 9, none⟩ = some (.bool (M.ofSet f won).doubles))) (by kernel_rfl) ?_ (fun hD0 => ?_)
          · (try dsimp only); (first | (go_keep; done) | (go_split_ands; (repeat' apply And.intro) <;> first | (go_keep; done) | (simp [*, zcA, zcP, zfA, zfP]; done) | (simp [zcA, zcP] <;> rfl) | (simp [*, zsS, zsO, zsA]; done) | ((first | refine (hc _ _ ?_).trans ?_ | refine (hf _ _ ?_).trans ?_) <;> first | assumption | (simp; done) | (simp; omega) | omega | (go_keep; done) | (simp [*, zcA, zcP, zfA, zfP]; done) | (simp [zcA, zcP]; rfl)) | (repeat' first | exact zbR _ _ | assumption | refine zbD ?_ | refine zbA ?_ ?_ _ | refine zbS ?_ ?_ _ | refine zbT ?_ (by assumption) ?_ | (simp; done) | (simp; omega) | omega)))
          refine tW ?_ 1 rfl (by kernel_rfl) (fun _ _ _ h => h) (by rfl) (by assumption) ?_ ?_; rotate_left; (focus (intro w hSw; (try dsimp only at hSw); go_simp; try with_reducible rfl)); try simp only [Act.put, zl, z0, z1]
          refine tW ?_ 2 rfl (by kernel_rfl) (fun _ _ _ h => h) (by rfl) (by assumption) ?_ ?_; rotate_left; (focus (intro w hSw; (try dsimp only at hSw); go_simp; try with_reducible rfl)); try simp only [Act.put, zl, z0, z1]
          refine wpAnyH_ready (rs := [0, 3]) (by kernel_rfl) (by simp) ?_; refine consL 0 rfl (fun K hK => ?_) ?_; go_simp
          refine hK.out _ _ ?_ (fun hD1 => ?_)
          · (try dsimp only); (first | (go_keep; done) | (go_split_ands; (repeat' apply And.intro) <;> first | (go_keep; done) | (simp [*, zcA, zcP, zfA, zfP]; done) | (simp [zcA, zcP] <;> rfl) | (simp [*, zsS, zsO, zsA]; done) | ((first | refine (hc _ _ ?_).trans ?_ | refine (hf _ _ ?_).trans ?_) <;> first | assumption | (simp; done) | (simp; omega) | omega | (go_keep; done) | (simp [*, zcA, zcP, zfA, zfP]; done) | (simp [zcA, zcP]; rfl)) | (repeat' first | exact zbR _ _ | assumption | refine zbD ?_ | refine zbA ?_ ?_ _ | refine zbS ?_ ?_ _ | refine zbT ?_ (by assumption) ?_ | (simp; done) | (simp; omega) | omega)))
          clear hK K hD0; try simp only [Act.put, zl, z0, z1]
          refine wpAnyH_ready (rs := [3]) (by kernel_rfl) (by simp) ?_; refine consL 3 rfl (fun K hK => ?_) AllReadyH.nil; go_simp
          (go_at_call 58; refine (setWinner_any (M.ofSet f won) q _ HQS.out HQ0.out HQ1.out).mono ?_; rintro e w' ⟨rfl, hb⟩; obtain ⟨hc, hf⟩ := bcell hb; have hz := hb.size; (try simp at hz); have hX : (fun w' => w'.cell? ⟨w2a.heap.size + 1, 0, none⟩ = some (.int .i64 won.A) ∧ w'.cell? ⟨w2a.heap.size + 1, 1, none⟩ = some (.int .i64 won.B)) w' := (by (try dsimp only); (first | (go_keep; done) | (go_split_ands; (repeat' apply And.intro) <;> first | (go_keep; done) | (simp [*, zcA, zcP, zfA, zfP]; done) | (simp [zcA, zcP] <;> rfl) | (simp [*, zsS, zsO, zsA]; done) | ((first | refine (hc _ _ ?_).trans ?_ | refine (hf _ _ ?_).trans ?_) <;> first | assumption | (simp; done) | (simp; omega) | omega | (go_keep; done) | (simp [*, zcA, zcP, zfA, zfP]; done) | (simp [zcA, zcP]; rfl)) | (repeat' first | exact zbR _ _ | assumption | refine zbD ?_ | refine zbA ?_ ?_ _ | refine zbS ?_ ?_ _ | refine zbT ?_ (by assumption) ?_ | (simp; done) | (simp; omega) | omega)))); (try dsimp only at hX))
          refine hK.out _ _ ?_ (fun hD2 => ?_)
          · (try dsimp only); (first | (go_keep; done) | (go_split_ands; (repeat' apply And.intro) <;> first | (go_keep; done) | (simp [*, zcA, zcP, zfA, zfP]; done) | (simp [zcA, zcP] <;> rfl) | (simp [*, zsS, zsO, zsA]; done) | ((first | refine (hc _ _ ?_).trans ?_ | refine (hf _ _ ?_).trans ?_) <;> first | assumption | (simp; done) | (simp; omega) | omega | (go_keep; done) | (simp [*, zcA, zcP, zfA, zfP]; done) | (simp [zcA, zcP]; rfl)) | (repeat' first | exact zbR _ _ | assumption | refine zbD ?_ | refine zbA ?_ ?_ _ | refine zbS ?_ ?_ _ | refine zbT ?_ (by assumption) ?_ | (simp; done) | (simp; omega) | omega)))
          clear hK K hD1; try simp only [Act.put, zl, z0, z1]
          refine wpAnyH_ready (rs := [4]) (by kernel_rfl) (by simp) ?_; refine consL 4 rfl (fun K hK => ?_) AllReadyH.nil; go_simp
          (go_at_call 57; refine (plus_any won _ _ HWS.out).mono ?_; rintro e w' ⟨rfl, hb⟩; obtain ⟨hc, hf⟩ := bcell hb; have hz := hb.size; (try simp at hz); have hX : (fun w' => w'.cell? ⟨w2a.heap.size + 1, 0, none⟩ = some (.int .i64 won.A) ∧ w'.cell? ⟨w2a.heap.size + 1, 1, none⟩ = some (.int .i64 won.B)) w' := (by (try dsimp only); (first | (go_keep; done) | (go_split_ands; (repeat' apply And.intro) <;> first | (go_keep; done) | (simp [*, zcA, zcP, zfA, zfP]; done) | (simp [zcA, zcP] <;> rfl) | (simp [*, zsS, zsO, zsA]; done) | ((first | refine (hc _ _ ?_).trans ?_ | refine (hf _ _ ?_).trans ?_) <;> first | assumption | (simp; done) | (simp; omega) | omega | (go_keep; done) | (simp [*, zcA, zcP, zfA, zfP]; done) | (simp [zcA, zcP]; rfl)) | (repeat' first | exact zbR _ _ | assumption | refine zbD ?_ | refine zbA ?_ ?_ _ | refine zbS ?_ ?_ _ | refine zbT ?_ (by assumption) ?_ | (simp; done) | (simp; omega) | omega)))); (try dsimp only at hX))
          refine hK.out _ _ ?_ (fun hD3 => ?_)
          · (try dsimp only); (first | (go_keep; done) | (go_split_ands; (repeat' apply And.intro) <;> first | (go_keep; done) | (simp [*, zcA, zcP, zfA, zfP]; done) | (simp [zcA, zcP] <;> rfl) | (simp [*, zsS, zsO, zsA]; done) | ((first | refine (hc _ _ ?_).trans ?_ | refine (hf _ _ ?_).trans ?_) <;> first | assumption | (simp; done) | (simp; omega) | omega | (go_keep; done) | (simp [*, zcA, zcP, zfA, zfP]; done) | (simp [zcA, zcP]; rfl)) | (repeat' first | exact zbR _ _ | assumption | refine zbD ?_ | refine zbA ?_ ?_ _ | refine zbS ?_ ?_ _ | refine zbT ?_ (by assumption) ?_ | (simp; done) | (simp; omega) | omega)))
          clear hK K hD2; try simp only [Act.put, zl, z0, z1]
          refine wpAnyH_ready (rs := [5]) (by kernel_rfl) (by simp) ?_; refine consL 5 rfl (fun K hK => ?_) AllReadyH.nil; go_simp
          refine hK.out _ _ ?_ (fun hD4 => ?_)
          · (try dsimp only); (first | (go_keep; done) | (go_split_ands; (repeat' apply And.intro) <;> first | (go_keep; done) | (simp [*, zcA, zcP, zfA, zfP]; done) | (simp [zcA, zcP] <;> rfl) | (simp [*, zsS, zsO, zsA]; done) | ((first | refine (hc _ _ ?_).trans ?_ | refine (hf _ _ ?_).trans ?_) <;> first | assumption | (simp; done) | (simp; omega) | omega | (go_keep; done) | (simp [*, zcA, zcP, zfA, zfP]; done) | (simp [zcA, zcP]; rfl)) | (repeat' first | exact zbR _ _ | assumption | refine zbD ?_ | refine zbA ?_ ?_ _ | refine zbS ?_ ?_ _ | refine zbT ?_ (by assumption) ?_ | (simp; done) | (simp; omega) | omega)))
          clear hK K hD3; try simp only [Act.put, zl, z0, z1]
          refine wpAnyH_done (by kernel_rfl) ?_ _
          rotate_left 1
          refine consL 3 rfl (fun K hK => ?_) AllReadyH.nil
          go_simp
          (go_at_call 58; refine (setWinner_any (M.ofSet f won) q _ HQS.out HQ0.out HQ1.out).mono ?_; rintro e w' ⟨rfl, hb⟩; obtain ⟨hc, hf⟩ := bcell hb; have hz := hb.size; (try simp at hz); have hX : (fun w' => w'.cell? ⟨w2a.heap.size + 1, 0, none⟩ = some (.int .i64 won.A) ∧ w'.cell? ⟨w2a.heap.size + 1, 1, none⟩ = some (.int .i64 won.B)) w' := (by (try dsimp only); (first | (go_keep; done) | (go_split_ands; (repeat' apply And.intro) <;> first | (go_keep; done) | (simp [*, zcA, zcP, zfA, zfP]; done) | (simp [zcA, zcP] <;> rfl) | (simp [*, zsS, zsO, zsA]; done) | ((first | refine (hc _ _ ?_).trans ?_ | refine (hf _ _ ?_).trans ?_) <;> first | assumption | (simp; done) | (simp; omega) | omega | (go_keep; done) | (simp [*, zcA, zcP, zfA, zfP]; done) | (simp [zcA, zcP]; rfl)) | (repeat' first | exact zbR _ _ | assumption | refine zbD ?_ | refine zbA ?_ ?_ _ | refine zbS ?_ ?_ _ | refine zbT ?_ (by assumption) ?_ | (simp; done) | (simp; omega) | omega)))); (try dsimp only at hX))
          refine hK.out _ _ ?_ (fun hD1 => ?_)
          · (try dsimp only); (first | (go_keep; done) | (go_split_ands; (repeat' apply And.intro) <;> first | (go_keep; done) | (simp [*, zcA, zcP, zfA, zfP]; done) | (simp [zcA, zcP] <;> rfl) | (simp [*, zsS, zsO, zsA]; done) | ((first | refine (hc _ _ ?_).trans ?_ | refine (hf _ _ ?_).trans ?_) <;> first | assumption | (simp; done) | (simp; omega) | omega | (go_keep; done) | (simp [*, zcA, zcP, zfA, zfP]; done) | (simp [zcA, zcP]; rfl)) | (repeat' first | exact zbR _ _ | assumption | refine zbD ?_ | refine zbA ?_ ?_ _ | refine zbS ?_ ?_ _ | refine zbT ?_ (by assumption) ?_ | (simp; done) | (simp; omega) | omega)))
          clear hK K hD0; try simp only [Act.put, zl, z0, z1]
          refine wpAnyH_ready (rs := [0]) (by kernel_rfl) (by simp) ?_; refine consL 0 rfl (fun K hK => ?_) AllReadyH.nil; go_simp
          refine hK.out _ _ ?_ (fun hD2 => ?_)
          · (try dsimp only); (first | (go_keep; done) | (go_split_ands; (repeat' apply And.intro) <;> first | (go_keep; done) | (simp [*, zcA, zcP, zfA, zfP]; done) | (simp [zcA, zcP] <;> rfl) | (simp [*, zsS, zsO, zsA]; done) | ((first | refine (hc _ _ ?_).trans ?_ | refine (hf _ _ ?_).trans ?_) <;> first | assumption | (simp; done) | (simp; omega) | omega | (go_keep; done) | (simp [*, zcA, zcP, zfA, zfP]; done) | (simp [zcA, zcP]; rfl)) | (repeat' first | exact zbR _ _ | assumption | refine zbD ?_ | refine zbA ?_ ?_ _ | refine zbS ?_ ?_ _ | refine zbT ?_ (by assumption) ?_ | (simp; done) | (simp; omega) | omega)))
          clear hK K hD1; try simp only [Act.put, zl, z0, z1]
          refine wpAnyH_ready (rs := [4]) (by kernel_rfl) (by simp) ?_; refine consL 4 rfl (fun K hK => ?_) AllReadyH.nil; go_simp
          (go_at_call 57; refine (plus_any won _ _ HWS.out).mono ?_; rintro e w' ⟨rfl, hb⟩; obtain ⟨hc, hf⟩ := bcell hb; have hz := hb.size; (try simp at hz); have hX : (fun w' => w'.cell? ⟨w2a.heap.size + 1, 0, none⟩ = some (.int .i64 won.A) ∧ w'.cell? ⟨w2a.heap.size + 1, 1, none⟩ = some (.int .i64 won.B)) w' := (by (try dsimp only); (first | (go_keep; done) | (go_split_ands; (repeat' apply And.intro) <;> first | (go_keep; done) | (simp [*, zcA, zcP, zfA, zfP]; done) | (simp [zcA, zcP] <;> rfl) | (simp [*, zsS, zsO, zsA]; done) | ((first | refine (hc _ _ ?_).trans ?_ | refine (hf _ _ ?_).trans ?_) <;> first | assumption | (simp; done) | (simp; omega) | omega | (go_keep; done) | (simp [*, zcA, zcP, zfA, zfP]; done) | (simp [zcA, zcP]; rfl)) | (repeat' first | exact zbR _ _ | assumption | refine zbD ?_ | refine zbA ?_ ?_ _ | refine zbS ?_ ?_ _ | refine zbT ?_ (by assumption) ?_ | (simp; done) | (simp; omega) | omega)))); (try dsimp only at hX))
          refine hK.out _ _ ?_ (fun hD3 => ?_)
          · (try dsimp only); (first | (go_keep; done) | (go_split_ands; (repeat' apply And.intro) <;> first | (go_keep; done) | (simp [*, zcA, zcP, zfA, zfP]; done) | (simp [zcA, zcP] <;> rfl) | (simp [*, zsS, zsO, zsA]; done) | ((first | refine (hc _ _ ?_).trans ?_ | refine (hf _ _ ?_).trans ?_) <;> first | assumption | (simp; done) | (simp; omega) | omega | (go_keep; done) | (simp [*, zcA, zcP, zfA, zfP]; done) | (simp [zcA, zcP]; rfl)) | (repeat' first | exact zbR _ _ | assumption | refine zbD ?_ | refine zbA ?_ ?_ _ | refine zbS ?_ ?_ _ | refine zbT ?_ (by assumption) ?_ | (simp; done) | (simp; omega) | omega)))
          clear hK K hD2; try simp only [Act.put, zl, z0, z1]
          refine wpAnyH_ready (rs := [5]) (by kernel_rfl) (by simp) ?_; refine consL 5 rfl (fun K hK => ?_) AllReadyH.nil; go_simp
          refine hK.out _ _ ?_ (fun hD4 => ?_)
          · (try dsimp only); (first | (go_keep; done) | (go_split_ands; (repeat' apply And.intro) <;> first | (go_keep; done) | (simp [*, zcA, zcP, zfA, zfP]; done) | (simp [zcA, zcP] <;> rfl) | (simp [*, zsS, zsO, zsA]; done) | ((first | refine (hc _ _ ?_).trans ?_ | refine (hf _ _ ?_).trans ?_) <;> first | assumption | (simp; done) | (simp; omega) | omega | (go_keep; done) | (simp [*, zcA, zcP, zfA, zfP]; done) | (simp [zcA, zcP]; rfl)) | (repeat' first | exact zbR _ _ | assumption | refine zbD ?_ | refine zbA ?_ ?_ _ | refine zbS ?_ ?_ _ | refine zbT ?_ (by assumption) ?_ | (simp; done) | (simp; omega) | omega)))
          clear hK K hD3; try simp only [Act.put, zl, z0, z1]
          refine wpAnyH_done (by kernel_rfl) ?_ _
          all_goals
            go_wp2
            go_roundw
            case rel => exact ⟨k + 1, by omega, by go_num, u * M.orders (M.ofSet f won) q, by rw [H2.out], _, HP2.out, HL2.out, HON, hide (by rw [HNX.out]; exact HWR.out.symm), hPS, by (first | (go_keep; done) | (go_split_ands; (repeat' apply And.intro) <;> first | (go_keep; done) | (simp [*, zcA, zcP, zfA, zfP]; done) | (simp [zcA, zcP] <;> rfl) | (simp [*, zsS, zsO, zsA]; done) | ((first | refine (hc _ _ ?_).trans ?_ | refine (hf _ _ ?_).trans ?_) <;> first | assumption | (simp; done) | (simp; omega) | omega | (go_keep; done) | (simp [*, zcA, zcP, zfA, zfP]; done) | (simp [zcA, zcP]; rfl)) | (repeat' first | exact zbR _ _ | assumption | refine zbD ?_ | refine zbA ?_ ?_ _ | refine zbS ?_ ?_ _ | refine zbT ?_ (by assumption) ?_ | (simp; done) | (simp; omega) | omega)))⟩
            case measure => simp [intOf]; omega
      · have hkn : k = n := by omega
        have hsome : M.waysB f M.zero 1 ps = some u := by
          rw [hwa.out, List.drop_of_length_le (by have := HN.out; omega)]; rfl
        have HO := hide hsome
        clear hsome
        subst hkn
        go_wp2
        go_ret2
        exact ⟨by rw [HVV.out, HEE.out, HO.out]; rfl, by (go_split_ands; (repeat' first | exact zbR _ _ | assumption | refine zbD ?_ | refine zbA ?_ ?_ _ | refine zbS ?_ ?_ _ | refine zbT ?_ (by assumption) ?_ | (simp; done) | (simp; omega) | omega))⟩
  · have h0 : M.swE f ps M.zero M.zero ≠ 0 := by simpa using hsw
    have he : M.waysE f ps = M.swE f ps M.zero M.zero := if_pos h0
    have hvv : M.waysV f ps = 0 := if_pos h0
    rw [he, hvv]; clear he hvv h0
    go_enter Try.func32, Try.ntmps32
    go_wp2_with (first | (go_at_call 45; refine (setsWon_any f A n c ps M.zero M.zero _ HN.out ((HR.out.below (by (repeat' first | exact zbR _ _ | assumption | refine zbD ?_ | refine zbA ?_ ?_ _ | refine zbS ?_ ?_ _ | refine zbT ?_ (by assumption) ?_ | (simp; done) | (simp; omega) | omega))).mono (by first | (simp; done) | (simp; omega))) hm).mono ?_; rintro e w2a ⟨rfl, hb⟩; obtain ⟨hc, hf⟩ := bcell hb; have hz := hb.size; (try simp at hz); have hSn : ((fun w' => Below w.heap.size w w' ∧ w.heap.size < w'.heap.size ∧ w'.cell? ⟨w.heap.size, 0, none⟩ = some (.int .i64 f.sets) ∧ w'.cell? ⟨w.heap.size, 1, none⟩ = some (.int .i64 f.games) ∧ w'.cell? ⟨w.heap.size, 2, none⟩ = some (.bool f.noAd) ∧ w'.cell? ⟨w.heap.size, 3, none⟩ = some (.int .i64 f.tie) ∧ w'.cell? ⟨w.heap.size, 4, none⟩ = some (.int .i64 f.to) ∧ w'.cell? ⟨w.heap.size, 5, none⟩ = some (.int .i64 f.lastTie) ∧ w'.cell? ⟨w.heap.size, 6, none⟩ = some (.int .i64 f.lastTo) ∧ w'.cell? ⟨w.heap.size, 7, none⟩ = some (.int .i64 f.first) ∧ w'.cell? ⟨w.heap.size, 8, none⟩ = some (.int .i64 f.next) ∧ w'.cell? ⟨w.heap.size, 9, none⟩ = some (.bool f.doubles))) w2a := (by (try dsimp only); (first | (go_keep; done) | (go_split_ands; (repeat' apply And.intro) <;> first | (go_keep; done) | (simp [*, zcA, zcP, zfA, zfP]; done) | (simp [zcA, zcP] <;> rfl) | (simp [*, zsS, zsO, zsA]; done) | ((first | refine (hc _ _ ?_).trans ?_ | refine (hf _ _ ?_).trans ?_) <;> first | assumption | (simp; done) | (simp; omega) | omega | (go_keep; done) | (simp [*, zcA, zcP, zfA, zfP]; done) | (simp [zcA, zcP]; rfl)) | (repeat' first | exact zbR _ _ | assumption | refine zbD ?_ | refine zbA ?_ ?_ _ | refine zbS ?_ ?_ _ | refine zbT ?_ (by assumption) ?_ | (simp; done) | (simp; omega) | omega)))); (try dsimp only at hSn); (try clear hS); have hS := hSn; clear hSn hc hf))
    go_ret2
    exact ⟨rfl, by (go_split_ands; (repeat' first | exact zbR _ _ | assumption | refine zbD ?_ | refine zbA ?_ ?_ _ | refine zbS ?_ ?_ _ | refine zbT ?_ (by assumption) ?_ | (simp; done) | (simp; omega) | omega))⟩

end Go.Proofs.Ytoaogpipogeamaa

namespace Go.Proofs.Ytoaogpipogeamaa
open Go.RowKit
attribute [local go_sem ↓] Go.wp_at_zero Go.wp_at_succ

set_option maxHeartbeats 8000000 in
theorem lfp_any (f : M.Fm) (s : Int) (v : Value) (won g p : M.Pr) (w : World) (hv : M.Valid f) (hs0 : 0 ≤ s) (hs1 : s ≤ 1) (hw0 : 0 ≤ won.A ∧ 0 ≤ won.B) (hw1 : won.A < f.sets ∧ won.B < f.sets)
    (hg : 0 ≤ g.A ∧ g.A ≤ 40 ∧ 0 ≤ g.B ∧ g.B ≤ 40) (hp : 0 ≤ p.A ∧ p.A ≤ 40 ∧ 0 ≤ p.B ∧ p.B ≤ 40) (A : Option Addr) (m c : Nat) (hsv : v = .slice A m c) :
    Calls Try.prog 47 #[.agg #[.int .i64 f.sets, .int .i64 f.games, .bool f.noAd, .int .i64 f.tie, .int .i64 f.to, .int .i64 f.lastTie, .int .i64 f.lastTo, .int .i64 f.first, .int .i64 f.next, .bool f.doubles], .agg #[.int .i64 won.A, .int .i64 won.B], .agg #[v, .int .i64 g.A, .int .i64 g.B, .int .i64 p.A, .int .i64 p.B], .int .i64 s] w fun e w' => e = .returned (.int .i64 (M.lfp f s 6 won g p)) ∧ Below w.heap.size w w' := by
  subst hsv
  have HV := hide hv
  have HW0 := hide hw0
  have HW1 := hide hw1
  have HGB := hide hg
  have HPB := hide hp
  have v0 := hv.s0
  have v1 := hv.s1
  have HWS : Hid (M.Small won) := hide ⟨by omega, by omega, by omega, by omega⟩
  have HGS : Hid (M.Small g) := hide ⟨by omega, by omega, by omega, by omega⟩
  have HGS9 : Hid (g.A ≤ 999999 ∧ g.B ≤ 999999) := hide (by omega)
  have HPP : Hid (M.Small p) := hide ⟨by omega, by omega, by omega, by omega⟩
  have HVS := hide (hv.ofSet won)
  obtain ⟨cost, hcost⟩ : ∃ cost : Nat → Int, cost = fun t : Nat => M.pointsOfGame (M.ofSet f won) (M.isTie (M.ofSet f won) g) p t + (if M.endsSet (M.ofSet f won) g t then M.lfg f s 6 (M.plus won t) M.zero else M.lfg f s 6 won (M.plus g t)) := ⟨_, rfl⟩
  have ho : M.lfp f s 6 won g p = M.bestOf cost 2 := by rw [hcost]; rfl
  have HO := hide ho
  have HC : Hid (∀ t : Nat, cost t = M.pointsOfGame (M.ofSet f won) (M.isTie (M.ofSet f won) g) p t + (if M.endsSet (M.ofSet f won) g t then M.lfg f s 6 (M.plus won t) M.zero else M.lfg f s 6 won (M.plus g t))) := hide (fun t => by rw [hcost])
  have hl := lfg_any f s hv hs0 hs1 6
  have IH0 : ∀ t : Nat, t < 2 → ∀ w', Hid _ := fun t ht w' => hide (hl (M.plus won t) M.zero w' (by decide) (by decide) (by unfold M.plus; split <;> (dsimp; omega)) (by unfold M.plus; split <;> (dsimp; omega)) (by unfold M.plus; split <;> (dsimp; omega)) (by unfold M.plus; split <;> (dsimp; omega)))
  have IH1 : ∀ t : Nat, t < 2 → ∀ w', Hid _ := fun t ht w' => hide (hl won (M.plus g t) w' (by unfold M.plus; split <;> (dsimp; omega)) (by unfold M.plus; split <;> (dsimp; omega)) hw0 (by omega) (by omega) (by omega))
  have J0 := hide IH0
  have J1 := hide IH1
  clear ho hcost hv hw0 hw1 hg hp hl IH0 IH1
  go_enter Try.func47, Try.ntmps47
  go_wp2_with (first | (go_at_call 55; refine (ofSet_any f won _ (by omega) (by omega)).mono ?_; rintro e w1 ⟨rfl, hb⟩; obtain ⟨hc, hf⟩ := bcell hb; have hz := hb.size; (try simp at hz); have hSn : ((fun w' => Below w.heap.size w w' ∧ w.heap.size < w'.heap.size ∧ w.heap.size + 1 < w'.heap.size ∧ w.heap.size + 1 + 1 < w'.heap.size ∧ w'.cell? ⟨w.heap.size + 1, 0, none⟩ = some (.int .i64 won.A) ∧ w'.cell? ⟨w.heap.size + 1, 1, none⟩ = some (.int .i64 won.B) ∧ w'.cell? ⟨w.heap.size + 1 + 1, 1, none⟩ = some (.int .i64 g.A) ∧ w'.cell? ⟨w.heap.size + 1 + 1, 2, none⟩ = some (.int .i64 g.B) ∧ w'.cell? ⟨w.heap.size + 1 + 1, 3, none⟩ = some (.int .i64 p.A) ∧ w'.cell? ⟨w.heap.size + 1 + 1, 4, none⟩ = some (.int .i64 p.B) ∧ w'.cell? ⟨w.heap.size, 0, none⟩ = some (.int .i64 f.sets) ∧ w'.cell? ⟨w.heap.size, 1, none⟩ = some (.int .i64 f.games) ∧ w'.cell? ⟨w.heap.size, 2, none⟩ = some (.bool f.noAd) ∧ w'.cell? ⟨w.heap.size, 3, none⟩ = some (.int .i64 f.tie) ∧ w'.cell? ⟨w.heap.size, 4, none⟩ = some (.int .i64 f.to) ∧ w'.cell? ⟨w.heap.size, 5, none⟩ = some (.int .i64 f.lastTie) ∧ w'.cell? ⟨w.heap.size, 6, none⟩ = some (.int .i64 f.lastTo) ∧ w'.cell? ⟨w.heap.size, 7, none⟩ = some (.int .i64 f.first) ∧ w'.cell? ⟨w.heap.size, 8, none⟩ = some (.int .i64 f.next) ∧ w'.cell? ⟨w.heap.size, 9, none⟩ = some (.bool f.doubles))) w1 := (by (try dsimp only); (first | (go_keep; done) | (go_split_ands; (repeat' apply And.intro) <;> first | (go_keep; done) | (simp [*, zcA, zcP, zfA, zfP]; done) | (simp [zcA, zcP] <;> rfl) | (simp [*, zsS, zsO, zsA]; done) | ((first | refine (hc _ _ ?_).trans ?_ | refine (hf _ _ ?_).trans ?_) <;> first | assumption | (simp; done) | (simp; omega) | omega | (go_keep; done) | (simp [*, zcA, zcP, zfA, zfP]; done) | (simp [zcA, zcP]; rfl)) | (repeat' first | exact zbR _ _ | assumption | refine zbD ?_ | refine zbA ?_ ?_ _ | refine zbS ?_ ?_ _ | refine zbT ?_ (by assumption) ?_ | (simp; done) | (simp; omega) | omega)))); (try dsimp only at hSn); (try clear hS); have hS := hSn; clear hSn hc hf; obtain ⟨Sx, Sxd⟩ : ∃ Sx : World → Prop, Hid (Sx = (fun w' => Below w.heap.size w w' ∧ w.heap.size < w'.heap.size ∧ w.heap.size + 1 < w'.heap.size ∧ w.heap.size + 1 + 1 < w'.heap.size ∧ w'.cell? ⟨w.heap.size + 1, 0, none⟩ = some (.int .i64 won.A) ∧ w'.cell? ⟨w.heap.size + 1, 1, none⟩ = some (.int .i64 won.B) ∧ w'.cell? ⟨w.heap.size + 1 + 1, 1, none⟩ = some (.int .i64 g.A) ∧ w'.cell? ⟨w.heap.size + 1 + 1, 2, none⟩ = some (.int .i64 g.B) ∧ w'.cell? ⟨w.heap.size + 1 + 1, 3, none⟩ = some (.int .i64 p.A) ∧ w'.cell? ⟨w.heap.size + 1 + 1, 4, none⟩ = some (.int .i64 p.B) ∧ w'.cell? ⟨w.heap.size, 0, none⟩ = some (.int .i64 f.sets) ∧ w'.cell? ⟨w.heap.size, 1, none⟩ = some (.int .i64 f.games) ∧ w'.cell? ⟨w.heap.size, 2, none⟩ = some (.bool f.noAd) ∧ w'.cell? ⟨w.heap.size, 3, none⟩ = some (.int .i64 f.tie) ∧ w'.cell? ⟨w.heap.size, 4, none⟩ = some (.int .i64 f.to) ∧ w'.cell? ⟨w.heap.size, 5, none⟩ = some (.int .i64 f.lastTie) ∧ w'.cell? ⟨w.heap.size, 6, none⟩ = some (.int .i64 f.lastTo) ∧ w'.cell? ⟨w.heap.size, 7, none⟩ = some (.int .i64 f.first) ∧ w'.cell? ⟨w.heap.size, 8, none⟩ = some (.int .i64 f.next) ∧ w'.cell? ⟨w.heap.size, 9, none⟩ = some (.bool f.doubles) ∧ w'.cell? ⟨w1.heap.size, 0, none⟩ = some (.int .i64 (M.ofSet f won).sets) ∧ w'.cell? ⟨w1.heap.size, 1, none⟩ = some (.int .i64 (M.ofSet f won).games) ∧ w'.cell? ⟨w1.heap.size, 2, none⟩ = some (.bool (M.ofSet f won).noAd) ∧ w'.cell? ⟨w1.heap.size, 3, none⟩ = some (.int .i64 (M.ofSet f won).tie) ∧ w'.cell? ⟨w1.heap.size, 4, none⟩ = some (.int .i64 (M.ofSet f won).to) ∧ w'.cell? ⟨w1.heap.size, 5, none⟩ = some (.int .i64 (M.ofSet f won).lastTie) ∧ w'.cell? ⟨w1.heap.size, 6, none⟩ = some (.int .i64 (M.ofSet f won).lastTo) ∧ w'.cell? ⟨w1.heap.size, 7, none⟩ = some (.int .i64 (M.ofSet f won).first) ∧ w'.cell? ⟨w1.heap.size, 8, none⟩ = some (.int .i64 (M.ofSet f won).next) ∧ w'.cell? ⟨w1.heap.size, 9, none⟩ = some (.bool (M.ofSet f won).doubles) ∧ w1.heap.size < w'.heap.size)) := ⟨_, hide rfl⟩) | (go_at_call 69; refine (isTie_any (M.ofSet f won) g _).mono ?_; rintro e w2 ⟨rfl, hb⟩; obtain ⟨hc, hf⟩ := bcell hb; have hz := hb.size; (try simp at hz); have hSn : Sx w2 := (by rw [Sxd.out]; (try dsimp only); (first | (go_keep; done) | (go_split_ands; (repeat' apply And.intro) <;> first | (go_keep; done) | (simp [*, zcA, zcP, zfA, zfP]; done) | (simp [zcA, zcP] <;> rfl) | (simp [*, zsS, zsO, zsA]; done) | ((first | refine (hc _ _ ?_).trans ?_ | refine (hf _ _ ?_).trans ?_) <;> first | assumption | (simp; done) | (simp; omega) | omega | (go_keep; done) | (simp [*, zcA, zcP, zfA, zfP]; done) | (simp [zcA, zcP]; rfl)) | (repeat' first | exact zbR _ _ | assumption | refine zbD ?_ | refine zbA ?_ ?_ _ | refine zbS ?_ ?_ _ | refine zbT ?_ (by assumption) ?_ | (simp; done) | (simp; omega) | omega)))); rw [Sxd.out] at hSn; (try dsimp only at hSn); (try clear hS); have hS := hSn; clear hSn hc hf))
  go_loopw [11, 21] (fun bb i wr => ∃ k : Nat, k ≤ 2 ∧ i = .int .i64 k ∧ bb = .int .i64 (M.bestOf cost k) ∧ Below w.heap.size w wr ∧ w.heap.size < wr.heap.size ∧ w.heap.size + 1 < wr.heap.size ∧ w.heap.size + 1 + 1 < wr.heap.size ∧ wr.cell? ⟨w.heap.size + 1, 0, none⟩ = some (.int .i64 won.A) ∧ wr.cell? ⟨w.heap.size + 1, 1, none⟩ = some (.int .i64 won.B) ∧ wr.cell? ⟨w.heap.size + 1 + 1, 1, none⟩ = some (.int .i64 g.A) ∧ wr.cell? ⟨w.heap.size + 1 + 1, 2, none⟩ = some (.int .i64 g.B) ∧ wr.cell? ⟨w.heap.size + 1 + 1, 3, none⟩ = some (.int .i64 p.A) ∧ wr.cell? ⟨w.heap.size + 1 + 1, 4, none⟩ = some (.int .i64 p.B) ∧ wr.cell? ⟨w.heap.size, 0, none⟩ = some (.int .i64 f.sets) ∧ wr.cell? ⟨w.heap.size, 1, none⟩ = some (.int .i64 f.games) ∧ wr.cell? ⟨w.heap.size, 2, none⟩ = some (.bool f.noAd) ∧ wr.cell? ⟨w.heap.size, 3, none⟩ = some (.int .i64 f.tie) ∧ wr.cell? ⟨w.heap.size, 4, none⟩ = some (.int .i64 f.to) ∧ wr.cell? ⟨w.heap.size, 5, none⟩ = some (.int .i64 f.lastTie) ∧ wr.cell? ⟨w.heap.size, 6, none⟩ = some (.int .i64 f.lastTo) ∧ wr.cell? ⟨w.heap.size, 7, none⟩ = some (.int .i64 f.first) ∧ wr.cell? ⟨w.heap.size, 8, none⟩ = some (.int .i64 f.next) ∧ wr.cell? ⟨w.heap.size, 9, none⟩ = some (.bool f.doubles) ∧ wr.cell? ⟨w1.heap.size, 0, none⟩ = some (.int .i64 (M.ofSet f won).sets) ∧ wr.cell? ⟨w1.heap.size, 1, none⟩ = some (.int .i64 (M.ofSet f won).games) ∧ wr.cell? ⟨w1.heap.size, 2, none⟩ = some (.bool (M.ofSet f won).noAd) ∧ wr.cell? ⟨w1.heap.size, 3, none⟩ = some (.int .i64 (M.ofSet f won).tie) ∧ wr.cell? ⟨w1.heap.size, 4, none⟩ = some (.int .i64 (M.ofSet f won).to) ∧ wr.cell? ⟨w1.heap.size, 5, none⟩ = some (.int .i64 (M.ofSet f won).lastTie) ∧ wr.cell? ⟨w1.heap.size, 6, none⟩ = some (.int .i64 (M.ofSet f won).lastTo) ∧ wr.cell? ⟨w1.heap.size, 7, none⟩ = some (.int .i64 (M.ofSet f won).first) ∧ wr.cell? ⟨w1.heap.size, 8, none⟩ = some (.int .i64 (M.ofSet f won).next) ∧ wr.cell? ⟨w1.heap.size, 9, none⟩ = some (.bool (M.ofSet f won).doubles) ∧ w1.heap.size < wr.heap.size) (fun _ i _ => 2 - (intOf i).toNat)
  case atStart => exact ⟨0, by omega, rfl, rfl, by (first | (go_keep; done) | (go_split_ands; (repeat' apply And.intro) <;> first | (go_keep; done) | (simp [*, zcA, zcP, zfA, zfP]; done) | (simp [zcA, zcP] <;> rfl) | (simp [*, zsS, zsO, zsA]; done) | ((first | refine (hc _ _ ?_).trans ?_ | refine (hf _ _ ?_).trans ?_) <;> first | assumption | (simp; done) | (simp; omega) | omega | (go_keep; done) | (simp [*, zcA, zcP, zfA, zfP]; done) | (simp [zcA, zcP]; rfl)) | (repeat' first | exact zbR _ _ | assumption | refine zbD ?_ | refine zbA ?_ ?_ _ | refine zbS ?_ ?_ _ | refine zbT ?_ (by assumption) ?_ | (simp; done) | (simp; omega) | omega)))⟩
  case round =>
    obtain ⟨k, hk, rfl, rfl, hS0⟩ := hrel
    by_cases hlt : k < 2
    · have hp0 : 0 ≤ M.pointsOfGame (M.ofSet f won) (M.isTie (M.ofSet f won) g) p k + 1000 ∧ M.pointsOfGame (M.ofSet f won) (M.isTie (M.ofSet f won) g) p k ≤ 1000 := by
        have a := M.aimTo_lo HVS.out (M.isTie (M.ofSet f won) g)
        have b := M.aimTo_hi HVS.out (M.isTie (M.ofSet f won) g)
        have c := M.aimLead_lo (M.ofSet f won) (M.isTie (M.ofSet f won) g)
        have d := M.aimLead_hi (M.ofSet f won) (M.isTie (M.ofSet f won) g)
        have e : ∀ x, 0 ≤ M.of p x ∧ M.of p x ≤ 40 := fun x => by have := HPB.out; unfold M.of; split <;> omega
        have e1 := e k
        have e2 := e (1 - k)
        unfold M.pointsOfGame; omega
      obtain ⟨hp0, hp1⟩ := hp0
      cases hes : M.endsSet (M.ofSet f won) g k
      · have hl0 := M.lfg_ge HV.out s 6 won (M.plus g k)
        have hl1 := M.lfg_le f s 6 won (M.plus g k)
        have ew : IntKind.i64.wrap (M.pointsOfGame (M.ofSet f won) (M.isTie (M.ofSet f won) g) p k + M.lfg f s 6 won (M.plus g k)) = M.pointsOfGame (M.ofSet f won) (M.isTie (M.ofSet f won) g) p k + M.lfg f s 6 won (M.plus g k) := IntWalk.i64_in _ (by unfold M.never at hl1; omega)
        have hK : M.bestOf cost (k + 1) = M.mn (M.bestOf cost k) (M.pointsOfGame (M.ofSet f won) (M.isTie (M.ofSet f won) g) p k + M.lfg f s 6 won (M.plus g k)) := by
          have : cost k = M.pointsOfGame (M.ofSet f won) (M.isTie (M.ofSet f won) g) p k + M.lfg f s 6 won (M.plus g k) := by rw [HC.out k, hes]; rfl
          rw [← this]; rfl
        have HK := hide hK
        clear hK hl0 hl1
        have JJ := hide (J1.out k hlt)
        go_wp2_with (first | (go_at_call 73; refine (pointsOfGame_any (M.ofSet f won) (M.isTie (M.ofSet f won) g) p k _ HVS.out HPP.out (by omega) (by omega)).mono ?_; rintro e w3 ⟨rfl, hb⟩; obtain ⟨hc, hf⟩ := bcell hb; have hz := hb.size; (try simp at hz); have hSn : Sx w3 := (by rw [Sxd.out]; (try dsimp only); (first | (go_keep; done) | (go_split_ands; (repeat' apply And.intro) <;> first | (go_keep; done) | (simp [*, zcA, zcP, zfA, zfP]; done) | (simp [zcA, zcP] <;> rfl) | (simp [*, zsS, zsO, zsA]; done) | ((first | refine (hc _ _ ?_).trans ?_ | refine (hf _ _ ?_).trans ?_) <;> first | assumption | (simp; done) | (simp; omega) | omega | (go_keep; done) | (simp [*, zcA, zcP, zfA, zfP]; done) | (simp [zcA, zcP]; rfl)) | (repeat' first | exact zbR _ _ | assumption | refine zbD ?_ | refine zbA ?_ ?_ _ | refine zbS ?_ ?_ _ | refine zbT ?_ (by assumption) ?_ | (simp; done) | (simp; omega) | omega)))); rw [Sxd.out] at hSn; (try dsimp only at hSn); (try clear hS); have hS := hSn; clear hSn hc hf) | (go_at_call 74; refine (endsSet_any (M.ofSet f won) g k _ HGS.out HGS9.out).mono ?_; rintro e w4 ⟨rfl, hb⟩; obtain ⟨hc, hf⟩ := bcell hb; have hz := hb.size; (try simp at hz); have hSn : Sx w4 := (by rw [Sxd.out]; (try dsimp only); (first | (go_keep; done) | (go_split_ands; (repeat' apply And.intro) <;> first | (go_keep; done) | (simp [*, zcA, zcP, zfA, zfP]; done) | (simp [zcA, zcP] <;> rfl) | (simp [*, zsS, zsO, zsA]; done) | ((first | refine (hc _ _ ?_).trans ?_ | refine (hf _ _ ?_).trans ?_) <;> first | assumption | (simp; done) | (simp; omega) | omega | (go_keep; done) | (simp [*, zcA, zcP, zfA, zfP]; done) | (simp [zcA, zcP]; rfl)) | (repeat' first | exact zbR _ _ | assumption | refine zbD ?_ | refine zbA ?_ ?_ _ | refine zbS ?_ ?_ _ | refine zbT ?_ (by assumption) ?_ | (simp; done) | (simp; omega) | omega)))); rw [Sxd.out] at hSn; (try dsimp only at hSn); (try clear hS); have hS := hSn; clear hSn hc hf))
        refine wp_region_held_drew (S := (fun w' => Below w.heap.size w w' ∧ w.heap.size < w'.heap.size ∧ w.heap.size + 1 < w'.heap.size ∧ w.heap.size + 1 + 1 < w'.heap.size ∧ w'.cell? ⟨w.heap.size + 1, 0, none⟩ = some (.int .i64 won.A) ∧ w'.cell? ⟨w.heap.size + 1, 1, none⟩ = some (.int .i64 won.B) ∧ w'.cell? ⟨w.heap.size + 1 + 1, 1, none⟩ = some (.int .i64 g.A) ∧ w'.cell? ⟨w.heap.size + 1 + 1, 2, none⟩ = some (.int .i64 g.B) ∧ w'.cell? ⟨w.heap.size + 1 + 1, 3, none⟩ = some (.int .i64 p.A) ∧ w'.cell? ⟨w.heap.size + 1 + 1, 4, none⟩ = some (.int .i64 p.B) ∧ w'.cell? ⟨w.heap.size, 0, none⟩ = some (.int .i64 f.sets) ∧ w'.cell? ⟨w.heap.size, 1, none⟩ = some (.int .i64 f.games) ∧ w'.cell? ⟨w.heap.size, 2, none⟩ = some (.bool f.noAd) ∧ w'.cell? ⟨w.heap.size, 3, none⟩ = some (.int .i64 f.tie) ∧ w'.cell? ⟨w.heap.size, 4, none⟩ = some (.int .i64 f.to) ∧ w'.cell? ⟨w.heap.size, 5, none⟩ = some (.int .i64 f.lastTie) ∧ w'.cell? ⟨w.heap.size, 6, none⟩ = some (.int .i64 f.lastTo) ∧ w'.cell? ⟨w.heap.size, 7, none⟩ = some (.int .i64 f.first) ∧ w'.cell? ⟨w.heap.size, 8, none⟩ = some (.int .i64 f.next) ∧ w'.cell? ⟨w.heap.size, 9, none⟩ = some (.bool f.doubles) ∧ w'.cell? ⟨w1.heap.size, 0, none⟩ = some (.int .i64 (M.ofSet f won).sets) ∧ w'.cell? ⟨w1.heap.size, 1, none⟩ = some (.int .i64 (M.ofSet f won).games) ∧ w'.cell? ⟨w1.heap.size, 2, none⟩ = some (.bool (M.ofSet f won).noAd) ∧ w'.cell? ⟨w1.heap.size, 3, none⟩ = some (.int .i64 (M.ofSet f won).tie) ∧ w'.cell? ⟨w1.heap.size, 4, none⟩ = some (.int .i64 (M.ofSet f won).to) ∧ w'.cell? ⟨w1.heap.size, 5, none⟩ = some (.int .i64 (M.ofSet f won).lastTie) ∧ w'.cell? ⟨w1.heap.size, 6, none⟩ = some (.int .i64 (M.ofSet f won).lastTo) ∧ w'.cell? ⟨w1.heap.size, 7, none⟩ = some (.int .i64 (M.ofSet f won).first) ∧ w'.cell? ⟨w1.heap.size, 8, none⟩ = some (.int .i64 (M.ofSet f won).next) ∧ w'.cell? ⟨w1.heap.size, 9, none⟩ = some (.bool (M.ofSet f won).doubles) ∧ w1.heap.size < w'.heap.size)) (by kernel_rfl) ?_ (fun hD0 => ?_)
        · (try dsimp only); (first | (go_keep; done) | (go_split_ands; (repeat' apply And.intro) <;> first | (go_keep; done) | (simp [*, zcA, zcP, zfA, zfP]; done) | (simp [zcA, zcP] <;> rfl) | (simp [*, zsS, zsO, zsA]; done) | ((first | refine (hc _ _ ?_).trans ?_ | refine (hf _ _ ?_).trans ?_) <;> first | assumption | (simp; done) | (simp; omega) | omega | (go_keep; done) | (simp [*, zcA, zcP, zfA, zfP]; done) | (simp [zcA, zcP]; rfl)) | (repeat' first | exact zbR _ _ | assumption | refine zbD ?_ | refine zbA ?_ ?_ _ | refine zbS ?_ ?_ _ | refine zbT ?_ (by assumption) ?_ | (simp; done) | (simp; omega) | omega)))
        refine tW ?_ 0 rfl (by kernel_rfl) (fun _ _ _ h => h) (by rfl) (by assumption) ?_ ?_; rotate_left; (focus (intro w hSw; (try dsimp only at hSw); go_simp; try with_reducible rfl)); try simp only [Act.put, zl, z0, z1]
        refine tW ?_ 1 rfl (by kernel_rfl) (fun _ _ _ h => h) (by rfl) (by assumption) ?_ ?_; rotate_left; (focus (intro w hSw; (try dsimp only at hSw); go_simp; try with_reducible rfl)); try simp only [Act.put, zl, z0, z1]
        refine tW ?_ 2 rfl (by kernel_rfl) (fun _ _ _ h => h) (by rfl) (by assumption) ?_ ?_; rotate_left; (focus (intro w hSw; (try dsimp only at hSw); go_simp; try with_reducible rfl)); try simp only [Act.put, zl, z0, z1]
        refine tW ?_ 3 rfl (by kernel_rfl) (fun _ _ _ h => h) (by rfl) (by assumption) ?_ ?_; rotate_left; (focus (intro w hSw; (try dsimp only at hSw); go_simp; try with_reducible rfl)); try simp only [Act.put, zl, z0, z1]
        refine tW ?_ 4 rfl (by kernel_rfl) (fun _ _ _ h => h) (by rfl) (by assumption) ?_ ?_; rotate_left; (focus (intro w hSw; (try dsimp only at hSw); go_simp; try with_reducible rfl)); try simp only [Act.put, zl, z0, z1]
        refine tW ?_ 5 rfl (by kernel_rfl) (fun _ _ _ h => h) (by rfl) (by assumption) ?_ ?_; rotate_left; (focus (intro w hSw; (try dsimp only at hSw); go_simp; try with_reducible rfl)); try simp only [Act.put, zl, z0, z1]
        refine tW ?_ 7 rfl (by kernel_rfl) (fun _ _ _ h => h) (by rfl) (by assumption) ?_ ?_; rotate_left; (focus (intro w hSw; (try dsimp only at hSw); go_simp; try with_reducible rfl)); try simp only [Act.put, zl, z0, z1]
        refine wpAnyH_ready (rs := [6]) (by kernel_rfl) (by simp) ?_; refine consL 6 rfl (fun K hK => ?_) AllReadyH.nil; go_simp
        (go_at_call 57; refine (plus_any _ k _ HGS.out).mono ?_; rintro e w' ⟨rfl, hb⟩; obtain ⟨hc, hf⟩ := bcell hb; have hz := hb.size; (try simp at hz))
        refine hK.out _ _ ?_ (fun hD1 => ?_)
        · (try dsimp only); (first | (go_keep; done) | (go_split_ands; (repeat' apply And.intro) <;> first | (go_keep; done) | (simp [*, zcA, zcP, zfA, zfP]; done) | (simp [zcA, zcP] <;> rfl) | (simp [*, zsS, zsO, zsA]; done) | ((first | refine (hc _ _ ?_).trans ?_ | refine (hf _ _ ?_).trans ?_) <;> first | assumption | (simp; done) | (simp; omega) | omega | (go_keep; done) | (simp [*, zcA, zcP, zfA, zfP]; done) | (simp [zcA, zcP]; rfl)) | (repeat' first | exact zbR _ _ | assumption | refine zbD ?_ | refine zbA ?_ ?_ _ | refine zbS ?_ ?_ _ | refine zbT ?_ (by assumption) ?_ | (simp; done) | (simp; omega) | omega)))
        clear hK K hD0; try simp only [Act.put, zl, z0, z1]
        refine wpAnyH_ready (rs := [8]) (by kernel_rfl) (by simp) ?_; refine consL 8 rfl (fun K hK => ?_) AllReadyH.nil; go_simp
        (go_at_call 61; refine ((JJ.out _).out).mono ?_; rintro e w' ⟨rfl, hb⟩; obtain ⟨hc, hf⟩ := bcell hb; have hz := hb.size; (try simp at hz))
        refine hK.out _ _ ?_ (fun hD2 => ?_)
        · (try dsimp only); (first | (go_keep; done) | (go_split_ands; (repeat' apply And.intro) <;> first | (go_keep; done) | (simp [*, zcA, zcP, zfA, zfP]; done) | (simp [zcA, zcP] <;> rfl) | (simp [*, zsS, zsO, zsA]; done) | ((first | refine (hc _ _ ?_).trans ?_ | refine (hf _ _ ?_).trans ?_) <;> first | assumption | (simp; done) | (simp; omega) | omega | (go_keep; done) | (simp [*, zcA, zcP, zfA, zfP]; done) | (simp [zcA, zcP]; rfl)) | (repeat' first | exact zbR _ _ | assumption | refine zbD ?_ | refine zbA ?_ ?_ _ | refine zbS ?_ ?_ _ | refine zbT ?_ (by assumption) ?_ | (simp; done) | (simp; omega) | omega)))
        clear hK K hD1; try simp only [Act.put, zl, z0, z1]
        refine tW ?_ 9 rfl (by kernel_rfl) (fun _ _ _ h => h) (by rfl) (by assumption) ?_ ?_; rotate_left; (focus (intro w hSw; (try dsimp only at hSw); go_simp; try with_reducible rfl)); try simp only [Act.put, zl, z0, z1]
        refine tW ?_ 10 rfl (by kernel_rfl) (fun _ _ _ h => h) (by rfl) (by assumption) ?_ ?_; rotate_left; (focus (intro w hSw; (try dsimp only at hSw); go_simp; try with_reducible rfl)); try simp only [Act.put, zl, z0, z1]
        refine wpAnyH_done (by kernel_rfl) ?_ _
        by_cases hb : M.pointsOfGame (M.ofSet f won) (M.isTie (M.ofSet f won) g) p k + M.lfg f s 6 won (M.plus g k) < M.bestOf cost k
        · have HM : Hid (M.mn (M.bestOf cost k) (M.pointsOfGame (M.ofSet f won) (M.isTie (M.ofSet f won) g) p k + M.lfg f s 6 won (M.plus g k)) = _) := hide (if_pos hb)
          go_wp2
          go_roundw
          case rel => exact ⟨k + 1, by omega, by go_num, by rw [HK.out, HM.out], by (first | (go_keep; done) | (go_split_ands; (repeat' apply And.intro) <;> first | (go_keep; done) | (simp [*, zcA, zcP, zfA, zfP]; done) | (simp [zcA, zcP] <;> rfl) | (simp [*, zsS, zsO, zsA]; done) | ((first | refine (hc _ _ ?_).trans ?_ | refine (hf _ _ ?_).trans ?_) <;> first | assumption | (simp; done) | (simp; omega) | omega | (go_keep; done) | (simp [*, zcA, zcP, zfA, zfP]; done) | (simp [zcA, zcP]; rfl)) | (repeat' first | exact zbR _ _ | assumption | refine zbD ?_ | refine zbA ?_ ?_ _ | refine zbS ?_ ?_ _ | refine zbT ?_ (by assumption) ?_ | (simp; done) | (simp; omega) | omega)))⟩
          case measure => simp [intOf]; omega
        · have HM : Hid (M.mn (M.bestOf cost k) (M.pointsOfGame (M.ofSet f won) (M.isTie (M.ofSet f won) g) p k + M.lfg f s 6 won (M.plus g k)) = _) := hide (if_neg hb)
          go_wp2
          go_roundw
          case rel => exact ⟨k + 1, by omega, by go_num, by rw [HK.out, HM.out], by (first | (go_keep; done) | (go_split_ands; (repeat' apply And.intro) <;> first | (go_keep; done) | (simp [*, zcA, zcP, zfA, zfP]; done) | (simp [zcA, zcP] <;> rfl) | (simp [*, zsS, zsO, zsA]; done) | ((first | refine (hc _ _ ?_).trans ?_ | refine (hf _ _ ?_).trans ?_) <;> first | assumption | (simp; done) | (simp; omega) | omega | (go_keep; done) | (simp [*, zcA, zcP, zfA, zfP]; done) | (simp [zcA, zcP]; rfl)) | (repeat' first | exact zbR _ _ | assumption | refine zbD ?_ | refine zbA ?_ ?_ _ | refine zbS ?_ ?_ _ | refine zbT ?_ (by assumption) ?_ | (simp; done) | (simp; omega) | omega)))⟩
          case measure => simp [intOf]; omega
      · have hl0 := M.lfg_ge HV.out s 6 (M.plus won k) M.zero
        have hl1 := M.lfg_le f s 6 (M.plus won k) M.zero
        have ew : IntKind.i64.wrap (M.pointsOfGame (M.ofSet f won) (M.isTie (M.ofSet f won) g) p k + M.lfg f s 6 (M.plus won k) M.zero) = M.pointsOfGame (M.ofSet f won) (M.isTie (M.ofSet f won) g) p k + M.lfg f s 6 (M.plus won k) M.zero := IntWalk.i64_in _ (by unfold M.never at hl1; omega)
        have hK : M.bestOf cost (k + 1) = M.mn (M.bestOf cost k) (M.pointsOfGame (M.ofSet f won) (M.isTie (M.ofSet f won) g) p k + M.lfg f s 6 (M.plus won k) M.zero) := by
          have : cost k = M.pointsOfGame (M.ofSet f won) (M.isTie (M.ofSet f won) g) p k + M.lfg f s 6 (M.plus won k) M.zero := by rw [HC.out k, hes]; rfl
          rw [← this]; rfl
        have HK := hide hK
        clear hK hl0 hl1
        have JJ := hide (J0.out k hlt)
        go_wp2_with (first | (go_at_call 73; refine (pointsOfGame_any (M.ofSet f won) (M.isTie (M.ofSet f won) g) p k _ HVS.out HPP.out (by omega) (by omega)).mono ?_; rintro e w3 ⟨rfl, hb⟩; obtain ⟨hc, hf⟩ := bcell hb; have hz := hb.size; (try simp at hz); have hSn : Sx w3 := (by rw [Sxd.out]; (try dsimp only); (first | (go_keep; done) | (go_split_ands; (repeat' apply And.intro) <;> first | (go_keep; done) | (simp [*, zcA, zcP, zfA, zfP]; done) | (simp [zcA, zcP] <;> rfl) | (simp [*, zsS, zsO, zsA]; done) | ((first | refine (hc _ _ ?_).trans ?_ | refine (hf _ _ ?_).trans ?_) <;> first | assumption | (simp; done) | (simp; omega) | omega | (go_keep; done) | (simp [*, zcA, zcP, zfA, zfP]; done) | (simp [zcA, zcP]; rfl)) | (repeat' first | exact zbR _ _ | assumption | refine zbD ?_ | refine zbA ?_ ?_ _ | refine zbS ?_ ?_ _ | refine zbT ?_ (by assumption) ?_ | (simp; done) | (simp; omega) | omega)))); rw [Sxd.out] at hSn; (try dsimp only at hSn); (try clear hS); have hS := hSn; clear hSn hc hf) | (go_at_call 74; refine (endsSet_any (M.ofSet f won) g k _ HGS.out HGS9.out).mono ?_; rintro e w4 ⟨rfl, hb⟩; obtain ⟨hc, hf⟩ := bcell hb; have hz := hb.size; (try simp at hz); have hSn : Sx w4 := (by rw [Sxd.out]; (try dsimp only); (first | (go_keep; done) | (go_split_ands; (repeat' apply And.intro) <;> first | (go_keep; done) | (simp [*, zcA, zcP, zfA, zfP]; done) | (simp [zcA, zcP] <;> rfl) | (simp [*, zsS, zsO, zsA]; done) | ((first | refine (hc _ _ ?_).trans ?_ | refine (hf _ _ ?_).trans ?_) <;> first | assumption | (simp; done) | (simp; omega) | omega | (go_keep; done) | (simp [*, zcA, zcP, zfA, zfP]; done) | (simp [zcA, zcP]; rfl)) | (repeat' first | exact zbR _ _ | assumption | refine zbD ?_ | refine zbA ?_ ?_ _ | refine zbS ?_ ?_ _ | refine zbT ?_ (by assumption) ?_ | (simp; done) | (simp; omega) | omega)))); rw [Sxd.out] at hSn; (try dsimp only at hSn); (try clear hS); have hS := hSn; clear hSn hc hf))
        refine wp_region_held_drew (S := (fun w' => Below w.heap.size w w' ∧ w.heap.size < w'.heap.size ∧ w.heap.size + 1 < w'.heap.size ∧ w.heap.size + 1 + 1 < w'.heap.size ∧ w'.cell? ⟨w.heap.size + 1, 0, none⟩ = some (.int .i64 won.A) ∧ w'.cell? ⟨w.heap.size + 1, 1, none⟩ = some (.int .i64 won.B) ∧ w'.cell? ⟨w.heap.size + 1 + 1, 1, none⟩ = some (.int .i64 g.A) ∧ w'.cell? ⟨w.heap.size + 1 + 1, 2, none⟩ = some (.int .i64 g.B) ∧ w'.cell? ⟨w.heap.size + 1 + 1, 3, none⟩ = some (.int .i64 p.A) ∧ w'.cell? ⟨w.heap.size + 1 + 1, 4, none⟩ = some (.int .i64 p.B) ∧ w'.cell? ⟨w.heap.size, 0, none⟩ = some (.int .i64 f.sets) ∧ w'.cell? ⟨w.heap.size, 1, none⟩ = some (.int .i64 f.games) ∧ w'.cell? ⟨w.heap.size, 2, none⟩ = some (.bool f.noAd) ∧ w'.cell? ⟨w.heap.size, 3, none⟩ = some (.int .i64 f.tie) ∧ w'.cell? ⟨w.heap.size, 4, none⟩ = some (.int .i64 f.to) ∧ w'.cell? ⟨w.heap.size, 5, none⟩ = some (.int .i64 f.lastTie) ∧ w'.cell? ⟨w.heap.size, 6, none⟩ = some (.int .i64 f.lastTo) ∧ w'.cell? ⟨w.heap.size, 7, none⟩ = some (.int .i64 f.first) ∧ w'.cell? ⟨w.heap.size, 8, none⟩ = some (.int .i64 f.next) ∧ w'.cell? ⟨w.heap.size, 9, none⟩ = some (.bool f.doubles) ∧ w'.cell? ⟨w1.heap.size, 0, none⟩ = some (.int .i64 (M.ofSet f won).sets) ∧ w'.cell? ⟨w1.heap.size, 1, none⟩ = some (.int .i64 (M.ofSet f won).games) ∧ w'.cell? ⟨w1.heap.size, 2, none⟩ = some (.bool (M.ofSet f won).noAd) ∧ w'.cell? ⟨w1.heap.size, 3, none⟩ = some (.int .i64 (M.ofSet f won).tie) ∧ w'.cell? ⟨w1.heap.size, 4, none⟩ = some (.int .i64 (M.ofSet f won).to) ∧ w'.cell? ⟨w1.heap.size, 5, none⟩ = some (.int .i64 (M.ofSet f won).lastTie) ∧ w'.cell? ⟨w1.heap.size, 6, none⟩ = some (.int .i64 (M.ofSet f won).lastTo) ∧ w'.cell? ⟨w1.heap.size, 7, none⟩ = some (.int .i64 (M.ofSet f won).first) ∧ w'.cell? ⟨w1.heap.size, 8, none⟩ = some (.int .i64 (M.ofSet f won).next) ∧ w'.cell? ⟨w1.heap.size, 9, none⟩ = some (.bool (M.ofSet f won).doubles) ∧ w1.heap.size < w'.heap.size)) (by kernel_rfl) ?_ (fun hD0 => ?_)
        · (try dsimp only); (first | (go_keep; done) | (go_split_ands; (repeat' apply And.intro) <;> first | (go_keep; done) | (simp [*, zcA, zcP, zfA, zfP]; done) | (simp [zcA, zcP] <;> rfl) | (simp [*, zsS, zsO, zsA]; done) | ((first | refine (hc _ _ ?_).trans ?_ | refine (hf _ _ ?_).trans ?_) <;> first | assumption | (simp; done) | (simp; omega) | omega | (go_keep; done) | (simp [*, zcA, zcP, zfA, zfP]; done) | (simp [zcA, zcP]; rfl)) | (repeat' first | exact zbR _ _ | assumption | refine zbD ?_ | refine zbA ?_ ?_ _ | refine zbS ?_ ?_ _ | refine zbT ?_ (by assumption) ?_ | (simp; done) | (simp; omega) | omega)))
        refine tW ?_ 0 rfl (by kernel_rfl) (fun _ _ _ h => h) (by rfl) (by assumption) ?_ ?_; rotate_left; (focus (intro w hSw; (try dsimp only at hSw); go_simp; try with_reducible rfl)); try simp only [Act.put, zl, z0, z1]
        refine tW ?_ 1 rfl (by kernel_rfl) (fun _ _ _ h => h) (by rfl) (by assumption) ?_ ?_; rotate_left; (focus (intro w hSw; (try dsimp only at hSw); go_simp; try with_reducible rfl)); try simp only [Act.put, zl, z0, z1]
        refine tW ?_ 2 rfl (by kernel_rfl) (fun _ _ _ h => h) (by rfl) (by assumption) ?_ ?_; rotate_left; (focus (intro w hSw; (try dsimp only at hSw); go_simp; try with_reducible rfl)); try simp only [Act.put, zl, z0, z1]
        refine tW ?_ 3 rfl (by kernel_rfl) (fun _ _ _ h => h) (by rfl) (by assumption) ?_ ?_; rotate_left; (focus (intro w hSw; (try dsimp only at hSw); go_simp; try with_reducible rfl)); try simp only [Act.put, zl, z0, z1]
        refine tW ?_ 5 rfl (by kernel_rfl) (fun _ _ _ h => h) (by rfl) (by assumption) ?_ ?_; rotate_left; (focus (intro w hSw; (try dsimp only at hSw); go_simp; try with_reducible rfl)); try simp only [Act.put, zl, z0, z1]
        refine tW ?_ 6 rfl (by kernel_rfl) (fun _ _ _ h => h) (by rfl) (by assumption) ?_ ?_; rotate_left; (focus (intro w hSw; (try dsimp only at hSw); go_simp; try with_reducible rfl)); try simp only [Act.put, zl, z0, z1]
        refine wpAnyH_ready (rs := [4]) (by kernel_rfl) (by simp) ?_; refine consL 4 rfl (fun K hK => ?_) AllReadyH.nil; go_simp
        (go_at_call 57; refine (plus_any _ k _ HWS.out).mono ?_; rintro e w' ⟨rfl, hb⟩; obtain ⟨hc, hf⟩ := bcell hb; have hz := hb.size; (try simp at hz))
        refine hK.out _ _ ?_ (fun hD1 => ?_)
        · (try dsimp only); (first | (go_keep; done) | (go_split_ands; (repeat' apply And.intro) <;> first | (go_keep; done) | (simp [*, zcA, zcP, zfA, zfP]; done) | (simp [zcA, zcP] <;> rfl) | (simp [*, zsS, zsO, zsA]; done) | ((first | refine (hc _ _ ?_).trans ?_ | refine (hf _ _ ?_).trans ?_) <;> first | assumption | (simp; done) | (simp; omega) | omega | (go_keep; done) | (simp [*, zcA, zcP, zfA, zfP]; done) | (simp [zcA, zcP]; rfl)) | (repeat' first | exact zbR _ _ | assumption | refine zbD ?_ | refine zbA ?_ ?_ _ | refine zbS ?_ ?_ _ | refine zbT ?_ (by assumption) ?_ | (simp; done) | (simp; omega) | omega)))
        clear hK K hD0; try simp only [Act.put, zl, z0, z1]
        refine wpAnyH_ready (rs := [7]) (by kernel_rfl) (by simp) ?_; refine consL 7 rfl (fun K hK => ?_) AllReadyH.nil; go_simp
        (go_at_call 61; refine ((JJ.out _).out).mono ?_; rintro e w' ⟨rfl, hb⟩; obtain ⟨hc, hf⟩ := bcell hb; have hz := hb.size; (try simp at hz))
        refine hK.out _ _ ?_ (fun hD2 => ?_)
        · (try dsimp only); (first | (go_keep; done) | (go_split_ands; (repeat' apply And.intro) <;> first | (go_keep; done) | (simp [*, zcA, zcP, zfA, zfP]; done) | (simp [zcA, zcP] <;> rfl) | (simp [*, zsS, zsO, zsA]; done) | ((first | refine (hc _ _ ?_).trans ?_ | refine (hf _ _ ?_).trans ?_) <;> first | assumption | (simp; done) | (simp; omega) | omega | (go_keep; done) | (simp [*, zcA, zcP, zfA, zfP]; done) | (simp [zcA, zcP]; rfl)) | (repeat' first | exact zbR _ _ | assumption | refine zbD ?_ | refine zbA ?_ ?_ _ | refine zbS ?_ ?_ _ | refine zbT ?_ (by assumption) ?_ | (simp; done) | (simp; omega) | omega)))
        clear hK K hD1; try simp only [Act.put, zl, z0, z1]
        refine tW ?_ 8 rfl (by kernel_rfl) (fun _ _ _ h => h) (by rfl) (by assumption) ?_ ?_; rotate_left; (focus (intro w hSw; (try dsimp only at hSw); go_simp; try with_reducible rfl)); try simp only [Act.put, zl, z0, z1]
        refine tW ?_ 9 rfl (by kernel_rfl) (fun _ _ _ h => h) (by rfl) (by assumption) ?_ ?_; rotate_left; (focus (intro w hSw; (try dsimp only at hSw); go_simp; try with_reducible rfl)); try simp only [Act.put, zl, z0, z1]
        refine wpAnyH_done (by kernel_rfl) ?_ _
        by_cases hb : M.pointsOfGame (M.ofSet f won) (M.isTie (M.ofSet f won) g) p k + M.lfg f s 6 (M.plus won k) M.zero < M.bestOf cost k
        · have HM : Hid (M.mn (M.bestOf cost k) (M.pointsOfGame (M.ofSet f won) (M.isTie (M.ofSet f won) g) p k + M.lfg f s 6 (M.plus won k) M.zero) = _) := hide (if_pos hb)
          go_wp2
          go_roundw
          case rel => exact ⟨k + 1, by omega, by go_num, by rw [HK.out, HM.out], by (first | (go_keep; done) | (go_split_ands; (repeat' apply And.intro) <;> first | (go_keep; done) | (simp [*, zcA, zcP, zfA, zfP]; done) | (simp [zcA, zcP] <;> rfl) | (simp [*, zsS, zsO, zsA]; done) | ((first | refine (hc _ _ ?_).trans ?_ | refine (hf _ _ ?_).trans ?_) <;> first | assumption | (simp; done) | (simp; omega) | omega | (go_keep; done) | (simp [*, zcA, zcP, zfA, zfP]; done) | (simp [zcA, zcP]; rfl)) | (repeat' first | exact zbR _ _ | assumption | refine zbD ?_ | refine zbA ?_ ?_ _ | refine zbS ?_ ?_ _ | refine zbT ?_ (by assumption) ?_ | (simp; done) | (simp; omega) | omega)))⟩
          case measure => simp [intOf]; omega
        · have HM : Hid (M.mn (M.bestOf cost k) (M.pointsOfGame (M.ofSet f won) (M.isTie (M.ofSet f won) g) p k + M.lfg f s 6 (M.plus won k) M.zero) = _) := hide (if_neg hb)
          go_wp2
          go_roundw
          case rel => exact ⟨k + 1, by omega, by go_num, by rw [HK.out, HM.out], by (first | (go_keep; done) | (go_split_ands; (repeat' apply And.intro) <;> first | (go_keep; done) | (simp [*, zcA, zcP, zfA, zfP]; done) | (simp [zcA, zcP] <;> rfl) | (simp [*, zsS, zsO, zsA]; done) | ((first | refine (hc _ _ ?_).trans ?_ | refine (hf _ _ ?_).trans ?_) <;> first | assumption | (simp; done) | (simp; omega) | omega | (go_keep; done) | (simp [*, zcA, zcP, zfA, zfP]; done) | (simp [zcA, zcP]; rfl)) | (repeat' first | exact zbR _ _ | assumption | refine zbD ?_ | refine zbA ?_ ?_ _ | refine zbS ?_ ?_ _ | refine zbT ?_ (by assumption) ?_ | (simp; done) | (simp; omega) | omega)))⟩
          case measure => simp [intOf]; omega
    · have hk2 : k = 2 := by omega
      subst hk2
      go_wp2
      go_ret
      exact ⟨by rw [HO.out]; rfl, by (go_split_ands; (repeat' first | exact zbR _ _ | assumption | refine zbD ?_ | refine zbA ?_ ?_ _ | refine zbS ?_ ?_ _ | refine zbT ?_ (by assumption) ?_ | (simp; done) | (simp; omega) | omega))⟩

end Go.Proofs.Ytoaogpipogeamaa
