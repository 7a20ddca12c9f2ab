/-
  Part of a claim's texts: contracts of the program's functions and the plain functions that they compute, in build order.
-/
import Derived.Maps.AppendAt
import Derived.Laws.AppendOwnNone
import Derived.Deep.AppendLies
import Derived.OwnWalk
import Derived.Deep.CutRange
import Derived.Deep.DeepCutAuto
import Derived.Deep.RegionHeld3
import Derived.KernelRfl
import Derived.Test.YtgnobonhohfofaaZB01
namespace Go.Proofs.Ytgnobonhohfofaa
open Go.RowKit

def RdI (w : World) (B : Nat) (A : Option Addr) (xs : List Int) : Prop :=
  ∀ (k : Nat) (x : Int), xs[k]? = some x → ∃ b o : Nat, A = some ⟨b, o, none⟩ ∧ b < B ∧ w.cell? ⟨b, o + k, none⟩ = some (.int .i64 x)
theorem RdI.below {w w' : World} {B : Nat} {A : Option Addr} {xs : List Int} (h : RdI w B A xs) (hb : Below B w w') : RdI w' B A xs := fun k p hk => by
  obtain ⟨b, o, e, hB, c0⟩ := h k p hk
  exact ⟨b, o, e, hB, (hb.cell (p := ⟨b, o + k, none⟩) hB).trans c0⟩
theorem RdI.mono {w : World} {B B' : Nat} {A : Option Addr} {xs : List Int} (h : RdI w B A xs) (hB : B ≤ B') : RdI w B' A xs := fun k p hk => by
  obtain ⟨b, o, e, hB, c0⟩ := h k p hk
  exact ⟨b, o, e, by omega, c0⟩
theorem RdI.nil (w : World) (B : Nat) (A : Option Addr) : RdI w B A [] := fun k p h => by simp at h
def flatI (xs : List Int) : List Value := xs.map fun x => .int .i64 x
theorem flatI_at {xs : List Int} {k : Nat} {x : Int} (h : xs[k]? = some x) : (flatI xs)[k]? = some (.int .i64 x) := by
  unfold flatI; rw [List.getElem?_map, h]; rfl
theorem flatI_one (xs : List Int) : ∀ u ∈ flatI xs, u.oneCell' = true := by
  intro u hu
  simp only [flatI, List.mem_map] at hu
  obtain ⟨x, _, rfl⟩ := hu
  rfl
theorem owns_RdI {w : World} {base : Nat} {A : Option Addr} {n c : Nat} {xs : List Int} (h : w.ownsRow base 3 1 (.slice A n c) n (flatI xs)) (hn : xs.length = n) : RdI w w.heap.size A xs := by
  intro k p hk
  have hkl : k < n := by rw [← hn]; exact (List.getElem?_eq_some_iff.1 hk).1
  obtain ⟨g, cap, e, hbg, hh⟩ := h.form (by omega)
  have e' : A = some ⟨g, 0, none⟩ ∧ c = cap := by
    simp only [Value.slice.injEq] at e
    exact ⟨e.1, e.2.2⟩
  obtain ⟨rfl, rfl⟩ := e'
  refine ⟨g, 0, rfl, ?_, ?_⟩
  · exact (h.lt g rfl).2
  · rw [Nat.zero_add, h.cellAt k (by omega)]; exact flatI_at hk
theorem int_info : (Try.prog.info? 3).map (fun i => (i.zero, i.size, i.bytes)) = some (some (.int .i64 0), 1, 8) := by kernel_rfl
theorem RdI.none {w : World} {B : Nat} {xs : List Int} (h : RdI w B none xs) : xs = [] := by
  match xs, h with
  | [], _ => rfl
  | x :: r, h => obtain ⟨_, _, e, _⟩ := h 0 x rfl; cases e

theorem flatI_app (a b : List Int) : flatI (a ++ b) = flatI a ++ flatI b := by unfold flatI; simp
theorem flatI_length (a : List Int) : (flatI a).length = a.length := by unfold flatI; simp
theorem run_app_ints {w : World} (ty : TypeId) (base : Nat) (v : Value) (ps : List Int) (m0 : Nat) (hown : w.ownsRow base 3 1 v m0 (flatI ps))
    (A : Option Addr) (n c : Nat) (xs : List Int) (hn : xs.length = n) (hr : RdI w w.heap.size A xs) (hA : A = none → c = 0) (h0 : m0 ≤ 1000) (h1 : n ≤ 1000) (hbase : base ≤ w.heap.size) :
    ∃ A' c' w', (Builtin.append_ #[57, 57] ty #[v, .slice A n c]).run Try.prog w = .ok (.slice A' (m0 + n) c') w' ∧ w'.ownsRow base 3 1 (.slice A' (m0 + n) c') (m0 + n) (flatI (ps ++ xs)) ∧ w.grownBy w' v.ownBlock := by
  obtain ⟨i, hi, hz0, hz1, hz2⟩ := info_parts int_info
  rcases A with _ | ad
  · have hx0 : xs = [] := hr.none
    subst hx0
    have hn0 : n = 0 := by simpa using hn.symm
    subst hn0
    have hc0 := hA rfl
    subst hc0
    obtain ⟨A', c', rfl⟩ := own_form hown
    have hrun := run_append_owned_none (P := Try.prog) (w := w) base 57 ty 3 i 1 Try.underlying57 hi (.slice A' m0 c') m0 (flatI ps) hown
    exact ⟨A', c', w, hrun, by simpa using hown, World.grownBy.refl w _⟩
  · obtain ⟨v', w', hrun, h2, h3, _, _⟩ := run_append_own_at (P := Try.prog) w base 57 ty 3 i _ 1 8 Try.underlying57 hi hz0 hz1 hz2 (by rfl) (by decide) v m0 (flatI ps) hown ad n c (flatI xs) (by rw [flatI_length]; omega) (by
      intro j u hj
      obtain ⟨y, hk⟩ : ∃ y, xs[j]? = some y := by
        have hjl : j < (flatI xs).length := (List.getElem?_eq_some_iff.1 hj).1
        rw [flatI_length] at hjl
        exact ⟨_, List.getElem?_eq_getElem hjl⟩
      rw [flatI_at hk] at hj
      have hj' := Option.some.inj hj
      subst hj'
      obtain ⟨b, o2, e, _, c0⟩ := hr j y hk
      have e' := Option.some.inj e
      subst e'
      rw [add_plain]
      exact c0) (flatI_one xs) (by unfold maxLen; omega) (by omega) hbase
    obtain ⟨A', c', rfl⟩ := own_form h2
    exact ⟨A', c', w', hrun, by rw [flatI_app]; exact h2, h3⟩
theorem wpList_app_at {w : World} {ops : Array Oper} {rest : List Oper} {o : Oper} {a : Act} {Q : Exit → Act → World → Prop} (hgd : o.guard = none) (s x : Operand)
    (ho : o.op = .call { callee := .builtin .append, args := #[s, x], argTypes := #[57, 57] }) (base : Nat) (v : Value) (ps : List Int) (m0 : Nat) (hs : a.eval s = v) (hown : w.ownsRow base 3 1 v m0 (flatI ps))
    (A : Option Addr) (n c : Nat) (xs : List Int) (hx : a.eval x = .slice A n c) (hn : xs.length = n) (hr : RdI w w.heap.size A xs) (hA : A = none → c = 0) (h0 : m0 ≤ 1000) (h1 : n ≤ 1000) (hbase : base ≤ w.heap.size)
    (h : ∀ A' c' w', w'.ownsRow base 3 1 (.slice A' (m0 + n) c') (m0 + n) (flatI (ps ++ xs)) → w.grownBy w' v.ownBlock → wpList Try.prog ops Q rest (a.put o.dst (.slice A' (m0 + n) c')) w') :
    wpList Try.prog ops Q (o :: rest) a w := by
  refine wpList_plain hgd fun K hK => ?_
  obtain ⟨A', c', w', hr', h2, h3⟩ := run_app_ints o.type base v ps m0 hown A n c xs hn hr hA h0 h1 hbase
  unfold Oper.wp execOp
  simp only [ho, resolve, invoke, builtin, Sem.run_bind, Sem.run_pure, Result.andThen_ok, List.map_toArray, List.map_cons, List.map_nil, hs, hx, hr']
  exact hK _ _ (h A' c' w' h2 h3)

theorem blk_lt {W : World} {g : Nat} {o : Obj} (h : W.heap[g]? = some o) : g < W.heap.size := (Array.getElem?_eq_some_iff.1 h).1
theorem rdI_one {w : World} {q : Nat} {x : Int} (hq : w.heap[q]? = some (.cells #[.int .i64 x] 3 (0, 0))) : RdI w w.heap.size (some ⟨q, 0, none⟩) [x] := by
  intro k y hk
  match k, hk with
  | 0, hk =>
    have hy : x = y := Option.some.inj hk
    subst hy
    exact ⟨_, 0, rfl, blk_lt hq, (blk_cell hq 0).trans rfl⟩
  | k + 1, hk => cases hk

end Go.Proofs.Ytgnobonhohfofaa

namespace Go.Proofs.Ytgnobonhohfofaa
open Go.RowKit
attribute [local go_sem ↓] Go.wp_at_zero Go.wp_at_succ

theorem L.boxB_ok {b : L.Bx} (h : L.boxB b = true) : L.BxOk b := by
  simp only [L.boxB, L.spanIn, Bool.and_eq_true, decide_eq_true_eq] at h
  obtain ⟨⟨⟨a, b⟩, c⟩, ⟨d, e⟩, f⟩ := h
  exact ⟨a, b, c, d, e, f⟩
theorem L.checkBE_ok {v : L.Vw} {b : L.Bx} (h : L.checkBE v b = 0) : L.VwOk v ∧ L.BxOk b := by
  unfold L.checkBE at h
  cases h1 : L.viewB v <;> simp [h1] at h
  cases h2 : L.boxB b <;> simp [h2] at h
  exact ⟨L.viewB_ok h1, L.boxB_ok h2⟩
theorem L.callOf_rng (v : L.Vw) (b : L.Bx) (k : Int) : 0 ≤ L.callOf v b k ∧ L.callOf v b k ≤ 3 := by
  unfold L.callOf; repeat' split
  all_goals omega

set_option maxRecDepth 100000 in
set_option maxHeartbeats 1600000 in
theorem callOf_any (v : L.Vw) (A : Option Addr) (n c : Nat) (b : L.Bx) (k : Int) (w : World) (hv : L.VwOk v) (hb : L.BxOk b) (hn : v.ss.length = n) (hr : RdS w w.heap.size A v.ss) (hk0 : 0 ≤ k) (hk1 : k ≤ 1000) :
    Calls Try.prog 48 #[.agg #[.int .i64 v.size, .slice A n c, .int .i64 v.wrong, .int .i64 v.hxl, .int .i64 v.hxh, .int .i64 v.hyl, .int .i64 v.hyh], .agg #[.int .i64 b.l, .int .i64 b.r, .int .i64 b.b, .int .i64 b.t], .int .i64 k] w fun e w' => e = .returned (.int .i64 (L.callOf v b k)) ∧ Below w.heap.size w w' := by
  have HN := hide hn
  have HR := hide hr
  have HV := hide hv
  have HB := hide hb
  clear hn hr hv hb
  cases hi : (L.findC v b k 1).isSome <;> cases ho : (L.findC v b k 2).isSome
  all_goals
    have HE := hide (show L.callOf v b k = if (L.findC v b k 1).isSome then (if (L.findC v b k 2).isSome then 3 else 1) else (if (L.findC v b k 2).isSome then 2 else 0) from rfl)
    rw [hi, ho] at HE
    have HI := hide hi
    have HO := hide ho
    clear hi ho
    go_enter Try.func48, Try.ntmps48
    go_wp2_with (go_at_call 55; refine (find_any v A n c b k _ _ HV.out HB.out HN.out ((HR.out.below (by (repeat' first | exact zbR _ _ | assumption | refine zbD ?_ | refine zbA ?_ ?_ _ | refine zbS ?_ ?_ _ | refine zbT ?_ (by assumption) ?_ | (simp; done) | (simp; omega) | omega))).mono (by first | (simp; done) | (simp; omega) | omega)) hk0 hk1).mono ?_; rintro e w2 ⟨rfl, hb2⟩; (first | rw [HI.out] | rw [HO.out]); obtain ⟨hc2, hf2⟩ := bcell hb2; have hz2 : w.heap.size + 1 < w2.heap.size := (by have := hb2.size; (try simp at this); omega); have hy2 : w.heap.size < w2.heap.size := (by omega))
    go_ret
    exact ⟨by rw [HE.out]; rfl, by (repeat' first | exact zbR _ _ | assumption | refine zbD ?_ | refine zbA ?_ ?_ _ | refine zbS ?_ ?_ _ | refine zbT ?_ (by assumption) ?_ | (simp; done) | (simp; omega) | omega)⟩

namespace L
theorem checkBE_cases (v : Vw) (b : Bx) : checkBE v b = 0 ∨ checkBE v b = 20 ∨ checkBE v b = 21 := by
  unfold checkBE; repeat' split
  all_goals omega
def callE (v : Vw) (b : Bx) : Int := if checkBE v b = 0 then (if callOf v b 0 = 0 then 3 else 0) else checkBE v b
def callV (v : Vw) (b : Bx) : Int := if checkBE v b = 0 then callOf v b 0 else 0
def decE (said : Int) (v : Vw) (b : Bx) : Int := if checkBE v b = 0 then (if sure said then 0 else 22) else checkBE v b
def decV (said : Int) (v : Vw) (b : Bx) : Int := if checkBE v b = 0 then (if sure said then (if sure (callOf v b 0) then callOf v b 0 else said) else 0) else 0
def decK (said : Int) (v : Vw) (b : Bx) : Bool := if checkBE v b = 0 then (if sure said then (if sure (callOf v b 0) then callOf v b 0 != said else true) else false) else false
end L

set_option maxRecDepth 100000 in
set_option maxHeartbeats 1600000 in
theorem Call_any (v : L.Vw) (A : Option Addr) (n c : Nat) (b : L.Bx) (w : World) (hn : v.ss.length = n) (hr : RdS w w.heap.size A v.ss) :
    Calls Try.prog 17 #[.agg #[.int .i64 v.size, .slice A n c, .int .i64 v.wrong, .int .i64 v.hxl, .int .i64 v.hxh, .int .i64 v.hyl, .int .i64 v.hyh], .agg #[.int .i64 b.l, .int .i64 b.r, .int .i64 b.b, .int .i64 b.t]] w fun e w' => e = .returned (.tuple #[.int .i64 (L.callV v b), .int .i64 (L.callE v b)]) ∧ Below w.heap.size w w' := by
  have HN := hide hn
  have HR := hide hr
  clear hn hr
  rcases L.checkBE_cases v b with h | h | h
  · obtain ⟨hv, hb⟩ := L.checkBE_ok h
    have HV := hide hv
    have HB := hide hb
    have E1 := hide (show L.callV v b = L.callOf v b 0 by unfold L.callV; rw [if_pos h])
    have H := hide h
    clear hv hb h
    by_cases h0 : L.callOf v b 0 = 0
    · have E2 := hide (show L.callE v b = 3 by unfold L.callE; rw [if_pos H.out, if_pos h0])
      have H0 := hide h0
      clear h0
      go_enter Try.func17, Try.ntmps17
      go_wp2_with (first | (go_at_call 47; refine (check_any v A n c b _ HN.out ((HR.out.below (by (repeat' first | exact zbR _ _ | assumption | refine zbD ?_ | refine zbA ?_ ?_ _ | refine zbS ?_ ?_ _ | refine zbT ?_ (by assumption) ?_ | (simp; done) | (simp; omega) | omega))).mono (by first | (simp; done) | (simp; omega) | omega))).mono ?_; rintro e w2 ⟨rfl, hb2⟩; rw [H.out]; obtain ⟨hc2, hf2⟩ := bcell hb2; have hz2 : w.heap.size + 1 < w2.heap.size := (by have := hb2.size; (try simp at this); omega); have hy2 : w.heap.size < w2.heap.size := (by omega)) | (go_at_call 48; refine (callOf_any v A n c b 0 _ HV.out HB.out HN.out ((HR.out.below (by (repeat' first | exact zbR _ _ | assumption | refine zbD ?_ | refine zbA ?_ ?_ _ | refine zbS ?_ ?_ _ | refine zbT ?_ (by assumption) ?_ | (simp; done) | (simp; omega) | omega))).mono (by first | (simp; done) | (simp; omega) | omega)) (by omega) (by omega)).mono ?_; rintro e w3 ⟨rfl, hb3⟩; rw [H0.out]))
      go_ret2
      exact ⟨by rw [E1.out, E2.out, H0.out]; rfl, by (repeat' first | exact zbR _ _ | assumption | refine zbD ?_ | refine zbA ?_ ?_ _ | refine zbS ?_ ?_ _ | refine zbT ?_ (by assumption) ?_ | (simp; done) | (simp; omega) | omega)⟩
    · have E2 := hide (show L.callE v b = 0 by unfold L.callE; rw [if_pos H.out, if_neg h0])
      have d0 : (L.callOf v b 0 == 0) = false := by simpa using h0
      clear h0
      go_enter Try.func17, Try.ntmps17
      go_wp2_with (first | (go_at_call 47; refine (check_any v A n c b _ HN.out ((HR.out.below (by (repeat' first | exact zbR _ _ | assumption | refine zbD ?_ | refine zbA ?_ ?_ _ | refine zbS ?_ ?_ _ | refine zbT ?_ (by assumption) ?_ | (simp; done) | (simp; omega) | omega))).mono (by first | (simp; done) | (simp; omega) | omega))).mono ?_; rintro e w2 ⟨rfl, hb2⟩; rw [H.out]; obtain ⟨hc2, hf2⟩ := bcell hb2; have hz2 : w.heap.size + 1 < w2.heap.size := (by have := hb2.size; (try simp at this); omega); have hy2 : w.heap.size < w2.heap.size := (by omega)) | (go_at_call 48; refine (callOf_any v A n c b 0 _ HV.out HB.out HN.out ((HR.out.below (by (repeat' first | exact zbR _ _ | assumption | refine zbD ?_ | refine zbA ?_ ?_ _ | refine zbS ?_ ?_ _ | refine zbT ?_ (by assumption) ?_ | (simp; done) | (simp; omega) | omega))).mono (by first | (simp; done) | (simp; omega) | omega)) (by omega) (by omega)).mono ?_; rintro e w3 ⟨rfl, hb3⟩))
      go_ret2
      exact ⟨by rw [E1.out, E2.out]; rfl, by (repeat' first | exact zbR _ _ | assumption | refine zbD ?_ | refine zbA ?_ ?_ _ | refine zbS ?_ ?_ _ | refine zbT ?_ (by assumption) ?_ | (simp; done) | (simp; omega) | omega)⟩
  all_goals
    have E1 := hide (show L.callV v b = 0 by unfold L.callV; rw [if_neg (by omega)])
    have E2 := hide (show L.callE v b = L.checkBE v b by unfold L.callE; rw [if_neg (by omega)])
    have H := hide h
    clear h
    go_enter Try.func17, Try.ntmps17
    go_wp2_with (go_at_call 47; refine (check_any v A n c b _ HN.out ((HR.out.below (by (repeat' first | exact zbR _ _ | assumption | refine zbD ?_ | refine zbA ?_ ?_ _ | refine zbS ?_ ?_ _ | refine zbT ?_ (by assumption) ?_ | (simp; done) | (simp; omega) | omega))).mono (by first | (simp; done) | (simp; omega) | omega))).mono ?_; rintro e w2 ⟨rfl, hb2⟩; rw [H.out])
    go_ret2
    exact ⟨by rw [E1.out, E2.out, H.out]; rfl, by (repeat' first | exact zbR _ _ | assumption | refine zbD ?_ | refine zbA ?_ ?_ _ | refine zbS ?_ ?_ _ | refine zbT ?_ (by assumption) ?_ | (simp; done) | (simp; omega) | omega)⟩

set_option maxRecDepth 100000 in
set_option maxHeartbeats 3200000 in
theorem Decide_any (said : Int) (v : L.Vw) (A : Option Addr) (n c : Nat) (b : L.Bx) (w : World) (hn : v.ss.length = n) (hr : RdS w w.heap.size A v.ss) :
    Calls Try.prog 32 #[.int .i64 said, .agg #[.int .i64 v.size, .slice A n c, .int .i64 v.wrong, .int .i64 v.hxl, .int .i64 v.hxh, .int .i64 v.hyl, .int .i64 v.hyh], .agg #[.int .i64 b.l, .int .i64 b.r, .int .i64 b.b, .int .i64 b.t]] w fun e w' => e = .returned (.tuple #[.int .i64 (L.decV said v b), .bool (L.decK said v b), .int .i64 (L.decE said v b)]) ∧ Below w.heap.size w w' := by
  have HN := hide hn
  have HR := hide hr
  clear hn hr
  rcases L.checkBE_cases v b with h | h | h
  · obtain ⟨hv, hb⟩ := L.checkBE_ok h
    have HV := hide hv
    have HB := hide hb
    have H := hide h
    clear hv hb h
    cases hs : L.sure said
    · have E1 := hide (show L.decV said v b = 0 by unfold L.decV; rw [if_pos H.out, hs]; rfl)
      have E2 := hide (show L.decK said v b = false by unfold L.decK; rw [if_pos H.out, hs]; rfl)
      have E3 := hide (show L.decE said v b = 22 by unfold L.decE; rw [if_pos H.out, hs]; rfl)
      have HS := hide hs
      clear hs
      go_enter Try.func32, Try.ntmps32
      go_wp2_with (first | (go_at_call 47; refine (check_any v A n c b _ HN.out ((HR.out.below (by (repeat' first | exact zbR _ _ | assumption | refine zbD ?_ | refine zbA ?_ ?_ _ | refine zbS ?_ ?_ _ | refine zbT ?_ (by assumption) ?_ | (simp; done) | (simp; omega) | omega))).mono (by first | (simp; done) | (simp; omega) | omega))).mono ?_; rintro e w2 ⟨rfl, hb2⟩; rw [H.out]; obtain ⟨hc2, hf2⟩ := bcell hb2; have hz2 : w.heap.size + 1 < w2.heap.size := (by have := hb2.size; (try simp at this); omega); have hy2 : w.heap.size < w2.heap.size := (by omega)) | (go_at_call 54; refine (sure_any said _).mono ?_; rintro e w3 ⟨rfl, rfl⟩; rw [HS.out]))
      go_ret3
      exact ⟨by rw [E1.out, E2.out, E3.out]; rfl, by (repeat' first | exact zbR _ _ | assumption | refine zbD ?_ | refine zbA ?_ ?_ _ | refine zbS ?_ ?_ _ | refine zbT ?_ (by assumption) ?_ | (simp; done) | (simp; omega) | omega)⟩
    · cases hs2 : L.sure (L.callOf v b 0)
      · have E1 := hide (show L.decV said v b = said by unfold L.decV; rw [if_pos H.out, hs, hs2]; rfl)
        have E2 := hide (show L.decK said v b = true by unfold L.decK; rw [if_pos H.out, hs, hs2]; rfl)
        have E3 := hide (show L.decE said v b = 0 by unfold L.decE; rw [if_pos H.out, hs]; rfl)
        have HS := hide hs
        have HS2 := hide hs2
        clear hs hs2
        go_enter Try.func32, Try.ntmps32
        go_wp2_with (first | (go_at_call 47; refine (check_any v A n c b _ HN.out ((HR.out.below (by (repeat' first | exact zbR _ _ | assumption | refine zbD ?_ | refine zbA ?_ ?_ _ | refine zbS ?_ ?_ _ | refine zbT ?_ (by assumption) ?_ | (simp; done) | (simp; omega) | omega))).mono (by first | (simp; done) | (simp; omega) | omega))).mono ?_; rintro e w2 ⟨rfl, hb2⟩; rw [H.out]; obtain ⟨hc2, hf2⟩ := bcell hb2; have hz2 : w.heap.size + 1 < w2.heap.size := (by have := hb2.size; (try simp at this); omega); have hy2 : w.heap.size < w2.heap.size := (by omega)) | (go_at_call 54; refine (sure_any _ _).mono ?_; rintro e w3 ⟨rfl, rfl⟩; (first | rw [HS2.out] | rw [HS.out])) | (go_at_call 48; refine (callOf_any v A n c b 0 _ HV.out HB.out HN.out ((HR.out.below (by (repeat' first | exact zbR _ _ | assumption | refine zbD ?_ | refine zbA ?_ ?_ _ | refine zbS ?_ ?_ _ | refine zbT ?_ (by assumption) ?_ | (simp; done) | (simp; omega) | omega))).mono (by first | (simp; done) | (simp; omega) | omega)) (by omega) (by omega)).mono ?_; rintro e w3 ⟨rfl, hb3⟩))
        go_ret3
        exact ⟨by rw [E1.out, E2.out, E3.out]; rfl, by (repeat' first | exact zbR _ _ | assumption | refine zbD ?_ | refine zbA ?_ ?_ _ | refine zbS ?_ ?_ _ | refine zbT ?_ (by assumption) ?_ | (simp; done) | (simp; omega) | omega)⟩
      · have E1 := hide (show L.decV said v b = L.callOf v b 0 by unfold L.decV; rw [if_pos H.out, hs, hs2]; rfl)
        have E2 := hide (show L.decK said v b = (L.callOf v b 0 != said) by unfold L.decK; rw [if_pos H.out, hs, hs2]; rfl)
        have E3 := hide (show L.decE said v b = 0 by unfold L.decE; rw [if_pos H.out, hs]; rfl)
        have HS := hide hs
        have HS2 := hide hs2
        clear hs hs2
        go_enter Try.func32, Try.ntmps32
        go_wp2_with (first | (go_at_call 47; refine (check_any v A n c b _ HN.out ((HR.out.below (by (repeat' first | exact zbR _ _ | assumption | refine zbD ?_ | refine zbA ?_ ?_ _ | refine zbS ?_ ?_ _ | refine zbT ?_ (by assumption) ?_ | (simp; done) | (simp; omega) | omega))).mono (by first | (simp; done) | (simp; omega) | omega))).mono ?_; rintro e w2 ⟨rfl, hb2⟩; rw [H.out]; obtain ⟨hc2, hf2⟩ := bcell hb2; have hz2 : w.heap.size + 1 < w2.heap.size := (by have := hb2.size; (try simp at this); omega); have hy2 : w.heap.size < w2.heap.size := (by omega)) | (go_at_call 54; refine (sure_any _ _).mono ?_; rintro e w3 ⟨rfl, rfl⟩; (first | rw [HS2.out] | rw [HS.out])) | (go_at_call 48; refine (callOf_any v A n c b 0 _ HV.out HB.out HN.out ((HR.out.below (by (repeat' first | exact zbR _ _ | assumption | refine zbD ?_ | refine zbA ?_ ?_ _ | refine zbS ?_ ?_ _ | refine zbT ?_ (by assumption) ?_ | (simp; done) | (simp; omega) | omega))).mono (by first | (simp; done) | (simp; omega) | omega)) (by omega) (by omega)).mono ?_; rintro e w3 ⟨rfl, hb3⟩))
        go_ret3
        exact ⟨by rw [E1.out, E2.out, E3.out]; rfl, by (repeat' first | exact zbR _ _ | assumption | refine zbD ?_ | refine zbA ?_ ?_ _ | refine zbS ?_ ?_ _ | refine zbT ?_ (by assumption) ?_ | (simp; done) | (simp; omega) | omega)⟩
  all_goals
    have E1 := hide (show L.decV said v b = 0 by unfold L.decV; rw [if_neg (by omega)])
    have E2 := hide (show L.decK said v b = false by unfold L.decK; rw [if_neg (by omega)])
    have E3 := hide (show L.decE said v b = L.checkBE v b by unfold L.decE; rw [if_neg (by omega)])
    have H := hide h
    clear h
    go_enter Try.func32, Try.ntmps32
    go_wp2_with (go_at_call 47; refine (check_any v A n c b _ HN.out ((HR.out.below (by (repeat' first | exact zbR _ _ | assumption | refine zbD ?_ | refine zbA ?_ ?_ _ | refine zbS ?_ ?_ _ | refine zbT ?_ (by assumption) ?_ | (simp; done) | (simp; omega) | omega))).mono (by first | (simp; done) | (simp; omega) | omega))).mono ?_; rintro e w2 ⟨rfl, hb2⟩; rw [H.out])
    go_ret3
    exact ⟨by rw [E1.out, E2.out, E3.out, H.out]; rfl, by (repeat' first | exact zbR _ _ | assumption | refine zbD ?_ | refine zbA ?_ ?_ _ | refine zbS ?_ ?_ _ | refine zbT ?_ (by assumption) ?_ | (simp; done) | (simp; omega) | omega)⟩

end Go.Proofs.Ytgnobonhohfofaa

namespace Go.Proofs.Ytgnobonhohfofaa
namespace L

theorem far_nn (n lo hi : Int) : 0 ≤ far n lo hi := by unfold far; omega
theorem sq_le {a b : Int} (h0 : 0 ≤ a) (h : a ≤ b) : a * a ≤ b * b := Int.mul_le_mul h h h0 (by omega)
theorem touch_box {m : Mk} {b o : Bx} (hx : 0 ≤ m.hx) (hy : 0 ≤ m.hy) (h1 : o.l ≤ b.l) (h2 : b.r ≤ o.r) (h3 : o.b ≤ b.b) (h4 : b.t ≤ o.t) (h : touch m b = true) : touch m o = true := by
  unfold touch at h ⊢
  rw [decide_eq_true_eq] at h ⊢
  have a1 : far m.x o.l o.r ≤ far m.x b.l b.r := by unfold far; omega
  have a2 : far m.y o.b o.t ≤ far m.y b.b b.t := by unfold far; omega
  have b1 := sq_le (Int.mul_nonneg (far_nn m.x o.l o.r) hy) (Int.mul_le_mul_of_nonneg_right a1 hy)
  have b2 := sq_le (Int.mul_nonneg (far_nn m.y o.b o.t) hx) (Int.mul_le_mul_of_nonneg_right a2 hx)
  omega

theorem sq_mul (a b : Int) : a * b * (a * b) = a * a * (b * b) := by
  rw [Int.mul_assoc, Int.mul_assoc, Int.mul_left_comm b a b]
theorem axes_le {A B p q P Q : Int} (hA : 0 ≤ A) (hB : 0 ≤ B) (hp : 1 ≤ p) (hq : 1 ≤ q) (hP : p ≤ P) (hQ : q ≤ Q) (h : A * q + B * p ≤ p * q) : A * Q + B * P ≤ P * Q := by

  have e1 : A * Q * p ≤ A * Q * P := Int.mul_le_mul_of_nonneg_left hP (Int.mul_nonneg hA (by omega))
  have e2 : B * P * q ≤ B * P * Q := Int.mul_le_mul_of_nonneg_left hQ (Int.mul_nonneg hB (by omega))
  have h2 : (A * q + B * p) * (P * Q) ≤ p * q * (P * Q) := Int.mul_le_mul_of_nonneg_right h (Int.mul_nonneg (by omega) (by omega))
  have e3 : A * Q * p * q ≤ A * Q * P * q := Int.mul_le_mul_of_nonneg_right e1 (by omega)
  have e4 : B * P * q * p ≤ B * P * Q * p := Int.mul_le_mul_of_nonneg_right e2 (by omega)
  have key : (A * Q + B * P) * (p * q) ≤ P * Q * (p * q) := by
    have f1 : (A * Q + B * P) * (p * q) = A * Q * p * q + B * P * q * p := by
      rw [Int.add_mul, Int.mul_assoc (A * Q), ← Int.mul_assoc (A * Q), Int.mul_comm p q, ← Int.mul_assoc (B * P)]
    have f2 : (A * q + B * p) * (P * Q) = A * Q * P * q + B * P * Q * p := by
      rw [Int.add_mul]
      congr 1
      · rw [Int.mul_assoc A q, Int.mul_comm q (P * Q), Int.mul_comm P Q, ← Int.mul_assoc, ← Int.mul_assoc]
      · rw [Int.mul_assoc B p, Int.mul_comm p (P * Q), ← Int.mul_assoc, ← Int.mul_assoc]
    rw [f1, Int.mul_comm (P * Q)]
    rw [f2] at h2
    omega
  exact Int.le_of_mul_le_mul_right key (Int.mul_pos (by omega) (by omega))
theorem touch_axes {x y p q P Q : Int} {b : Bx} (hp : 1 ≤ p) (hq : 1 ≤ q) (hP : p ≤ P) (hQ : q ≤ Q) (h : touch ⟨x, y, p, q⟩ b = true) : touch ⟨x, y, P, Q⟩ b = true := by
  unfold touch at h ⊢
  rw [decide_eq_true_eq] at h ⊢
  dsimp only at h ⊢
  rw [sq_mul (far x b.l b.r) q, sq_mul (far y b.b b.t) p, sq_mul p q] at h
  rw [sq_mul (far x b.l b.r) Q, sq_mul (far y b.b b.t) P, sq_mul P Q]
  have hp1 : 1 ≤ p * p := by have := sq_le (a := 1) (b := p) (by omega) hp; omega
  have hq1 : 1 ≤ q * q := by have := sq_le (a := 1) (b := q) (by omega) hq; omega
  exact axes_le (A := far x b.l b.r * far x b.l b.r) (B := far y b.b b.t * far y b.b b.t) (p := p * p) (q := q * q) (P := P * P) (Q := Q * Q) (Int.mul_nonneg (far_nn _ _ _) (far_nn _ _ _)) (Int.mul_nonneg (far_nn _ _ _) (far_nn _ _ _)) hp1 hq1 (sq_le (by omega) hP) (sq_le (by omega) hQ) h

def inAt' (v : Vw) (b : Bx) (k : Int) : Prop := ∃ c ∈ tcents v k, touch ⟨c.1, c.2, v.hxh, v.hyh⟩ b = true
def outAt' (v : Vw) (b : Bx) (k : Int) : Prop := ∃ c ∈ tcents v k, touch ⟨c.1, c.2, v.hxl, v.hyl⟩ b = false
theorem hit1 (v : Vw) (b : Bx) (c : Int × Int) : hitAt v b 1 c = touch ⟨c.1, c.2, v.hxh, v.hyh⟩ b := by
  rw [hitAt_eq]; unfold hxOf hyOf; simp
theorem hit2 (v : Vw) (b : Bx) (c : Int × Int) : hitAt v b 2 c = !touch ⟨c.1, c.2, v.hxl, v.hyl⟩ b := by
  rw [hitAt_eq]; unfold hxOf hyOf; simp
theorem find1 (v : Vw) (b : Bx) (k : Int) : (findC v b k 1).isSome = true ↔ inAt' v b k := by
  unfold findC inAt'
  rw [List.find?_isSome]
  simp only [hit1]
theorem find2 (v : Vw) (b : Bx) (k : Int) : (findC v b k 2).isSome = true ↔ outAt' v b k := by
  unfold findC outAt'
  rw [List.find?_isSome]
  simp only [hit2, Bool.not_eq_true']
theorem call_cases (v : Vw) (b : Bx) (k : Int) : (callOf v b k = 0 ∧ ¬ inAt' v b k ∧ ¬ outAt' v b k) ∨ (callOf v b k = 1 ∧ inAt' v b k ∧ ¬ outAt' v b k) ∨ (callOf v b k = 2 ∧ ¬ inAt' v b k ∧ outAt' v b k) ∨ (callOf v b k = 3 ∧ inAt' v b k ∧ outAt' v b k) := by
  unfold callOf
  have h1 := find1 v b k
  have h2 := find2 v b k
  cases hi : (findC v b k 1).isSome <;> cases ho : (findC v b k 2).isSome <;> simp_all
theorem low_high {v : Vw} (hv : VwOk v) {b : Bx} {c : Int × Int} (h : touch ⟨c.1, c.2, v.hxl, v.hyl⟩ b = true) : touch ⟨c.1, c.2, v.hxh, v.hyh⟩ b = true :=
  touch_axes hv.x0 hv.y0 hv.xx hv.yy h
theorem call_zero {v : Vw} (hv : VwOk v) (b : Bx) (k : Int) : callOf v b k = 0 ↔ tcents v k = [] := by
  constructor
  · intro h
    rcases call_cases v b k with ⟨_, h1, h2⟩ | ⟨h', _⟩ | ⟨h', _⟩ | ⟨h', _⟩
    · cases ht : tcents v k with
      | nil => rfl
      | cons c r =>
        exfalso
        have hc : c ∈ tcents v k := by rw [ht]; simp
        cases hl : touch ⟨c.1, c.2, v.hxl, v.hyl⟩ b
        · exact h2 ⟨c, hc, hl⟩
        · exact h1 ⟨c, hc, low_high hv hl⟩
    all_goals omega
  · intro h
    rcases call_cases v b k with ⟨h', _⟩ | ⟨_, ⟨c, hc, _⟩, _⟩ | ⟨_, _, ⟨c, hc, _⟩⟩ | ⟨_, ⟨c, hc, _⟩, _⟩
    · exact h'
    all_goals (rw [h] at hc; cases hc)

theorem larger {v : Vw} (hv : VwOk v) {b o : Bx} (h1 : o.l ≤ b.l) (h2 : b.r ≤ o.r) (h3 : o.b ≤ b.b) (h4 : b.t ≤ o.t) (k : Int) :
    (callOf v b k = 0 ↔ callOf v o k = 0) ∧ (callOf v b k = 1 → callOf v o k = 1) ∧ (callOf v o k = 2 → callOf v b k = 2) := by
  have hi : inAt' v b k → inAt' v o k := fun ⟨c, hc, ht⟩ => ⟨c, hc, touch_box (by have := hv.x0; have := hv.xx; simp only; omega) (by have := hv.y0; have := hv.yy; simp only; omega) h1 h2 h3 h4 ht⟩
  have ho : outAt' v o k → outAt' v b k := fun ⟨c, hc, ht⟩ => ⟨c, hc, by
    cases hl : touch ⟨c.1, c.2, v.hxl, v.hyl⟩ b
    · rfl
    · have := touch_box (o := o) (by have := hv.x0; simp only; omega) (by have := hv.y0; simp only; omega) h1 h2 h3 h4 hl
      rw [ht] at this; cases this⟩
  refine ⟨by rw [call_zero hv, call_zero hv], fun h => ?_, fun h => ?_⟩
  · rcases call_cases v b k with ⟨e, _⟩ | ⟨_, a1, a2⟩ | ⟨e, _⟩ | ⟨e, _⟩ <;> rcases call_cases v o k with ⟨e', b1, b2⟩ | ⟨e', b1, b2⟩ | ⟨e', b1, b2⟩ | ⟨e', b1, b2⟩ <;> first | omega | exact (b1 (hi a1)).elim | exact (a2 (ho b2)).elim
  · rcases call_cases v o k with ⟨e, _⟩ | ⟨e, _⟩ | ⟨_, a1, a2⟩ | ⟨e, _⟩ <;> rcases call_cases v b k with ⟨e', b1, b2⟩ | ⟨e', b1, b2⟩ | ⟨e', b1, b2⟩ | ⟨e', b1, b2⟩ <;> first | omega | exact (b2 (ho a2)).elim | exact (a1 (hi b1)).elim
end L
end Go.Proofs.Ytgnobonhohfofaa

namespace Go.Proofs.Ytgnobonhohfofaa
open Go.RowKit
attribute [local go_sem ↓] Go.wp_at_zero Go.wp_at_succ

theorem blk_new2 {w : World} {X Y : Obj} : ((w.alloc X).alloc Y).heap[w.heap.size + 1]? = some Y := by
  have := World.alloc_heap_new (w.alloc X) Y
  rwa [World.size_alloc] at this
theorem L.wrongFrom_take {ss : List L.St} {k : Nat} {s : L.St} (x y : Int) (hk : ss[k]? = some s) : L.wrongFrom x y 0 (ss.take (k + 1)) = L.wrongFrom x y 0 (ss.take k) ++ (if L.off x y 0 s then [(k : Int)] else []) := by
  rw [List.take_add_one, hk, Option.toList_some, L.wrongFrom_append]
  have hl : (ss.take k).length = k := by rw [List.length_take]; have := (List.getElem?_eq_some_iff.1 hk).1; omega
  rw [hl, Nat.zero_add]
  simp only [L.wrongFrom]
theorem L.off_zero (x y : Int) (s : L.St) : L.off x y 0 s = !L.within (s.p * x + s.q * y) s.lo s.hi := by unfold L.off; rw [Int.sub_zero, Int.add_zero]

set_option maxRecDepth 100000 in
set_option maxHeartbeats 3200000 in
theorem refWrong_any (v : L.Vw) (A : Option Addr) (n c : Nat) (x y : Int) (w : World) (hn : v.ss.length = n) (hr : RdS w w.heap.size A v.ss) (ho : ∀ s ∈ v.ss, L.StOk s) (h8 : n ≤ 8) (hx0 : 0 ≤ x) (hx1 : x ≤ 40) (hy0 : 0 ≤ y) (hy1 : y ≤ 40) :
    Calls Try.prog 50 #[.agg #[.int .i64 v.size, .slice A n c, .int .i64 v.wrong, .int .i64 v.hxl, .int .i64 v.hxh, .int .i64 v.hyl, .int .i64 v.hyh], .int .i64 x, .int .i64 y] w fun e w' => ∃ sv c', e = .returned (.slice sv (L.wrongL v x y).length c') ∧ w'.ownsRow w.heap.size 3 1 (.slice sv (L.wrongL v x y).length c') (L.wrongL v x y).length (flatI (L.wrongL v x y)) ∧ Below w.heap.size w w' := by
  have HN := hide hn
  have HR := hide hr
  have HO := hide ho
  clear hn hr ho
  go_enter Try.func50, Try.ntmps50
  go_wp2
  go_loopw [7, 8] (fun m i wr => ∃ j : Nat, j ≤ n ∧ i = .int .i64 j ∧ (∃ sv c', m = .slice sv (L.wrongFrom x y 0 (v.ss.take j)).length c' ∧ Hid (wr.ownsRow (w.heap.size + 1) 3 1 (.slice sv (L.wrongFrom x y 0 (v.ss.take j)).length c') (L.wrongFrom x y 0 (v.ss.take j)).length (flatI (L.wrongFrom x y 0 (v.ss.take j))))) ∧ Below (w.heap.size + 1) (w.alloc (.cells #[.int .i64 v.size, .slice A n c, .int .i64 v.wrong, .int .i64 v.hxl, .int .i64 v.hxh, .int .i64 v.hyl, .int .i64 v.hyh] 26)) wr) (fun _ i _ => n - (intOf i).toNat)
  case atStart => exact ⟨0, by omega, rfl, ⟨none, 0, rfl, hide (World.ownsRow_nil _ _ _ _)⟩, by (repeat' first | exact zbR _ _ | assumption | refine zbD ?_ | refine zbA ?_ ?_ _ | refine zbS ?_ ?_ _ | refine zbT ?_ (by assumption) ?_ | (simp; done) | (simp; omega) | omega)⟩
  case round =>
    obtain ⟨j, hj, rfl, ⟨sv, c', rfl, hown⟩, hB⟩ := hrel
    have hBs := hB.size
    simp only [World.size_alloc] at hBs
    have hB0 : Below w.heap.size w wr := ((Below.refl _ w).alloc (Nat.le_refl _) _).trans (hB.mono (by omega))
    have k1 : wr.cell? ⟨w.heap.size, 1, none⟩ = some (.slice A n c) := (hB.cell (p := ⟨w.heap.size, 1, none⟩) (by show w.heap.size < _; omega)).trans (zcA _ _ _ _ rfl)
    have hm : (L.wrongFrom x y 0 (v.ss.take j)).length ≤ 8 := by
      rw [L.wrongFrom_length]; have := L.many_take_le v.ss j x y 0; omega
    by_cases hlt : j < n
    · obtain ⟨s, hs⟩ : ∃ s, v.ss[j]? = some s := ⟨_, List.getElem?_eq_getElem (by have := HN.out; omega)⟩
      obtain ⟨b, o, hA, hbB, d0, d1, d2, d3⟩ := (HR.out.below hB0) j s hs
      subst hA
      obtain ⟨p0, p1, q0, q1, l0, lh, h1⟩ := HO.out s (List.mem_of_getElem? hs)
      obtain ⟨m0, m1⟩ : -120 ≤ s.p * x ∧ s.p * x ≤ 120 := by have := L.mul_bd p0 p1 hx0 hx1; omega
      obtain ⟨m2, m3⟩ : -120 ≤ s.q * y ∧ s.q * y ≤ 120 := by have := L.mul_bd q0 q1 hy0 hy1; omega
      have HM := hide (L.wrongFrom_take x y hs)
      have HZ := hide (L.off_zero x y s)
      clear hs
      have hlt' : (j : Int) < (n : Int) := by omega
      have hj0 : (0 : Int) ≤ (j : Int) := by omega
      cases hv : L.within (s.p * x + s.q * y) s.lo s.hi
      · have HE : Hid (L.wrongFrom x y 0 (v.ss.take (j + 1)) = L.wrongFrom x y 0 (v.ss.take j) ++ [(j : Int)]) := hide (by rw [HM.out, HZ.out, hv]; rfl)
        have HL := hide (show (L.wrongFrom x y 0 (v.ss.take (j + 1))).length = (L.wrongFrom x y 0 (v.ss.take j)).length + 1 by rw [HE.out, List.length_append]; rfl)
        go_wp2_with (first | (go_at_call 57; refine (refWithin_any _ _ _ _).mono ?_; rintro e w3 ⟨rfl, rfl⟩; rw [hv]) | (refine wpList_app_at rfl (.tmp 37) (.tmp 39) rfl (w.heap.size + 1) _ (L.wrongFrom x y 0 (v.ss.take j)) _ rfl (owns_below hown.out (((Below.refl _ wr).alloc (Nat.le_refl _) _).alloc (by first | (simp; done) | (simp; omega) | omega) _)) (some ⟨wr.heap.size + 1, 0, none⟩) 1 1 [(j : Int)] rfl rfl (rdI_one blk_new2) (fun e => by cases e) (by omega) (by omega) (by first | (simp; done) | (simp; omega) | omega) ?_; intro A2 c2 w5 hown2 hgrow; have hg5 := grown_below (B := w.heap.size + 1) hgrow (by first | (simp; done) | (simp; omega) | omega) (fun g hg => (hown.out.lt g hg).1); have HO2 := hide hown2; clear hown2 hgrow))
        go_roundw
        case rel => exact ⟨j + 1, by omega, by go_num, ⟨A2, c2, by rw [HL.out], hide (by rw [HL.out, HE.out]; exact HO2.out)⟩, (hB.trans (((Below.refl _ wr).alloc (by omega) _).alloc (by simp; omega) _)).trans hg5⟩
        case measure => simp [intOf]; omega
      · have HE : Hid (L.wrongFrom x y 0 (v.ss.take (j + 1)) = L.wrongFrom x y 0 (v.ss.take j)) := hide (by rw [HM.out, HZ.out, hv]; simp)
        go_wp2_with (go_at_call 57; refine (refWithin_any _ _ _ _).mono ?_; rintro e w3 ⟨rfl, rfl⟩; rw [hv])
        go_roundw
        case rel => exact ⟨j + 1, by omega, by go_num, ⟨sv, c', by rw [HE.out], hide (by rw [HE.out]; exact owns_below hown.out ((Below.refl _ wr).alloc (Nat.le_refl _) _))⟩, by (repeat' first | exact zbR _ _ | assumption | refine zbD ?_ | refine zbA ?_ ?_ _ | refine zbS ?_ ?_ _ | refine zbT ?_ (by assumption) ?_ | (simp; done) | (simp; omega) | omega)⟩
        case measure => simp [intOf]; omega
    · have hjn : j = n := by omega
      subst hjn
      have HE : Hid (L.wrongFrom x y 0 (v.ss.take j) = L.wrongL v x y) := hide (by rw [List.take_of_length_le (by have := HN.out; omega)]; rfl)
      go_wp2_with fail
      go_ret
      refine ⟨sv, c', ?_, ?_, hB0⟩
      · rw [← HE.out]; rfl
      · rw [← HE.out]; exact owns_mono hown.out (by omega)

end Go.Proofs.Ytgnobonhohfofaa

namespace Go.Proofs.Ytgnobonhohfofaa
open Go.RowKit
attribute [local go_sem ↓] Go.wp_at_zero Go.wp_at_succ

def flatS (ss : List L.St) : List Value := ss.flatMap fun s => [.int .i64 s.p, .int .i64 s.q, .int .i64 s.lo, .int .i64 s.hi]
theorem flatS_length : ∀ ss : List L.St, (flatS ss).length = ss.length * 4
  | [] => rfl
  | s :: r => by
    have := flatS_length r
    simp only [flatS, List.flatMap_cons, List.length_append, List.length_cons, List.length_nil] at this ⊢
    omega
theorem flatS_at : ∀ {ss : List L.St} {k : Nat} {s : L.St}, ss[k]? = some s → (flatS ss)[k * 4]? = some (.int .i64 s.p) ∧ (flatS ss)[k * 4 + 1]? = some (.int .i64 s.q) ∧ (flatS ss)[k * 4 + 2]? = some (.int .i64 s.lo) ∧ (flatS ss)[k * 4 + 3]? = some (.int .i64 s.hi)
  | [], k, s, h => by simp at h
  | a :: r, 0, s, h => by
    have h' : a = s := Option.some.inj h
    subst h'
    exact ⟨rfl, rfl, rfl, rfl⟩
  | a :: r, k + 1, s, h => by
    have ih := flatS_at (ss := r) (k := k) (s := s) h
    have e : (k + 1) * 4 = k * 4 + 4 := by omega
    rw [e]
    exact ih
theorem flatS_one (ss : List L.St) : ∀ u ∈ flatS ss, u.oneCell' = true := by
  intro u hu
  simp only [flatS, List.mem_flatMap, List.mem_cons, List.not_mem_nil, or_false] at hu
  obtain ⟨s, _, rfl | rfl | rfl | rfl⟩ := hu <;> rfl
theorem flatS_app (a b : List L.St) : flatS (a ++ b) = flatS a ++ flatS b := by unfold flatS; simp
theorem flatS_cells {w : World} {B : Nat} {a : Addr} {ss : List L.St} (h : RdS w B (some a) ss) : ∀ j u, (flatS ss)[j]? = some u → w.cell? (a.add j) = some u := by
  intro j u hj
  have hl : j < ss.length * 4 := by rw [← flatS_length]; exact (List.getElem?_eq_some_iff.1 hj).1
  obtain ⟨s, hs⟩ : ∃ s, ss[j / 4]? = some s := ⟨_, List.getElem?_eq_getElem (by omega)⟩
  obtain ⟨b, o, e, _, c0, c1, c2, c3⟩ := h (j / 4) s hs
  injection e with e
  subst e
  obtain ⟨h0, h1, h2, h3⟩ := flatS_at hs
  rw [add_plain]
  obtain hm | hm | hm | hm : j % 4 = 0 ∨ j % 4 = 1 ∨ j % 4 = 2 ∨ j % 4 = 3 := by omega
  · have e : j / 4 * 4 = j := by omega
    rw [e] at h0 c0
    rw [hj] at h0
    rw [c0]; exact h0.symm
  · have e : j / 4 * 4 + 1 = j := by omega
    rw [e] at h1
    rw [Nat.add_assoc, e] at c1
    rw [hj] at h1
    rw [c1]; exact h1.symm
  · have e : j / 4 * 4 + 2 = j := by omega
    rw [e] at h2
    rw [Nat.add_assoc, Nat.add_assoc, e] at c2
    rw [hj] at h2
    rw [c2]; exact h2.symm
  · have e : j / 4 * 4 + 3 = j := by omega
    rw [e] at h3
    rw [Nat.add_assoc, Nat.add_assoc, Nat.add_assoc, e] at c3
    rw [hj] at h3
    rw [c3]; exact h3.symm
theorem owns_RdS {w : World} {base : Nat} {A : Option Addr} {n c : Nat} {ss : List L.St} (h : w.ownsRow base 54 4 (.slice A n c) n (flatS ss)) (hn : ss.length = n) : RdS w w.heap.size A ss := by
  intro k s hk
  have hkl : k < n := by rw [← hn]; exact (List.getElem?_eq_some_iff.1 hk).1
  obtain ⟨g, cap, e, hbg, hh⟩ := h.form (by omega)
  have e' : A = some ⟨g, 0, none⟩ ∧ c = cap := by
    simp only [Value.slice.injEq] at e
    exact ⟨e.1, e.2.2⟩
  obtain ⟨rfl, rfl⟩ := e'
  obtain ⟨h0, h1, h2, h3⟩ := flatS_at hk
  refine ⟨g, 0, rfl, (h.lt g rfl).2, ?_, ?_, ?_, ?_⟩
  · rw [Nat.zero_add, h.cellAt (k * 4) (by omega)]; exact h0
  · rw [Nat.zero_add, h.cellAt (k * 4 + 1) (by omega)]; exact h1
  · rw [Nat.zero_add, h.cellAt (k * 4 + 1 + 1) (by omega)]; exact h2
  · rw [Nat.zero_add, h.cellAt (k * 4 + 1 + 1 + 1) (by omega)]; exact h3
theorem strip_info : (Try.prog.info? 54).map (fun i => (i.zero, i.size, i.bytes)) = some (some (.agg #[.int .i64 0, .int .i64 0, .int .i64 0, .int .i64 0]), 4, 32) := by kernel_rfl
theorem RdS.none {w : World} {B : Nat} {ss : List L.St} (h : RdS w B none ss) : ss = [] := by
  match ss, h with
  | [], _ => rfl
  | x :: r, h => obtain ⟨_, _, e, _⟩ := h 0 x rfl; cases e
theorem owns_emptyS {w : World} {b : Nat} {base : Nat} (hb : w.heap[b]? = some (.cells #[] 54 (0, 0))) (hle : base ≤ b) : w.ownsRow base 54 4 (.slice (some ⟨b, 0, none⟩) 0 0) 0 (flatS []) :=
  ⟨rfl, .inr ⟨b, 0, #[], rfl, hle, hb, Nat.le_refl _, Nat.zero_le _, rfl, rfl⟩⟩

theorem run_app_strips {w : World} (ty : TypeId) (base : Nat) (v : Value) (ps : List L.St) (m0 : Nat) (hown : w.ownsRow base 54 4 v m0 (flatS ps))
    (A : Option Addr) (n c : Nat) (ss : List L.St) (hn : ss.length = n) (hr : RdS w w.heap.size A ss) (hA : A = none → c = 0) (h0 : m0 ≤ 1000) (h1 : n ≤ 1000) (hbase : base ≤ w.heap.size) :
    ∃ A' c' w', (Builtin.append_ #[22, 22] ty #[v, .slice A n c]).run Try.prog w = .ok (.slice A' (m0 + n) c') w' ∧ w'.ownsRow base 54 4 (.slice A' (m0 + n) c') (m0 + n) (flatS (ps ++ ss)) ∧ w.grownBy w' v.ownBlock := by
  obtain ⟨i, hi, hz0, hz1, hz2⟩ := info_parts strip_info
  rcases A with _ | ad
  · have hx0 : ss = [] := hr.none
    subst hx0
    have hn0 : n = 0 := by simpa using hn.symm
    subst hn0
    have hc0 := hA rfl
    subst hc0
    obtain ⟨A', c', rfl⟩ := own_form hown
    have hrun := run_append_owned_none (P := Try.prog) (w := w) base 22 ty 54 i 4 Try.underlying22 hi (.slice A' m0 c') m0 (flatS ps) hown
    exact ⟨A', c', w, hrun, by simpa using hown, World.grownBy.refl w _⟩
  · obtain ⟨v', w', hrun, h2, h3, _, _⟩ := run_append_own_at (P := Try.prog) w base 22 ty 54 i _ 4 32 Try.underlying22 hi hz0 hz1 hz2 (by rfl) (by decide) v m0 (flatS ps) hown ad n c (flatS ss) (by rw [flatS_length]; omega) (flatS_cells hr) (flatS_one ss) (by unfold maxLen; omega) (by omega) hbase
    obtain ⟨A', c', rfl⟩ := own_form h2
    exact ⟨A', c', w', hrun, by rw [flatS_app]; exact h2, h3⟩
theorem wpList_app_strips {w : World} {ops : Array Oper} {rest : List Oper} {o : Oper} {a : Act} {Q : Exit → Act → World → Prop} (hgd : o.guard = none) (s x : Operand)
    (ho : o.op = .call { callee := .builtin .append, args := #[s, x], argTypes := #[22, 22] }) (base : Nat) (v : Value) (ps : List L.St) (m0 : Nat) (hs : a.eval s = v) (hown : w.ownsRow base 54 4 v m0 (flatS ps))
    (A : Option Addr) (n c : Nat) (ss : List L.St) (hx : a.eval x = .slice A n c) (hn : ss.length = n) (hr : RdS w w.heap.size A ss) (hA : A = none → c = 0) (h0 : m0 ≤ 1000) (h1 : n ≤ 1000) (hbase : base ≤ w.heap.size) (N : Nat) (hN : m0 + n = N)
    (h : ∀ A' c' w', w'.ownsRow base 54 4 (.slice A' N c') N (flatS (ps ++ ss)) → w.grownBy w' v.ownBlock → wpList Try.prog ops Q rest (a.put o.dst (.slice A' N c')) w') :
    wpList Try.prog ops Q (o :: rest) a w := by
  subst hN
  refine wpList_plain hgd fun K hK => ?_
  obtain ⟨A', c', w', hr', h2, h3⟩ := run_app_strips o.type base v ps m0 hown A n c ss hn hr hA h0 h1 hbase
  unfold Oper.wp execOp
  simp only [ho, resolve, invoke, builtin, Sem.run_bind, Sem.run_pure, Result.andThen_ok, List.map_toArray, List.map_cons, List.map_nil, hs, hx, hr']
  exact hK _ _ (h A' c' w' h2 h3)

theorem blk_new4 {w : World} {X Y Z V : Obj} : ((((w.alloc X).alloc Y).alloc Z).alloc V).heap[w.heap.size + 1 + 1 + 1]? = some V := by
  have := World.alloc_heap_new (((w.alloc X).alloc Y).alloc Z) V
  rwa [World.size_alloc, World.size_alloc, World.size_alloc] at this

theorem copy_results {Z : World} {g : Nat} {x0 x1 x2 x3 x4 x5 x6 : Value} {cs tmps : Array Value} (h3 : Z.heap[g]? = some (.cells cs 26 (0, 0)))
    (e3 : cs = #[x0, x1, x2, x3, x4, x5, x6]) (t2 : tmps[2]? = some (.pointer (some ⟨g, 0, none⟩))) :
    (results Try.f26 tmps).run Try.prog Z = .ok (.agg #[x0, x1, x2, x3, x4, x5, x6]) Z := by
  subst e3
  have k0 : Z.cell? ⟨g, 0, none⟩ = some x0 := blk_cell h3 0
  have k1 : Z.cell? ⟨g, 1, none⟩ = some x1 := blk_cell h3 1
  have k2 : Z.cell? ⟨g, 2, none⟩ = some x2 := blk_cell h3 2
  have k3 : Z.cell? ⟨g, 3, none⟩ = some x3 := blk_cell h3 3
  have k4 : Z.cell? ⟨g, 4, none⟩ = some x4 := blk_cell h3 4
  have k5 : Z.cell? ⟨g, 5, none⟩ = some x5 := blk_cell h3 5
  have k6 : Z.cell? ⟨g, 6, none⟩ = some x6 := blk_cell h3 6
  simp [results, Try.results26, go_sem, t2, k0, k1, k2, k3, k4, k5, k6]

set_option maxRecDepth 100000 in
set_option maxHeartbeats 3200000 in
theorem Copy_any (v : L.Vw) (A : Option Addr) (n c : Nat) (w : World) (hn : v.ss.length = n) (hr : RdS w w.heap.size A v.ss) (hA : A = none → c = 0) (h40 : n ≤ 1000) :
    Calls Try.prog 26 #[.agg #[.int .i64 v.size, .slice A n c, .int .i64 v.wrong, .int .i64 v.hxl, .int .i64 v.hxh, .int .i64 v.hyl, .int .i64 v.hyh]] w fun e w' => ∃ A' c', e = .returned (.agg #[.int .i64 v.size, .slice A' n c', .int .i64 v.wrong, .int .i64 v.hxl, .int .i64 v.hxh, .int .i64 v.hyl, .int .i64 v.hyh]) ∧ w'.ownsRow w.heap.size 54 4 (.slice A' n c') n (flatS v.ss) ∧ Below w.heap.size w w' := by
  have HN := hide hn
  have HR := hide hr
  clear hn hr
  go_enter Try.func26, Try.ntmps26
  go_wp2_with (refine wpList_app_strips rfl (.tmp 5) (.tmp 7) rfl (w.heap.size + 1 + 1 + 1) _ [] 0 rfl (owns_emptyS blk_new4 (Nat.le_refl _)) A n c v.ss rfl HN.out ((HR.out.below (by (repeat' first | exact zbR _ _ | assumption | refine zbD ?_ | refine zbA ?_ ?_ _ | refine zbS ?_ ?_ _ | refine zbT ?_ (by assumption) ?_ | (simp; done) | (simp; omega) | omega))).mono (by first | (simp; done) | (simp; omega) | omega)) hA (by omega) h40 (by first | (simp; done) | (simp; omega) | omega) n (by omega) ?_; intro A' c' w5 hown hgrow; have hg5 := grown_below (B := w.heap.size + 1 + 1 + 1) hgrow (by first | (simp; done) | (simp; omega) | omega) (fun g hg => by cases hg; simp); have HO := hide hown; have q5 := hg5.size; (try simp only [World.size_alloc] at q5); have k3 := (hg5.block (w.heap.size + 1 + 1) (by omega)).trans ((Below.heap_alloc _ _ _ (by first | (simp; done) | (simp; omega))).trans ((congrArg _ (by simp)).trans (World.alloc_heap_new _ _))); have k2 := (hg5.block (w.heap.size + 1) (by omega)).trans ((Below.heap_alloc _ _ _ (by first | (simp; done) | (simp; omega))).trans ((Below.heap_alloc _ _ _ (by first | (simp; done) | (simp; omega))).trans ((congrArg _ (by simp)).trans (World.alloc_heap_new _ _)))); have c0 := (blk_cell k3 0).trans rfl; have f0 := blk_frozen k3 0; have d0 := (blk_cell k2 0).trans rfl; have g0 := blk_frozen k2 0; have c1 := (blk_cell k3 1).trans rfl; have f1 := blk_frozen k3 1; have d1 := (blk_cell k2 1).trans rfl; have g1 := blk_frozen k2 1; have c2 := (blk_cell k3 2).trans rfl; have f2 := blk_frozen k3 2; have d2 := (blk_cell k2 2).trans rfl; have g2 := blk_frozen k2 2; have c3 := (blk_cell k3 3).trans rfl; have f3 := blk_frozen k3 3; have d3 := (blk_cell k2 3).trans rfl; have g3 := blk_frozen k2 3; have c4 := (blk_cell k3 4).trans rfl; have f4 := blk_frozen k3 4; have d4 := (blk_cell k2 4).trans rfl; have g4 := blk_frozen k2 4; have c5 := (blk_cell k3 5).trans rfl; have f5 := blk_frozen k3 5; have d5 := (blk_cell k2 5).trans rfl; have g5 := blk_frozen k2 5; have c6 := (blk_cell k3 6).trans rfl; have f6 := blk_frozen k3 6; have d6 := (blk_cell k2 6).trans rfl; have g6 := blk_frozen k2 6; have z2 : w.heap.size + 1 < w5.heap.size := (by omega); have z3 : w.heap.size + 1 + 1 < w5.heap.size := (by omega); have K2 := hide k2; clear hown hgrow k2 k3)
  refine bodyPost_ret (v := .agg #[.int .i64 v.size, .slice A' n c', .int .i64 v.wrong, .int .i64 v.hxl, .int .i64 v.hxh, .int .i64 v.hyl, .int .i64 v.hyh]) (copy_results (blk_set (blk_set (blk_set (blk_set (blk_set (blk_set (blk_set (blk_other K2.out (by omega) 1 _) 0 _) 1 _) 2 _) 3 _) 4 _) 5 _) 6 _) rfl rfl) rfl ?_
  have hB5 : Below w.heap.size w w5 := by (repeat' first | exact zbR _ _ | assumption | refine zbD ?_ | refine zbA ?_ ?_ _ | refine zbS ?_ ?_ _ | refine zbT ?_ (by assumption) ?_ | (simp; done) | (simp; omega) | omega)
  have e0 : flatS ([] ++ v.ss) = flatS v.ss := by rw [List.nil_append]
  refine ⟨A', c', rfl, ?_, ?_⟩
  · rw [← e0]
    exact owns_mono (ownsRow_setCell_below (ownsRow_setCell_below (ownsRow_setCell_below (ownsRow_setCell_below (ownsRow_setCell_below (ownsRow_setCell_below (ownsRow_setCell_below (ownsRow_setCell_below (HO.out) (show w.heap.size + 1 + 1 < w.heap.size + 1 + 1 + 1 by omega) _) (show w.heap.size + 1 < w.heap.size + 1 + 1 + 1 by omega) _) (show w.heap.size + 1 < w.heap.size + 1 + 1 + 1 by omega) _) (show w.heap.size + 1 < w.heap.size + 1 + 1 + 1 by omega) _) (show w.heap.size + 1 < w.heap.size + 1 + 1 + 1 by omega) _) (show w.heap.size + 1 < w.heap.size + 1 + 1 + 1 by omega) _) (show w.heap.size + 1 < w.heap.size + 1 + 1 + 1 by omega) _) (show w.heap.size + 1 < w.heap.size + 1 + 1 + 1 by omega) _) (by omega)
  · exact zbS (zbS (zbS (zbS (zbS (zbS (zbS (zbS (hB5) (show w.heap.size ≤ w.heap.size + 1 + 1 by omega) _) (show w.heap.size ≤ w.heap.size + 1 by omega) _) (show w.heap.size ≤ w.heap.size + 1 by omega) _) (show w.heap.size ≤ w.heap.size + 1 by omega) _) (show w.heap.size ≤ w.heap.size + 1 by omega) _) (show w.heap.size ≤ w.heap.size + 1 by omega) _) (show w.heap.size ≤ w.heap.size + 1 by omega) _) (show w.heap.size ≤ w.heap.size + 1 by omega) _

end Go.Proofs.Ytgnobonhohfofaa

namespace Go.Proofs.Ytgnobonhohfofaa
open Go.RowKit
attribute [local go_sem ↓] Go.wp_at_zero Go.wp_at_succ

namespace L
def touE (m : Mk) (b : Bx) : Int := if boxB b then (if markB m 40 1 9 1 9 then 0 else 22) else 21
def touV (m : Mk) (b : Bx) : Bool := boxB b && (markB m 40 1 9 1 9 && touch m b)
theorem markB_ok {m : Mk} (h : markB m 40 1 9 1 9 = true) : MkOk m := by
  unfold markB within at h
  simp only [Bool.and_eq_true, decide_eq_true_eq] at h
  obtain ⟨⟨⟨⟨a, b⟩, c, d⟩, e, f⟩, g, i⟩ := h
  exact ⟨a, b, c, d, e, f, g, i⟩
def showE (v : Vw) (b : Bx) (call : Int) : Int := if checkBE v b = 0 then (if sure call then (if (findC v b 0 call).isSome then 0 else 3) else 22) else checkBE v b
def showM (v : Vw) (b : Bx) (call : Int) : Mk := if checkBE v b = 0 then (if sure call then foundM v b 0 call else ⟨0, 0, 0, 0⟩) else ⟨0, 0, 0, 0⟩
theorem found_none {v : Vw} {b : Bx} {k call : Int} (h : (findC v b k call).isSome = false) : foundM v b k call = ⟨0, 0, 0, 0⟩ := by
  unfold foundM
  cases hf : findC v b k call
  · rfl
  · rw [hf] at h; cases h
end L

set_option maxRecDepth 100000 in
set_option maxHeartbeats 800000 in
theorem Touches_any (m : L.Mk) (b : L.Bx) (w : World) :
    Calls Try.prog 19 #[.agg #[.int .i64 m.x, .int .i64 m.y, .int .i64 m.hx, .int .i64 m.hy], .agg #[.int .i64 b.l, .int .i64 b.r, .int .i64 b.b, .int .i64 b.t]] w fun e w' => e = .returned (.tuple #[.bool (L.touV m b), .int .i64 (L.touE m b)]) ∧ Below w.heap.size w w' := by
  cases hb : L.boxB b
  · have E1 := hide (show L.touV m b = false by unfold L.touV; rw [hb]; rfl)
    have E2 := hide (show L.touE m b = 21 by unfold L.touE; rw [hb]; rfl)
    have HB := hide hb
    clear hb
    go_enter Try.func19, Try.ntmps19
    go_wp2_with (go_at_call 51; refine (validBox_any b _).mono ?_; rintro e w2 ⟨rfl, hb2⟩; rw [HB.out]; obtain ⟨hc2, hf2⟩ := bcell hb2; have q2 := hb2.size; (try simp only [World.size_alloc] at q2); have z2_0 : w.heap.size < w2.heap.size := (by omega); have z2_1 : w.heap.size + 1 < w2.heap.size := (by omega))
    go_ret2
    exact ⟨by rw [E1.out, E2.out]; rfl, by (repeat' first | exact zbR _ _ | assumption | refine zbD ?_ | refine zbA ?_ ?_ _ | refine zbS ?_ ?_ _ | refine zbT ?_ (by assumption) ?_ | (simp; done) | (simp; omega) | omega)⟩
  cases hm : L.markB m 40 1 9 1 9
  · have E1 := hide (show L.touV m b = false by unfold L.touV; rw [hb, hm]; rfl)
    have E2 := hide (show L.touE m b = 22 by unfold L.touE; rw [hb, hm]; rfl)
    have HB := hide hb
    have HM := hide hm
    clear hb hm
    go_enter Try.func19, Try.ntmps19
    go_wp2_with (first | (go_at_call 51; refine (validBox_any b _).mono ?_; rintro e w2 ⟨rfl, hb2⟩; rw [HB.out]; obtain ⟨hc2, hf2⟩ := bcell hb2; have q2 := hb2.size; (try simp only [World.size_alloc] at q2); have z2_0 : w.heap.size < w2.heap.size := (by omega); have z2_1 : w.heap.size + 1 < w2.heap.size := (by omega)) | (go_at_call 52; refine (markWithin_any m 40 1 9 1 9 _).mono ?_; rintro e w3 ⟨rfl, hb3⟩; rw [HM.out]; obtain ⟨hc3, hf3⟩ := bcell hb3; have q3 := hb3.size; (try simp only [World.size_alloc] at q3); have z3_0 : w.heap.size < w3.heap.size := (by omega); have z3_1 : w.heap.size + 1 < w3.heap.size := (by omega)))
    go_ret2
    exact ⟨by rw [E1.out, E2.out]; rfl, by (repeat' first | exact zbR _ _ | assumption | refine zbD ?_ | refine zbA ?_ ?_ _ | refine zbS ?_ ?_ _ | refine zbT ?_ (by assumption) ?_ | (simp; done) | (simp; omega) | omega)⟩
  · have E1 := hide (show L.touV m b = L.touch m b by unfold L.touV; rw [hb, hm]; rfl)
    have E2 := hide (show L.touE m b = 0 by unfold L.touE; rw [hb, hm]; rfl)
    have HB := hide hb
    have HM := hide hm
    clear hb hm
    go_enter Try.func19, Try.ntmps19
    go_wp2_with (first | (go_at_call 51; refine (validBox_any b _).mono ?_; rintro e w2 ⟨rfl, hb2⟩; rw [HB.out]; obtain ⟨hc2, hf2⟩ := bcell hb2; have q2 := hb2.size; (try simp only [World.size_alloc] at q2); have z2_0 : w.heap.size < w2.heap.size := (by omega); have z2_1 : w.heap.size + 1 < w2.heap.size := (by omega)) | (go_at_call 52; refine (markWithin_any m 40 1 9 1 9 _).mono ?_; rintro e w3 ⟨rfl, hb3⟩; rw [HM.out]; obtain ⟨hc3, hf3⟩ := bcell hb3; have q3 := hb3.size; (try simp only [World.size_alloc] at q3); have z3_0 : w.heap.size < w3.heap.size := (by omega); have z3_1 : w.heap.size + 1 < w3.heap.size := (by omega)) | (go_at_call 53; refine (touches_any m b _ (L.boxB_ok HB.out) (L.markB_ok HM.out)).mono ?_; rintro e w4 ⟨rfl, hb4⟩; obtain ⟨hc4, hf4⟩ := bcell hb4; have q4 := hb4.size; (try simp only [World.size_alloc] at q4); have z4_0 : w.heap.size < w4.heap.size := (by omega); have z4_1 : w.heap.size + 1 < w4.heap.size := (by omega)))
    go_ret2
    exact ⟨by rw [E1.out, E2.out]; rfl, by (repeat' first | exact zbR _ _ | assumption | refine zbD ?_ | refine zbA ?_ ?_ _ | refine zbS ?_ ?_ _ | refine zbT ?_ (by assumption) ?_ | (simp; done) | (simp; omega) | omega)⟩

end Go.Proofs.Ytgnobonhohfofaa

namespace Go.Proofs.Ytgnobonhohfofaa
open Go.RowKit
attribute [local go_sem ↓] Go.wp_at_zero Go.wp_at_succ

theorem ret_int {k : IntKind} {a b : Int} (h : a = b) : Ending.returned (.int k a) = .returned (.int k b) := by rw [h]
theorem refFar_any (n lo hi : Int) (w : World) (h0 : 0 ≤ n) (h1 : n ≤ 40) (h2 : 0 ≤ lo) (h3 : lo ≤ 40) (h4 : 0 ≤ hi) (h5 : hi ≤ 40) :
    Calls Try.prog 56 #[.int .i64 n, .int .i64 lo, .int .i64 hi] w fun e w' => e = .returned (.int .i64 (L.far n lo hi)) ∧ w' = w := by
  go_enter Try.func56, Try.ntmps56
  go_wp2
  all_goals
    go_ret
    exact ⟨ret_int (by unfold L.far; (try simp only [Array.getD_eq_getD_getElem?]); omega), rfl⟩

set_option maxHeartbeats 1600000 in
theorem refTouch_any (m : L.Mk) (b : L.Bx) (w : World) (hb : L.BxOk b) (hm : L.MkOk m) :
    Calls Try.prog 21 #[.agg #[.int .i64 m.x, .int .i64 m.y, .int .i64 m.hx, .int .i64 m.hy], .agg #[.int .i64 b.l, .int .i64 b.r, .int .i64 b.b, .int .i64 b.t]] w fun e w' => e = .returned (.bool (L.touch m b)) ∧ Below w.heap.size w w' := by
  obtain ⟨l0, lr, r1, b0, bt, t1⟩ := hb
  obtain ⟨x0, x1, y0, y1, p0, p1, q0, q1⟩ := hm
  obtain ⟨r0, r2⟩ := L.far_bd (d := L.far m.x b.l b.r) rfl x0 x1 l0 lr r1
  obtain ⟨s0, s1⟩ := L.far_bd (d := L.far m.y b.b b.t) rfl y0 y1 b0 bt t1
  obtain ⟨a1, a2⟩ : 0 ≤ (L.far m.x b.l b.r) * (L.far m.x b.l b.r) ∧ (L.far m.x b.l b.r) * (L.far m.x b.l b.r) ≤ 1600 := L.mul_in r0 r2 r0 r2
  obtain ⟨a3, a4⟩ : 0 ≤ (L.far m.x b.l b.r) * (L.far m.x b.l b.r) * m.hy ∧ (L.far m.x b.l b.r) * (L.far m.x b.l b.r) * m.hy ≤ 14400 := L.mul_in a1 a2 (by omega) q1
  obtain ⟨a5, a6⟩ : 0 ≤ (L.far m.x b.l b.r) * (L.far m.x b.l b.r) * m.hy * m.hy ∧ (L.far m.x b.l b.r) * (L.far m.x b.l b.r) * m.hy * m.hy ≤ 129600 := L.mul_in a3 a4 (by omega) q1
  obtain ⟨c1, c2⟩ : 0 ≤ (L.far m.y b.b b.t) * (L.far m.y b.b b.t) ∧ (L.far m.y b.b b.t) * (L.far m.y b.b b.t) ≤ 1600 := L.mul_in s0 s1 s0 s1
  obtain ⟨c3, c4⟩ : 0 ≤ (L.far m.y b.b b.t) * (L.far m.y b.b b.t) * m.hx ∧ (L.far m.y b.b b.t) * (L.far m.y b.b b.t) * m.hx ≤ 14400 := L.mul_in c1 c2 (by omega) p1
  obtain ⟨c5, c6⟩ : 0 ≤ (L.far m.y b.b b.t) * (L.far m.y b.b b.t) * m.hx * m.hx ∧ (L.far m.y b.b b.t) * (L.far m.y b.b b.t) * m.hx * m.hx ≤ 129600 := L.mul_in c3 c4 (by omega) p1
  obtain ⟨e1, e2⟩ : 0 ≤ m.hx * m.hx ∧ m.hx * m.hx ≤ 81 := L.mul_in (by omega) p1 (by omega) p1
  obtain ⟨e3, e4⟩ : 0 ≤ m.hx * m.hx * m.hy ∧ m.hx * m.hx * m.hy ≤ 729 := L.mul_in e1 e2 (by omega) q1
  obtain ⟨e5, e6⟩ : 0 ≤ m.hx * m.hx * m.hy * m.hy ∧ m.hx * m.hx * m.hy * m.hy ≤ 6561 := L.mul_in e3 e4 (by omega) q1
  have HE := hide (show L.touch m b = decide ((L.far m.x b.l b.r) * (L.far m.x b.l b.r) * m.hy * m.hy + (L.far m.y b.b b.t) * (L.far m.y b.b b.t) * m.hx * m.hx ≤ m.hx * m.hx * m.hy * m.hy) by unfold L.touch; rw [L.sq_mul, L.sq_mul (L.far m.y b.b b.t), L.sq_mul m.hx, Int.mul_assoc ((L.far m.x b.l b.r) * (L.far m.x b.l b.r)), Int.mul_assoc ((L.far m.y b.b b.t) * (L.far m.y b.b b.t)), Int.mul_assoc (m.hx * m.hx)])
  go_enter Try.func21, Try.ntmps21
  go_upto_region 1 with fail
  go_quiet ((go_at_call 56; exact Calls.quiet_of_same (refFar_any _ _ _ _ (by omega) (by omega) (by omega) (by omega) (by omega) (by omega))))
  all_goals
    go_wp2
    go_ret
    exact ⟨by rw [HE.out]; rfl, below_drewN (by (repeat' first | exact zbR _ _ | assumption | refine zbD ?_ | refine zbA ?_ ?_ _ | refine zbS ?_ ?_ _ | refine zbT ?_ (by assumption) ?_ | (simp; done) | (simp; omega) | omega)) _⟩

end Go.Proofs.Ytgnobonhohfofaa

namespace Go.Proofs.Ytgnobonhohfofaa
open Go

theorem drop_get {α : Type} {l rest : List α} {x : α} : ∀ {i : Nat}, l.drop i = x :: rest → l.toArray[i]? = some x := by
  intro i h
  have : l[i]? = some x := by
    have := congrArg List.head? h
    simpa [List.head?_drop] using this
  simpa using this

theorem takeL {P : Program} {md : Region.Mode} {l rest : List Oper} {Q : Exit → Act → World → Prop} {S : World → Prop} {oi : Oper} {v : Value} {fuel : Nat} {listed : Array Bool} {a : Act} {w : World} (i : Nat) (hi : l.drop i = oi :: rest)
    (hs : Region.noSelect l.toArray = true) (hf : Region.free md l.toArray listed i = true) (hr : (Region.ready md l.toArray listed).contains i = true)
    (hQ : ∀ c a w, Q (.panic c) (a.put oi.dst v) w → Q (.panic c) a w) (hy : YieldsIf P l.toArray S oi v a) (hS : S w)
    (h : wpAnyH P md l.toArray Q S fuel (listed.setIfInBounds i true) (a.put oi.dst v) w) : wpAnyH P md l.toArray Q S (fuel + 1) listed a w :=
  wpAnyH_take (drop_get hi) hs hf hr hQ hy hS h

theorem tL {P : Program} {md : Region.Mode} {l rest : List Oper} {Q : Exit → Act → World → Prop} {S : World → Prop} {oi : Oper} {v : Value} {fuel : Nat} {listed : Array Bool} {a : Act} {w : World} (i : Nat) (hi : l.drop i = oi :: rest)
    (hb : (Region.noSelect l.toArray && Region.free md l.toArray listed i && (Region.ready md l.toArray listed).contains i) = true)
    (hQ : ∀ c a w, Q (.panic c) (a.put oi.dst v) w → Q (.panic c) a w) (hy : YieldsIf P l.toArray S oi v a) (hS : S w)
    (h : wpAnyH P md l.toArray Q S fuel (listed.setIfInBounds i true) (a.put oi.dst v) w) : wpAnyH P md l.toArray Q S (fuel + 1) listed a w := by
  rw [Bool.and_eq_true, Bool.and_eq_true] at hb
  exact takeL i hi hb.1.1 hb.1.2 hb.2 hQ hy hS h
theorem zl {α : Type} (l : List α) (i : Nat) (a : α) : l.toArray.setIfInBounds i a = (l.set i a).toArray := List.setIfInBounds_toArray l i a
theorem z0 {α : Type} {x : α} {xs : List α} {a : α} : (x :: xs).set 0 a = a :: xs := List.set_cons_zero
theorem z1 {α : Type} {x : α} {xs : List α} {i : Nat} {a : α} : (x :: xs).set (i + 1) a = x :: xs.set i a := List.set_cons_succ

theorem consL {P : Program} {md : Region.Mode} {l rest : List Oper} {Q : Exit → Act → World → Prop} {S : World → Prop} {fuel : Nat} {listed : Array Bool} {a : Act} {w : World} {o : Oper} {rs : List Nat} (i : Nat) (ho : l.drop i = o :: rest)
    (h : ∀ K' : Act → World → Prop, Shut (∀ a w, S w → (S w → wpAnyH P md l.toArray Q S fuel (listed.setIfInBounds i true) a w) → K' a w) → if Region.wanted o (yielded l.toArray a.tmps) = true then Oper.wp P o a w K' Q else K' (a.put o.dst undef) w)
    (hs : AllReadyH P md l.toArray Q S fuel listed a w rs) : AllReadyH P md l.toArray Q S fuel listed a w (i :: rs) :=
  AllReadyH.cons (drop_get ho) h hs

end Go.Proofs.Ytgnobonhohfofaa

namespace Go.Proofs.Ytgnobonhohfofaa
open Go.RowKit
attribute [local go_sem ↓] Go.wp_at_zero Go.wp_at_succ

def L.isMarkB (v : L.Vw) (m : L.Mk) : Bool := L.markB m v.size v.hxl v.hxh v.hyl v.hyh
def L.truthB (v : L.Vw) (m : L.Mk) : Bool := L.isMarkB v m && decide (((L.wrongL v m.x m.y).length : Int) ≤ v.wrong)
theorem L.isMark_bd {v : L.Vw} (hv : L.VwOk v) {m : L.Mk} (h : L.isMarkB v m = true) : L.MkOk m ∧ m.x ≤ v.size ∧ m.y ≤ v.size := by
  unfold L.isMarkB L.markB L.within at h
  simp only [Bool.and_eq_true, decide_eq_true_eq] at h
  obtain ⟨⟨⟨⟨a, b⟩, c, d⟩, e, f⟩, g, i⟩ := h
  have := hv.s1; have := hv.x0; have := hv.x1; have := hv.y0; have := hv.y1; have := hv.xx; have := hv.yy
  exact ⟨⟨a, by omega, c, by omega, by omega, by omega, by omega, by omega⟩, b, d⟩

set_option maxRecDepth 100000 in
set_option maxHeartbeats 3200000 in
theorem isTruth_any (v : L.Vw) (A : Option Addr) (n c : Nat) (m : L.Mk) (w : World) (hv : L.VwOk v) (hn : v.ss.length = n) (hr : RdS w w.heap.size A v.ss) :
    Calls Try.prog 18 #[.agg #[.int .i64 v.size, .slice A n c, .int .i64 v.wrong, .int .i64 v.hxl, .int .i64 v.hxh, .int .i64 v.hyl, .int .i64 v.hyh], .agg #[.int .i64 m.x, .int .i64 m.y, .int .i64 m.hx, .int .i64 m.hy]] w fun e w' => e = .returned (.bool (L.truthB v m)) ∧ Below w.heap.size w w' := by
  have HN := hide hn
  have HR := hide hr
  have HV := hide hv
  clear hn hr hv
  cases hm : L.isMarkB v m
  · have HE := hide (show L.truthB v m = false by unfold L.truthB; rw [hm]; rfl)
    have HM := hide (show L.markB m v.size v.hxl v.hxh v.hyl v.hyh = false from hm)
    clear hm
    go_enter Try.func18, Try.ntmps18
    go_upto_region 1 with fail
    obtain ⟨W0, hW0⟩ : ∃ W0, (w.alloc (.cells #[.int .i64 v.size, .slice A n c, .int .i64 v.wrong, .int .i64 v.hxl, .int .i64 v.hxh, .int .i64 v.hyl, .int .i64 v.hyh] 26)).alloc (.cells #[.int .i64 m.x, .int .i64 m.y, .int .i64 m.hx, .int .i64 m.hy] 30) = W0 := ⟨_, rfl⟩
    rw [hW0]
    obtain ⟨p, hp⟩ : ∃ p, w.heap.size = p := ⟨_, rfl⟩
    obtain ⟨q, hq⟩ : ∃ q, w.heap.size + 1 = q := ⟨_, rfl⟩
    have hS : (fun w' => Below W0.heap.size W0 w' ∧ p < w'.heap.size ∧ q < w'.heap.size ∧ w'.cell? ⟨p, 0, none⟩ = some (.int .i64 v.size) ∧ w'.cell? ⟨p, 1, none⟩ = some (.slice A n c) ∧ w'.cell? ⟨p, 2, none⟩ = some (.int .i64 v.wrong) ∧ w'.cell? ⟨p, 3, none⟩ = some (.int .i64 v.hxl) ∧ w'.cell? ⟨p, 4, none⟩ = some (.int .i64 v.hxh) ∧ w'.cell? ⟨p, 5, none⟩ = some (.int .i64 v.hyl) ∧ w'.cell? ⟨p, 6, none⟩ = some (.int .i64 v.hyh) ∧ w'.cell? ⟨q, 0, none⟩ = some (.int .i64 m.x) ∧ w'.cell? ⟨q, 1, none⟩ = some (.int .i64 m.y) ∧ w'.cell? ⟨q, 2, none⟩ = some (.int .i64 m.hx) ∧ w'.cell? ⟨q, 3, none⟩ = some (.int .i64 m.hy)) W0 := by
      rw [← hW0, ← hp, ← hq]
      refine ⟨Below.refl _ _, (by first | (simp; done) | (simp; omega) | omega), (by first | (simp; done) | (simp; omega) | omega), (zcP _ _ _ (by first | (simp; done) | (simp; omega) | omega)).trans (zcA _ _ _ _ rfl), (zcP _ _ _ (by first | (simp; done) | (simp; omega) | omega)).trans (zcA _ _ _ _ rfl), (zcP _ _ _ (by first | (simp; done) | (simp; omega) | omega)).trans (zcA _ _ _ _ rfl), (zcP _ _ _ (by first | (simp; done) | (simp; omega) | omega)).trans (zcA _ _ _ _ rfl), (zcP _ _ _ (by first | (simp; done) | (simp; omega) | omega)).trans (zcA _ _ _ _ rfl), (zcP _ _ _ (by first | (simp; done) | (simp; omega) | omega)).trans (zcA _ _ _ _ rfl), (zcP _ _ _ (by first | (simp; done) | (simp; omega) | omega)).trans (zcA _ _ _ _ rfl), zcA _ _ _ _ (by simp), zcA _ _ _ _ (by simp), zcA _ _ _ _ (by simp), zcA _ _ _ _ (by simp)⟩
    have hs0 : W0.heap.size = w.heap.size + 1 + 1 := by rw [← hW0]; simp
    have hb0 : Below w.heap.size w W0 := by rw [← hW0]; (repeat' first | exact zbR _ _ | assumption | refine zbD ?_ | refine zbA ?_ ?_ _ | refine zbS ?_ ?_ _ | refine zbT ?_ (by assumption) ?_ | (simp; done) | (simp; omega) | omega)
    rw [hq, hp]
    have hq' : q = p + 1 := by omega
    have HP := hide hp
    have HB0 := hide hb0
    have HS0 := hide hs0
    have HQ := hide hq'
    clear hW0 hp hq hb0 hs0 hq'
    have hkeep : ∀ u u' : World, Below u.heap.size u u' → (Below W0.heap.size W0 u ∧ p < u.heap.size ∧ q < u.heap.size ∧ u.cell? ⟨p, 0, none⟩ = some (.int .i64 v.size) ∧ u.cell? ⟨p, 1, none⟩ = some (.slice A n c) ∧ u.cell? ⟨p, 2, none⟩ = some (.int .i64 v.wrong) ∧ u.cell? ⟨p, 3, none⟩ = some (.int .i64 v.hxl) ∧ u.cell? ⟨p, 4, none⟩ = some (.int .i64 v.hxh) ∧ u.cell? ⟨p, 5, none⟩ = some (.int .i64 v.hyl) ∧ u.cell? ⟨p, 6, none⟩ = some (.int .i64 v.hyh) ∧ u.cell? ⟨q, 0, none⟩ = some (.int .i64 m.x) ∧ u.cell? ⟨q, 1, none⟩ = some (.int .i64 m.y) ∧ u.cell? ⟨q, 2, none⟩ = some (.int .i64 m.hx) ∧ u.cell? ⟨q, 3, none⟩ = some (.int .i64 m.hy)) → (Below W0.heap.size W0 u' ∧ p < u'.heap.size ∧ q < u'.heap.size ∧ u'.cell? ⟨p, 0, none⟩ = some (.int .i64 v.size) ∧ u'.cell? ⟨p, 1, none⟩ = some (.slice A n c) ∧ u'.cell? ⟨p, 2, none⟩ = some (.int .i64 v.wrong) ∧ u'.cell? ⟨p, 3, none⟩ = some (.int .i64 v.hxl) ∧ u'.cell? ⟨p, 4, none⟩ = some (.int .i64 v.hxh) ∧ u'.cell? ⟨p, 5, none⟩ = some (.int .i64 v.hyl) ∧ u'.cell? ⟨p, 6, none⟩ = some (.int .i64 v.hyh) ∧ u'.cell? ⟨q, 0, none⟩ = some (.int .i64 m.x) ∧ u'.cell? ⟨q, 1, none⟩ = some (.int .i64 m.y) ∧ u'.cell? ⟨q, 2, none⟩ = some (.int .i64 m.hx) ∧ u'.cell? ⟨q, 3, none⟩ = some (.int .i64 m.hy)) := by
      rintro u u' hb ⟨hB, l_p, l_q, k0, k1, k2, k3, k4, k5, k6, k7, k8, k9, k10⟩
      exact ⟨hB.trans (hb.mono hB.size), Nat.lt_of_lt_of_le l_p hb.size, Nat.lt_of_lt_of_le l_q hb.size, (hb.cell (p := ⟨p, 0, none⟩) l_p).trans k0, (hb.cell (p := ⟨p, 1, none⟩) l_p).trans k1, (hb.cell (p := ⟨p, 2, none⟩) l_p).trans k2, (hb.cell (p := ⟨p, 3, none⟩) l_p).trans k3, (hb.cell (p := ⟨p, 4, none⟩) l_p).trans k4, (hb.cell (p := ⟨p, 5, none⟩) l_p).trans k5, (hb.cell (p := ⟨p, 6, none⟩) l_p).trans k6, (hb.cell (p := ⟨q, 0, none⟩) l_q).trans k7, (hb.cell (p := ⟨q, 1, none⟩) l_q).trans k8, (hb.cell (p := ⟨q, 2, none⟩) l_q).trans k9, (hb.cell (p := ⟨q, 3, none⟩) l_q).trans k10⟩
    dsimp only at hS
    refine wp_region_held_drew (S := (fun w' => Below W0.heap.size W0 w' ∧ p < w'.heap.size ∧ q < w'.heap.size ∧ w'.cell? ⟨p, 0, none⟩ = some (.int .i64 v.size) ∧ w'.cell? ⟨p, 1, none⟩ = some (.slice A n c) ∧ w'.cell? ⟨p, 2, none⟩ = some (.int .i64 v.wrong) ∧ w'.cell? ⟨p, 3, none⟩ = some (.int .i64 v.hxl) ∧ w'.cell? ⟨p, 4, none⟩ = some (.int .i64 v.hxh) ∧ w'.cell? ⟨p, 5, none⟩ = some (.int .i64 v.hyl) ∧ w'.cell? ⟨p, 6, none⟩ = some (.int .i64 v.hyh) ∧ w'.cell? ⟨q, 0, none⟩ = some (.int .i64 m.x) ∧ w'.cell? ⟨q, 1, none⟩ = some (.int .i64 m.y) ∧ w'.cell? ⟨q, 2, none⟩ = some (.int .i64 m.hx) ∧ w'.cell? ⟨q, 3, none⟩ = some (.int .i64 m.hy))) (by kernel_rfl) ?_ (fun hHeld0 => ?_)
    · (try dsimp only); (first | (go_keep; done) | (go_split_ands; (repeat' apply And.intro) <;> first | (go_keep; done) | (simp [*, zcA, zcP, zfA, zfP]; done) | (simp [zcA, zcP] <;> rfl) | (simp [*, zsS, zsO, zsA]; done) | ((first | refine (hc _ _ ?_).trans ?_ | refine (hf _ _ ?_).trans ?_) <;> first | assumption | (simp; done) | (simp; omega) | omega | (go_keep; done) | (simp [*, zcA, zcP, zfA, zfP]; done) | (simp [zcA, zcP]; rfl)) | (repeat' first | exact zbR _ _ | assumption | refine zbD ?_ | refine zbA ?_ ?_ _ | refine zbS ?_ ?_ _ | refine zbT ?_ (by assumption) ?_ | (simp; done) | (simp; omega) | omega)))
    refine tL (v := ?_) 0 rfl (by kernel_rfl) (fun _ _ _ h => h) (Or.inl ⟨by rfl, ?_⟩) (by assumption) ?_; rotate_left
    · (intro w hSw; (try dsimp only at hSw); go_simp; try with_reducible rfl)
    try simp only [Act.put, zl, z0, z1]
    refine tL (v := ?_) 1 rfl (by kernel_rfl) (fun _ _ _ h => h) (Or.inl ⟨by rfl, ?_⟩) (by assumption) ?_; rotate_left
    · (intro w hSw; (try dsimp only at hSw); go_simp; try with_reducible rfl)
    try simp only [Act.put, zl, z0, z1]
    refine wpAnyH_ready (rs := [2]) (by kernel_rfl) (by simp) ?_
    refine consL 2 rfl (fun K hK => ?_) AllReadyH.nil
    go_simp
    (go_at_call 49; refine (isMark_any v A n c m _).mono ?_; rintro e w2 ⟨rfl, hb⟩; rw [HM.out]; have hSn := hkeep _ _ hb (by assumption); (try clear hS); have hS := hSn; clear hSn)
    refine hK.out _ _ ?_ (fun hHeld1 => ?_)
    · (try dsimp only); exact hS
    clear hK K hHeld0
    try simp only [Act.put, zl, z0, z1]
    refine tL (v := ?_) 3 rfl (by kernel_rfl) (fun _ _ _ h => h) (Or.inl ⟨by rfl, ?_⟩) (by assumption) ?_; rotate_left
    · (intro w hSw; (try dsimp only at hSw); go_simp; try with_reducible rfl)
    try simp only [Act.put, zl, z0, z1]
    refine takeL 4 rfl (by kernel_rfl) (by kernel_rfl) (by kernel_rfl) (fun _ _ _ h => h) (Or.inr ⟨by rfl, rfl⟩) (by assumption) ?_
    try simp only [Act.put, zl, z0, z1]
    refine takeL 5 rfl (by kernel_rfl) (by kernel_rfl) (by kernel_rfl) (fun _ _ _ h => h) (Or.inr ⟨by rfl, rfl⟩) (by assumption) ?_
    try simp only [Act.put, zl, z0, z1]
    refine takeL 6 rfl (by kernel_rfl) (by kernel_rfl) (by kernel_rfl) (fun _ _ _ h => h) (Or.inr ⟨by rfl, rfl⟩) (by assumption) ?_
    try simp only [Act.put, zl, z0, z1]
    refine takeL 7 rfl (by kernel_rfl) (by kernel_rfl) (by kernel_rfl) (fun _ _ _ h => h) (Or.inr ⟨by rfl, rfl⟩) (by assumption) ?_
    try simp only [Act.put, zl, z0, z1]
    refine takeL 8 rfl (by kernel_rfl) (by kernel_rfl) (by kernel_rfl) (fun _ _ _ h => h) (Or.inr ⟨by rfl, rfl⟩) (by assumption) ?_
    try simp only [Act.put, zl, z0, z1]
    refine takeL 9 rfl (by kernel_rfl) (by kernel_rfl) (by kernel_rfl) (fun _ _ _ h => h) (Or.inr ⟨by rfl, rfl⟩) (by assumption) ?_
    try simp only [Act.put, zl, z0, z1]
    refine takeL 10 rfl (by kernel_rfl) (by kernel_rfl) (by kernel_rfl) (fun _ _ _ h => h) (Or.inr ⟨by rfl, rfl⟩) (by assumption) ?_
    try simp only [Act.put, zl, z0, z1]
    refine takeL 11 rfl (by kernel_rfl) (by kernel_rfl) (by kernel_rfl) (fun _ _ _ h => h) (Or.inr ⟨by rfl, rfl⟩) (by assumption) ?_
    try simp only [Act.put, zl, z0, z1]
    refine takeL 12 rfl (by kernel_rfl) (by kernel_rfl) (by kernel_rfl) (fun _ _ _ h => h) (Or.inr ⟨by rfl, rfl⟩) (by assumption) ?_
    try simp only [Act.put, zl, z0, z1]
    refine takeL 13 rfl (by kernel_rfl) (by kernel_rfl) (by kernel_rfl) (fun _ _ _ h => h) (Or.inr ⟨by rfl, rfl⟩) (by assumption) ?_
    try simp only [Act.put, zl, z0, z1]
    refine tL (v := ?_) 14 rfl (by kernel_rfl) (fun _ _ _ h => h) (Or.inl ⟨by rfl, ?_⟩) (by assumption) ?_; rotate_left
    · (intro w hSw; (try dsimp only at hSw); go_simp; try with_reducible rfl)
    try simp only [Act.put, zl, z0, z1]
    refine tL (v := ?_) 15 rfl (by kernel_rfl) (fun _ _ _ h => h) (Or.inl ⟨by rfl, ?_⟩) (by assumption) ?_; rotate_left
    · (intro w hSw; (try dsimp only at hSw); go_simp; try with_reducible rfl)
    try simp only [Act.put, zl, z0, z1]
    refine wpAnyH_done (by kernel_rfl) ?_ _
    go_wp2
    go_ret
    exact ⟨by rw [HE.out]; rfl, by (go_split_ands; (have h9 : Below W0.heap.size W0 _ := (by assumption); exact HB0.out.trans (h9.mono (by have := HS0.out; omega))))⟩
  · have HE := hide (show L.truthB v m = decide (((L.wrongL v m.x m.y).length : Int) ≤ v.wrong) by unfold L.truthB; rw [hm]; rfl)
    have HM := hide (show L.markB m v.size v.hxl v.hxh v.hyl v.hyh = true from hm)
    have HB := hide (L.isMark_bd HV.out hm).1
    clear hm
    go_enter Try.func18, Try.ntmps18
    go_upto_region 1 with fail
    obtain ⟨W0, hW0⟩ : ∃ W0, (w.alloc (.cells #[.int .i64 v.size, .slice A n c, .int .i64 v.wrong, .int .i64 v.hxl, .int .i64 v.hxh, .int .i64 v.hyl, .int .i64 v.hyh] 26)).alloc (.cells #[.int .i64 m.x, .int .i64 m.y, .int .i64 m.hx, .int .i64 m.hy] 30) = W0 := ⟨_, rfl⟩
    rw [hW0]
    obtain ⟨p, hp⟩ : ∃ p, w.heap.size = p := ⟨_, rfl⟩
    obtain ⟨q, hq⟩ : ∃ q, w.heap.size + 1 = q := ⟨_, rfl⟩
    have hS : (fun w' => Below W0.heap.size W0 w' ∧ p < w'.heap.size ∧ q < w'.heap.size ∧ w'.cell? ⟨p, 0, none⟩ = some (.int .i64 v.size) ∧ w'.cell? ⟨p, 1, none⟩ = some (.slice A n c) ∧ w'.cell? ⟨p, 2, none⟩ = some (.int .i64 v.wrong) ∧ w'.cell? ⟨p, 3, none⟩ = some (.int .i64 v.hxl) ∧ w'.cell? ⟨p, 4, none⟩ = some (.int .i64 v.hxh) ∧ w'.cell? ⟨p, 5, none⟩ = some (.int .i64 v.hyl) ∧ w'.cell? ⟨p, 6, none⟩ = some (.int .i64 v.hyh) ∧ w'.cell? ⟨q, 0, none⟩ = some (.int .i64 m.x) ∧ w'.cell? ⟨q, 1, none⟩ = some (.int .i64 m.y) ∧ w'.cell? ⟨q, 2, none⟩ = some (.int .i64 m.hx) ∧ w'.cell? ⟨q, 3, none⟩ = some (.int .i64 m.hy)) W0 := by
      rw [← hW0, ← hp, ← hq]
      refine ⟨Below.refl _ _, (by first | (simp; done) | (simp; omega) | omega), (by first | (simp; done) | (simp; omega) | omega), (zcP _ _ _ (by first | (simp; done) | (simp; omega) | omega)).trans (zcA _ _ _ _ rfl), (zcP _ _ _ (by first | (simp; done) | (simp; omega) | omega)).trans (zcA _ _ _ _ rfl), (zcP _ _ _ (by first | (simp; done) | (simp; omega) | omega)).trans (zcA _ _ _ _ rfl), (zcP _ _ _ (by first | (simp; done) | (simp; omega) | omega)).trans (zcA _ _ _ _ rfl), (zcP _ _ _ (by first | (simp; done) | (simp; omega) | omega)).trans (zcA _ _ _ _ rfl), (zcP _ _ _ (by first | (simp; done) | (simp; omega) | omega)).trans (zcA _ _ _ _ rfl), (zcP _ _ _ (by first | (simp; done) | (simp; omega) | omega)).trans (zcA _ _ _ _ rfl), zcA _ _ _ _ (by simp), zcA _ _ _ _ (by simp), zcA _ _ _ _ (by simp), zcA _ _ _ _ (by simp)⟩
    have hs0 : W0.heap.size = w.heap.size + 1 + 1 := by rw [← hW0]; simp
    have hb0 : Below w.heap.size w W0 := by rw [← hW0]; (repeat' first | exact zbR _ _ | assumption | refine zbD ?_ | refine zbA ?_ ?_ _ | refine zbS ?_ ?_ _ | refine zbT ?_ (by assumption) ?_ | (simp; done) | (simp; omega) | omega)
    rw [hq, hp]
    have hq' : q = p + 1 := by omega
    have HP := hide hp
    have HB0 := hide hb0
    have HS0 := hide hs0
    have HQ := hide hq'
    clear hW0 hp hq hb0 hs0 hq'
    have hkeep : ∀ u u' : World, Below u.heap.size u u' → (Below W0.heap.size W0 u ∧ p < u.heap.size ∧ q < u.heap.size ∧ u.cell? ⟨p, 0, none⟩ = some (.int .i64 v.size) ∧ u.cell? ⟨p, 1, none⟩ = some (.slice A n c) ∧ u.cell? ⟨p, 2, none⟩ = some (.int .i64 v.wrong) ∧ u.cell? ⟨p, 3, none⟩ = some (.int .i64 v.hxl) ∧ u.cell? ⟨p, 4, none⟩ = some (.int .i64 v.hxh) ∧ u.cell? ⟨p, 5, none⟩ = some (.int .i64 v.hyl) ∧ u.cell? ⟨p, 6, none⟩ = some (.int .i64 v.hyh) ∧ u.cell? ⟨q, 0, none⟩ = some (.int .i64 m.x) ∧ u.cell? ⟨q, 1, none⟩ = some (.int .i64 m.y) ∧ u.cell? ⟨q, 2, none⟩ = some (.int .i64 m.hx) ∧ u.cell? ⟨q, 3, none⟩ = some (.int .i64 m.hy)) → (Below W0.heap.size W0 u' ∧ p < u'.heap.size ∧ q < u'.heap.size ∧ u'.cell? ⟨p, 0, none⟩ = some (.int .i64 v.size) ∧ u'.cell? ⟨p, 1, none⟩ = some (.slice A n c) ∧ u'.cell? ⟨p, 2, none⟩ = some (.int .i64 v.wrong) ∧ u'.cell? ⟨p, 3, none⟩ = some (.int .i64 v.hxl) ∧ u'.cell? ⟨p, 4, none⟩ = some (.int .i64 v.hxh) ∧ u'.cell? ⟨p, 5, none⟩ = some (.int .i64 v.hyl) ∧ u'.cell? ⟨p, 6, none⟩ = some (.int .i64 v.hyh) ∧ u'.cell? ⟨q, 0, none⟩ = some (.int .i64 m.x) ∧ u'.cell? ⟨q, 1, none⟩ = some (.int .i64 m.y) ∧ u'.cell? ⟨q, 2, none⟩ = some (.int .i64 m.hx) ∧ u'.cell? ⟨q, 3, none⟩ = some (.int .i64 m.hy)) := by
      rintro u u' hb ⟨hB, l_p, l_q, k0, k1, k2, k3, k4, k5, k6, k7, k8, k9, k10⟩
      exact ⟨hB.trans (hb.mono hB.size), Nat.lt_of_lt_of_le l_p hb.size, Nat.lt_of_lt_of_le l_q hb.size, (hb.cell (p := ⟨p, 0, none⟩) l_p).trans k0, (hb.cell (p := ⟨p, 1, none⟩) l_p).trans k1, (hb.cell (p := ⟨p, 2, none⟩) l_p).trans k2, (hb.cell (p := ⟨p, 3, none⟩) l_p).trans k3, (hb.cell (p := ⟨p, 4, none⟩) l_p).trans k4, (hb.cell (p := ⟨p, 5, none⟩) l_p).trans k5, (hb.cell (p := ⟨p, 6, none⟩) l_p).trans k6, (hb.cell (p := ⟨q, 0, none⟩) l_q).trans k7, (hb.cell (p := ⟨q, 1, none⟩) l_q).trans k8, (hb.cell (p := ⟨q, 2, none⟩) l_q).trans k9, (hb.cell (p := ⟨q, 3, none⟩) l_q).trans k10⟩
    dsimp only at hS
    refine wp_region_held_drew (S := (fun w' => Below W0.heap.size W0 w' ∧ p < w'.heap.size ∧ q < w'.heap.size ∧ w'.cell? ⟨p, 0, none⟩ = some (.int .i64 v.size) ∧ w'.cell? ⟨p, 1, none⟩ = some (.slice A n c) ∧ w'.cell? ⟨p, 2, none⟩ = some (.int .i64 v.wrong) ∧ w'.cell? ⟨p, 3, none⟩ = some (.int .i64 v.hxl) ∧ w'.cell? ⟨p, 4, none⟩ = some (.int .i64 v.hxh) ∧ w'.cell? ⟨p, 5, none⟩ = some (.int .i64 v.hyl) ∧ w'.cell? ⟨p, 6, none⟩ = some (.int .i64 v.hyh) ∧ w'.cell? ⟨q, 0, none⟩ = some (.int .i64 m.x) ∧ w'.cell? ⟨q, 1, none⟩ = some (.int .i64 m.y) ∧ w'.cell? ⟨q, 2, none⟩ = some (.int .i64 m.hx) ∧ w'.cell? ⟨q, 3, none⟩ = some (.int .i64 m.hy))) (by kernel_rfl) ?_ (fun hHeld0 => ?_)
    · (try dsimp only); (first | (go_keep; done) | (go_split_ands; (repeat' apply And.intro) <;> first | (go_keep; done) | (simp [*, zcA, zcP, zfA, zfP]; done) | (simp [zcA, zcP] <;> rfl) | (simp [*, zsS, zsO, zsA]; done) | ((first | refine (hc _ _ ?_).trans ?_ | refine (hf _ _ ?_).trans ?_) <;> first | assumption | (simp; done) | (simp; omega) | omega | (go_keep; done) | (simp [*, zcA, zcP, zfA, zfP]; done) | (simp [zcA, zcP]; rfl)) | (repeat' first | exact zbR _ _ | assumption | refine zbD ?_ | refine zbA ?_ ?_ _ | refine zbS ?_ ?_ _ | refine zbT ?_ (by assumption) ?_ | (simp; done) | (simp; omega) | omega)))
    refine tL (v := ?_) 0 rfl (by kernel_rfl) (fun _ _ _ h => h) (Or.inl ⟨by rfl, ?_⟩) (by assumption) ?_; rotate_left
    · (intro w hSw; (try dsimp only at hSw); go_simp; try with_reducible rfl)
    try simp only [Act.put, zl, z0, z1]
    refine tL (v := ?_) 1 rfl (by kernel_rfl) (fun _ _ _ h => h) (Or.inl ⟨by rfl, ?_⟩) (by assumption) ?_; rotate_left
    · (intro w hSw; (try dsimp only at hSw); go_simp; try with_reducible rfl)
    try simp only [Act.put, zl, z0, z1]
    refine wpAnyH_ready (rs := [2]) (by kernel_rfl) (by simp) ?_
    refine consL 2 rfl (fun K hK => ?_) AllReadyH.nil
    go_simp
    (go_at_call 49; refine (isMark_any v A n c m _).mono ?_; rintro e w2 ⟨rfl, hb⟩; rw [HM.out]; have hSn := hkeep _ _ hb (by assumption); (try clear hS); have hS := hSn; clear hSn)
    refine hK.out _ _ ?_ (fun hHeld1 => ?_)
    · (try dsimp only); exact hS
    clear hK K hHeld0
    try simp only [Act.put, zl, z0, z1]
    refine tL (v := ?_) 3 rfl (by kernel_rfl) (fun _ _ _ h => h) (Or.inl ⟨by rfl, ?_⟩) (by assumption) ?_; rotate_left
    · (intro w hSw; (try dsimp only at hSw); go_simp; try with_reducible rfl)
    try simp only [Act.put, zl, z0, z1]
    refine tL (v := ?_) 4 rfl (by kernel_rfl) (fun _ _ _ h => h) (Or.inl ⟨by rfl, ?_⟩) (by assumption) ?_; rotate_left
    · (intro w hSw; (try dsimp only at hSw); go_simp; try with_reducible rfl)
    try simp only [Act.put, zl, z0, z1]
    refine tL (v := ?_) 5 rfl (by kernel_rfl) (fun _ _ _ h => h) (Or.inl ⟨by rfl, ?_⟩) (by assumption) ?_; rotate_left
    · (intro w hSw; (try dsimp only at hSw); go_simp; try with_reducible rfl)
    try simp only [Act.put, zl, z0, z1]
    refine tL (v := ?_) 6 rfl (by kernel_rfl) (fun _ _ _ h => h) (Or.inl ⟨by rfl, ?_⟩) (by assumption) ?_; rotate_left
    · (intro w hSw; (try dsimp only at hSw); go_simp; try with_reducible rfl)
    try simp only [Act.put, zl, z0, z1]
    refine tL (v := ?_) 7 rfl (by kernel_rfl) (fun _ _ _ h => h) (Or.inl ⟨by rfl, ?_⟩) (by assumption) ?_; rotate_left
    · (intro w hSw; (try dsimp only at hSw); go_simp; try with_reducible rfl)
    try simp only [Act.put, zl, z0, z1]
    refine tL (v := ?_) 8 rfl (by kernel_rfl) (fun _ _ _ h => h) (Or.inl ⟨by rfl, ?_⟩) (by assumption) ?_; rotate_left
    · (intro w hSw; (try dsimp only at hSw); go_simp; try with_reducible rfl)
    try simp only [Act.put, zl, z0, z1]
    refine tL (v := ?_) 11 rfl (by kernel_rfl) (fun _ _ _ h => h) (Or.inl ⟨by rfl, ?_⟩) (by assumption) ?_; rotate_left
    · (intro w hSw; (try dsimp only at hSw); go_simp; try with_reducible rfl)
    try simp only [Act.put, zl, z0, z1]
    refine tL (v := ?_) 12 rfl (by kernel_rfl) (fun _ _ _ h => h) (Or.inl ⟨by rfl, ?_⟩) (by assumption) ?_; rotate_left
    · (intro w hSw; (try dsimp only at hSw); go_simp; try with_reducible rfl)
    try simp only [Act.put, zl, z0, z1]
    refine wpAnyH_ready (rs := [9]) (by kernel_rfl) (by simp) ?_
    refine consL 9 rfl (fun K hK => ?_) AllReadyH.nil
    go_simp
    (go_at_call 50; refine (refWrong_any v A n c m.x m.y _ HN.out ((HR.out.below (HB0.out.trans (hS.1.mono (by have := HS0.out; omega)))).mono (by have := hS.1.size; have := HS0.out; omega)) HV.out.ok (by have := HV.out.n8; have := HN.out; omega) HB.out.x0 HB.out.x1 HB.out.y0 HB.out.y1).mono ?_; rintro e w3 ⟨sv, c3, rfl, hown, hb⟩; clear hown; have hSn := hkeep _ _ hb (by assumption); (try clear hS); have hS := hSn; clear hSn)
    refine hK.out _ _ ?_ (fun hHeld2 => ?_)
    · (try dsimp only); exact hS
    clear hK K hHeld1
    try simp only [Act.put, zl, z0, z1]
    refine tL (v := ?_) 10 rfl (by kernel_rfl) (fun _ _ _ h => h) (Or.inl ⟨by rfl, ?_⟩) (by assumption) ?_; rotate_left
    · (intro w hSw; (try dsimp only at hSw); go_simp; try with_reducible rfl)
    try simp only [Act.put, zl, z0, z1]
    refine tL (v := ?_) 13 rfl (by kernel_rfl) (fun _ _ _ h => h) (Or.inl ⟨by rfl, ?_⟩) (by assumption) ?_; rotate_left
    · (intro w hSw; (try dsimp only at hSw); go_simp; try with_reducible rfl)
    try simp only [Act.put, zl, z0, z1]
    refine tL (v := ?_) 14 rfl (by kernel_rfl) (fun _ _ _ h => h) (Or.inl ⟨by rfl, ?_⟩) (by assumption) ?_; rotate_left
    · (intro w hSw; (try dsimp only at hSw); go_simp; try with_reducible rfl)
    try simp only [Act.put, zl, z0, z1]
    refine tL (v := ?_) 15 rfl (by kernel_rfl) (fun _ _ _ h => h) (Or.inl ⟨by rfl, ?_⟩) (by assumption) ?_; rotate_left
    · (intro w hSw; (try dsimp only at hSw); go_simp; try with_reducible rfl)
    try simp only [Act.put, zl, z0, z1]
    refine wpAnyH_done (by kernel_rfl) ?_ _
    go_wp2
    go_ret
    exact ⟨by rw [HE.out]; rfl, by (go_split_ands; (have h9 : Below W0.heap.size W0 _ := (by assumption); exact HB0.out.trans (h9.mono (by have := HS0.out; omega))))⟩

end Go.Proofs.Ytgnobonhohfofaa

namespace Go.Proofs.Ytgnobonhohfofaa
open Go.RowKit
attribute [local go_sem ↓] Go.wp_at_zero Go.wp_at_succ

theorem show_results {Z : World} {g : Nat} {x y p q e : Int} {cs tmps : Array Value} (h3 : Z.heap[g]? = some (.cells cs 30 (0, 0)))
    (e3 : cs = #[.int .i64 x, .int .i64 y, .int .i64 p, .int .i64 q]) (t6 : tmps[6]? = some (.pointer (some ⟨g, 0, none⟩))) (t7 : tmps[7]? = some (.int .i64 e)) :
    (results Try.f20 tmps).run Try.prog Z = .ok (.tuple #[.agg #[.int .i64 x, .int .i64 y, .int .i64 p, .int .i64 q], .int .i64 e]) Z := by
  subst e3
  have k0 : Z.cell? ⟨g, 0, none⟩ = some (.int .i64 x) := blk_cell h3 0
  have k1 : Z.cell? ⟨g, 1, none⟩ = some (.int .i64 y) := blk_cell h3 1
  have k2 : Z.cell? ⟨g, 2, none⟩ = some (.int .i64 p) := blk_cell h3 2
  have k3 : Z.cell? ⟨g, 3, none⟩ = some (.int .i64 q) := blk_cell h3 3
  simp [results, Try.results20, go_sem, t6, t7, k0, k1, k2, k3]

theorem blk_new3 {w : World} {X Y Z : Obj} : (((w.alloc X).alloc Y).alloc Z).heap[w.heap.size + 1 + 1]? = some Z := by
  have := World.alloc_heap_new ((w.alloc X).alloc Y) Z
  rwa [World.size_alloc, World.size_alloc] at this

set_option maxRecDepth 100000 in
set_option maxHeartbeats 1600000 in
theorem Show_any (v : L.Vw) (A : Option Addr) (n c : Nat) (b : L.Bx) (call : Int) (w : World) (hn : v.ss.length = n) (hr : RdS w w.heap.size A v.ss) :
    Calls Try.prog 20 #[.agg #[.int .i64 v.size, .slice A n c, .int .i64 v.wrong, .int .i64 v.hxl, .int .i64 v.hxh, .int .i64 v.hyl, .int .i64 v.hyh], .agg #[.int .i64 b.l, .int .i64 b.r, .int .i64 b.b, .int .i64 b.t], .int .i64 call] w fun e w' => e = .returned (.tuple #[.agg #[.int .i64 ((L.showM v b call)).x, .int .i64 ((L.showM v b call)).y, .int .i64 ((L.showM v b call)).hx, .int .i64 ((L.showM v b call)).hy], .int .i64 (L.showE v b call)]) ∧ Below w.heap.size w w' := by
  have HN := hide hn
  have HR := hide hr
  clear hn hr
  rcases L.checkBE_cases v b with h | h | h
  · obtain ⟨hv, hb⟩ := L.checkBE_ok h
    have HV := hide hv
    have HB := hide hb
    have H := hide h
    clear hv hb h
    cases hs : L.sure call
    · have E1 := hide (show L.showM v b call = ⟨0, 0, 0, 0⟩ by unfold L.showM; rw [if_pos H.out, hs]; rfl)
      have E2 := hide (show L.showE v b call = 22 by unfold L.showE; rw [if_pos H.out, hs]; rfl)
      have HS := hide hs
      clear hs
      go_enter Try.func20, Try.ntmps20
      go_wp2_with (first | (go_at_call 47; refine (check_any v A n c b _ HN.out ((HR.out.below (by (repeat' first | exact zbR _ _ | assumption | refine zbD ?_ | refine zbA ?_ ?_ _ | refine zbS ?_ ?_ _ | refine zbT ?_ (by assumption) ?_ | (simp; done) | (simp; omega) | omega))).mono (by first | (simp; done) | (simp; omega) | omega))).mono ?_; rintro e w2 ⟨rfl, hb2⟩; rw [H.out]; obtain ⟨hc2, hf2⟩ := bcell hb2; have q2 := hb2.size; (try simp only [World.size_alloc] at q2); have z2_0 : w.heap.size < w2.heap.size := (by omega); have z2_1 : w.heap.size + 1 < w2.heap.size := (by omega); have z2_2 : w.heap.size + 1 + 1 < w2.heap.size := (by omega); have k3 := (hb2.block (w.heap.size + 1 + 1) (by first | (simp; done) | (simp; omega) | omega)).trans blk_new3; have c0 := (blk_cell k3 0).trans rfl; have c1 := (blk_cell k3 1).trans rfl; have c2 := (blk_cell k3 2).trans rfl; have c3 := (blk_cell k3 3).trans rfl; have f0 := blk_frozen k3 0; have f1 := blk_frozen k3 1; have f2 := blk_frozen k3 2; have f3 := blk_frozen k3 3; have K3 := hide k3; clear k3) | (go_at_call 54; refine (sure_any call _).mono ?_; rintro e w3 ⟨rfl, rfl⟩; rw [HS.out]))
      rw [E1.out, E2.out]
      exact bodyPost_ret (v := .tuple #[.agg #[.int .i64 0, .int .i64 0, .int .i64 0, .int .i64 0], .int .i64 (22)]) (show_results (blk_set (blk_set (blk_set (blk_set (K3.out) 0 (.int .i64 0)) 1 (.int .i64 0)) 2 (.int .i64 0)) 3 (.int .i64 0)) rfl rfl rfl) rfl ⟨rfl, by (repeat' first | exact zbR _ _ | assumption | refine zbD ?_ | refine zbA ?_ ?_ _ | refine zbS ?_ ?_ _ | refine zbT ?_ (by assumption) ?_ | (simp; done) | (simp; omega) | omega)⟩
    · cases hf : (L.findC v b 0 call).isSome
      · have E1 := hide (show L.showM v b call = ⟨0, 0, 0, 0⟩ by unfold L.showM; rw [if_pos H.out, hs]; exact L.found_none hf)
        have E2 := hide (show L.showE v b call = 3 by unfold L.showE; rw [if_pos H.out, hs, hf]; rfl)
        have HS := hide hs
        have HF := hide hf
        clear hs hf
        go_enter Try.func20, Try.ntmps20
        go_wp2_with (first | (go_at_call 47; refine (check_any v A n c b _ HN.out ((HR.out.below (by (repeat' first | exact zbR _ _ | assumption | refine zbD ?_ | refine zbA ?_ ?_ _ | refine zbS ?_ ?_ _ | refine zbT ?_ (by assumption) ?_ | (simp; done) | (simp; omega) | omega))).mono (by first | (simp; done) | (simp; omega) | omega))).mono ?_; rintro e w2 ⟨rfl, hb2⟩; rw [H.out]; obtain ⟨hc2, hf2⟩ := bcell hb2; have q2 := hb2.size; (try simp only [World.size_alloc] at q2); have z2_0 : w.heap.size < w2.heap.size := (by omega); have z2_1 : w.heap.size + 1 < w2.heap.size := (by omega); have z2_2 : w.heap.size + 1 + 1 < w2.heap.size := (by omega); have k2 := (hb2.block (w.heap.size + 1 + 1) (by first | (simp; done) | (simp; omega) | omega)).trans blk_new3; have K2 := hide k2; clear k2) | (go_at_call 54; refine (sure_any call _).mono ?_; rintro e w3 ⟨rfl, rfl⟩; rw [HS.out]) | (go_at_call 55; refine (find_any v A n c b 0 call _ HV.out HB.out HN.out ((HR.out.below (by (repeat' first | exact zbR _ _ | assumption | refine zbD ?_ | refine zbA ?_ ?_ _ | refine zbS ?_ ?_ _ | refine zbT ?_ (by assumption) ?_ | (simp; done) | (simp; omega) | omega))).mono (by first | (simp; done) | (simp; omega) | omega)) (by omega) (by omega)).mono ?_; rintro e w4 ⟨rfl, hb4⟩; rw [HF.out]; have q4 := hb4.size; have k3 := (hb4.block (w.heap.size + 1 + 1) (by omega)).trans K2.out; have c0 := (blk_cell k3 0).trans rfl; have c1 := (blk_cell k3 1).trans rfl; have c2 := (blk_cell k3 2).trans rfl; have c3 := (blk_cell k3 3).trans rfl; have f0 := blk_frozen k3 0; have f1 := blk_frozen k3 1; have f2 := blk_frozen k3 2; have f3 := blk_frozen k3 3; have z4_2 : w.heap.size + 1 + 1 < w4.heap.size := (by omega); have K3 := hide k3; clear k3))
        rw [E1.out, E2.out]
        exact bodyPost_ret (v := .tuple #[.agg #[.int .i64 0, .int .i64 0, .int .i64 0, .int .i64 0], .int .i64 (3)]) (show_results ((Below.heap_alloc _ _ _ (by simp only [World.size_setCell]; exact z4_2)).trans (blk_set (blk_set (blk_set (blk_set (K3.out) 0 (.int .i64 0)) 1 (.int .i64 0)) 2 (.int .i64 0)) 3 (.int .i64 0))) rfl rfl rfl) rfl ⟨rfl, by (repeat' first | exact zbR _ _ | assumption | refine zbD ?_ | refine zbA ?_ ?_ _ | refine zbS ?_ ?_ _ | refine zbT ?_ (by assumption) ?_ | (simp; done) | (simp; omega) | omega)⟩
      · have E1 := hide (show L.showM v b call = L.foundM v b 0 call by unfold L.showM; rw [if_pos H.out, hs]; rfl)
        have E2 := hide (show L.showE v b call = 0 by unfold L.showE; rw [if_pos H.out, hs, hf]; rfl)
        have HS := hide hs
        have HF := hide hf
        clear hs hf
        go_enter Try.func20, Try.ntmps20
        go_wp2_with (first | (go_at_call 47; refine (check_any v A n c b _ HN.out ((HR.out.below (by (repeat' first | exact zbR _ _ | assumption | refine zbD ?_ | refine zbA ?_ ?_ _ | refine zbS ?_ ?_ _ | refine zbT ?_ (by assumption) ?_ | (simp; done) | (simp; omega) | omega))).mono (by first | (simp; done) | (simp; omega) | omega))).mono ?_; rintro e w2 ⟨rfl, hb2⟩; rw [H.out]; obtain ⟨hc2, hf2⟩ := bcell hb2; have q2 := hb2.size; (try simp only [World.size_alloc] at q2); have z2_0 : w.heap.size < w2.heap.size := (by omega); have z2_1 : w.heap.size + 1 < w2.heap.size := (by omega); have z2_2 : w.heap.size + 1 + 1 < w2.heap.size := (by omega); have k2 := (hb2.block (w.heap.size + 1 + 1) (by first | (simp; done) | (simp; omega) | omega)).trans blk_new3; have K2 := hide k2; clear k2) | (go_at_call 54; refine (sure_any call _).mono ?_; rintro e w3 ⟨rfl, rfl⟩; rw [HS.out]) | (go_at_call 55; refine (find_any v A n c b 0 call _ HV.out HB.out HN.out ((HR.out.below (by (repeat' first | exact zbR _ _ | assumption | refine zbD ?_ | refine zbA ?_ ?_ _ | refine zbS ?_ ?_ _ | refine zbT ?_ (by assumption) ?_ | (simp; done) | (simp; omega) | omega))).mono (by first | (simp; done) | (simp; omega) | omega)) (by omega) (by omega)).mono ?_; rintro e w4 ⟨rfl, hb4⟩; rw [HF.out]; have q4 := hb4.size; have k3 := (hb4.block (w.heap.size + 1 + 1) (by omega)).trans K2.out; have c0 := (blk_cell k3 0).trans rfl; have c1 := (blk_cell k3 1).trans rfl; have c2 := (blk_cell k3 2).trans rfl; have c3 := (blk_cell k3 3).trans rfl; have f0 := blk_frozen k3 0; have f1 := blk_frozen k3 1; have f2 := blk_frozen k3 2; have f3 := blk_frozen k3 3; have z4_2 : w.heap.size + 1 + 1 < w4.heap.size := (by omega); have K3 := hide k3; clear k3))
        rw [E1.out, E2.out]
        exact bodyPost_ret (v := .tuple #[.agg #[.int .i64 (L.foundM v b 0 call).x, .int .i64 (L.foundM v b 0 call).y, .int .i64 (L.foundM v b 0 call).hx, .int .i64 (L.foundM v b 0 call).hy], .int .i64 (0)]) (show_results ((Below.heap_alloc _ _ _ (by simp only [World.size_setCell]; exact z4_2)).trans (blk_set (blk_set (blk_set (blk_set (K3.out) 0 (.int .i64 (L.foundM v b 0 call).x)) 1 (.int .i64 (L.foundM v b 0 call).y)) 2 (.int .i64 (L.foundM v b 0 call).hx)) 3 (.int .i64 (L.foundM v b 0 call).hy))) rfl rfl rfl) rfl ⟨rfl, by (repeat' first | exact zbR _ _ | assumption | refine zbD ?_ | refine zbA ?_ ?_ _ | refine zbS ?_ ?_ _ | refine zbT ?_ (by assumption) ?_ | (simp; done) | (simp; omega) | omega)⟩
  all_goals
    have E1 := hide (show L.showM v b call = ⟨0, 0, 0, 0⟩ by unfold L.showM; rw [if_neg (by omega)])
    have E2 := hide (show L.showE v b call = L.checkBE v b by unfold L.showE; rw [if_neg (by omega)])
    have H := hide h
    clear h
    go_enter Try.func20, Try.ntmps20
    go_wp2_with (go_at_call 47; refine (check_any v A n c b _ HN.out ((HR.out.below (by (repeat' first | exact zbR _ _ | assumption | refine zbD ?_ | refine zbA ?_ ?_ _ | refine zbS ?_ ?_ _ | refine zbT ?_ (by assumption) ?_ | (simp; done) | (simp; omega) | omega))).mono (by first | (simp; done) | (simp; omega) | omega))).mono ?_; rintro e w2 ⟨rfl, hb2⟩; rw [H.out]; have k3 := (hb2.block (w.heap.size + 1 + 1) (by first | (simp; done) | (simp; omega) | omega)).trans blk_new3; have c0 := (blk_cell k3 0).trans rfl; have c1 := (blk_cell k3 1).trans rfl; have c2 := (blk_cell k3 2).trans rfl; have c3 := (blk_cell k3 3).trans rfl; have f0 := blk_frozen k3 0; have f1 := blk_frozen k3 1; have f2 := blk_frozen k3 2; have f3 := blk_frozen k3 3; have K3 := hide k3; clear k3)
    rw [E1.out, E2.out, H.out]
    exact bodyPost_ret (v := .tuple #[.agg #[.int .i64 0, .int .i64 0, .int .i64 0, .int .i64 0], .int .i64 _]) (show_results (blk_set (blk_set (blk_set (blk_set (K3.out) 0 (.int .i64 0)) 1 (.int .i64 0)) 2 (.int .i64 0)) 3 (.int .i64 0)) rfl rfl rfl) rfl ⟨rfl, by (repeat' first | exact zbR _ _ | assumption | refine zbD ?_ | refine zbA ?_ ?_ _ | refine zbS ?_ ?_ _ | refine zbT ?_ (by assumption) ?_ | (simp; done) | (simp; omega) | omega)⟩

end Go.Proofs.Ytgnobonhohfofaa

namespace Go.Proofs.Ytgnobonhohfofaa
open Go.RowKit
attribute [local go_sem ↓] Go.wp_at_zero Go.wp_at_succ

def L.farB (v : L.Vw) : Bool := decide (40 < v.ss.length) || (L.viewB v && (decide (12 < v.size) || decide (5 < v.hxh) || decide (5 < v.hyh)))
def L.validB (v : L.Vw) (b : L.Bx) : Bool := !L.farB v && (L.viewB v && L.boxB b)
theorem L.check_view (v : L.Vw) : L.checkE v = if L.viewB v then 0 else 20 := rfl

set_option maxRecDepth 100000 in
set_option maxHeartbeats 1600000 in
theorem Far_any (v : L.Vw) (A : Option Addr) (n c : Nat) (w : World) (hn : v.ss.length = n) (hr : RdS w w.heap.size A v.ss) :
    Calls Try.prog 28 #[.agg #[.int .i64 v.size, .slice A n c, .int .i64 v.wrong, .int .i64 v.hxl, .int .i64 v.hxh, .int .i64 v.hyl, .int .i64 v.hyh]] w fun e w' => e = .returned (.bool (L.farB v)) ∧ Below w.heap.size w w' := by
  have HN := hide hn
  have HR := hide hr
  have hc := L.check_view v
  by_cases h40 : (40 : Int) < (n : Int)
  · have HE := hide (show L.farB v = true by unfold L.farB; rw [decide_eq_true (by omega)]; rfl)
    clear hn hr hc
    go_enter Try.func28, Try.ntmps28
    go_wp2
    go_ret
    exact ⟨by rw [HE.out]; rfl, by (repeat' first | exact zbR _ _ | assumption | refine zbD ?_ | refine zbA ?_ ?_ _ | refine zbS ?_ ?_ _ | refine zbT ?_ (by assumption) ?_ | (simp; done) | (simp; omega) | omega)⟩
  have hf : L.farB v = (L.viewB v && (decide (12 < v.size) || decide (5 < v.hxh) || decide (5 < v.hyh))) := by unfold L.farB; rw [decide_eq_false (by omega)]; rfl
  cases hv : L.viewB v
  · rw [hv] at hc hf
    have HC := hide (show L.checkE v = 20 from hc)
    have HE := hide (show L.farB v = false from hf)
    clear hn hr hc hv hf
    go_enter Try.func28, Try.ntmps28
    go_wp2_with (go_at_call 23; refine (RefCheck_any v A n c _ HN.out ((HR.out.below (by (repeat' first | exact zbR _ _ | assumption | refine zbD ?_ | refine zbA ?_ ?_ _ | refine zbS ?_ ?_ _ | refine zbT ?_ (by assumption) ?_ | (simp; done) | (simp; omega) | omega))).mono (by first | (simp; done) | (simp; omega) | omega))).mono ?_; rintro e w2 ⟨rfl, hb2⟩; rw [HC.out])
    go_ret
    exact ⟨by rw [HE.out]; rfl, by (repeat' first | exact zbR _ _ | assumption | refine zbD ?_ | refine zbA ?_ ?_ _ | refine zbS ?_ ?_ _ | refine zbT ?_ (by assumption) ?_ | (simp; done) | (simp; omega) | omega)⟩
  rw [hv] at hc hf
  have HC := hide (show L.checkE v = 0 from hc)
  have HF := hide hf
  clear hn hr hc hv hf
  rw [Bool.true_and] at HF
  go_enter Try.func28, Try.ntmps28
  go_wp2_with (go_at_call 23; refine (RefCheck_any v A n c _ HN.out ((HR.out.below (by (repeat' first | exact zbR _ _ | assumption | refine zbD ?_ | refine zbA ?_ ?_ _ | refine zbS ?_ ?_ _ | refine zbT ?_ (by assumption) ?_ | (simp; done) | (simp; omega) | omega))).mono (by first | (simp; done) | (simp; omega) | omega))).mono ?_; rintro e w2 ⟨rfl, hb2⟩; rw [HC.out]; obtain ⟨hc2, hf2⟩ := bcell hb2; have hz2 : w.heap.size < w2.heap.size := (by have := hb2.size; (try simp at this); omega))
  all_goals
    go_ret
    exact ⟨by rw [HF.out]; (first | rfl | (simp [*]; done)), by (repeat' first | exact zbR _ _ | assumption | refine zbD ?_ | refine zbA ?_ ?_ _ | refine zbS ?_ ?_ _ | refine zbT ?_ (by assumption) ?_ | (simp; done) | (simp; omega) | omega)⟩

theorem L.farB_no {v : L.Vw} (h : L.farB v = false) : v.ss.length ≤ 40 ∧ (L.viewB v = true → v.size ≤ 12 ∧ v.hxh ≤ 5 ∧ v.hyh ≤ 5) := by
  unfold L.farB at h
  simp only [Bool.or_eq_false_iff, decide_eq_false_iff_not, Bool.and_eq_false_iff] at h
  refine ⟨by omega, fun hv => ?_⟩
  rcases h.2 with h' | h'
  · rw [hv] at h'; cases h'
  · omega

set_option maxRecDepth 100000 in
set_option maxHeartbeats 1600000 in
theorem valid_any (v : L.Vw) (A : Option Addr) (n c : Nat) (b : L.Bx) (w : World) (hn : v.ss.length = n) (hr : RdS w w.heap.size A v.ss) :
    Calls Try.prog 15 #[.agg #[.int .i64 v.size, .slice A n c, .int .i64 v.wrong, .int .i64 v.hxl, .int .i64 v.hxh, .int .i64 v.hyl, .int .i64 v.hyh], .agg #[.int .i64 b.l, .int .i64 b.r, .int .i64 b.b, .int .i64 b.t]] w fun e w' => e = .returned (.bool (L.validB v b)) ∧ Below w.heap.size w w' := by
  have HN := hide hn
  have HR := hide hr
  have hc := L.check_view v
  have he : L.validB v b = (!L.farB v && (L.viewB v && L.boxB b)) := rfl
  cases hf : L.farB v <;> cases hv : L.viewB v <;> cases hb : L.boxB b
  all_goals
    rw [hv] at hc
    rw [hf, hv, hb] at he
    have HC := hide hc
    have HE := hide he
    have HF := hide hf
    have HB := hide hb
    clear hn hr hc he hf hv hb
    go_enter Try.func15, Try.ntmps15
    go_wp2_with (first | (go_at_call 28; refine (Far_any v A n c _ HN.out ((HR.out.below (by (repeat' first | exact zbR _ _ | assumption | refine zbD ?_ | refine zbA ?_ ?_ _ | refine zbS ?_ ?_ _ | refine zbT ?_ (by assumption) ?_ | (simp; done) | (simp; omega) | omega))).mono (by first | (simp; done) | (simp; omega) | omega))).mono ?_; rintro e w2 ⟨rfl, hb2⟩; rw [HF.out]; obtain ⟨hc2, hf2⟩ := bcell hb2; have hz2 : w.heap.size + 1 < w2.heap.size := (by have := hb2.size; (try simp at this); omega); have hy2 : w.heap.size < w2.heap.size := (by omega)) | (go_at_call 23; refine (RefCheck_any v A n c _ HN.out ((HR.out.below (by (repeat' first | exact zbR _ _ | assumption | refine zbD ?_ | refine zbA ?_ ?_ _ | refine zbS ?_ ?_ _ | refine zbT ?_ (by assumption) ?_ | (simp; done) | (simp; omega) | omega))).mono (by first | (simp; done) | (simp; omega) | omega))).mono ?_; rintro e w3 ⟨rfl, hb3⟩; rw [HC.out]; obtain ⟨hc3, hf3⟩ := bcell hb3; have hz3 : w.heap.size + 1 < w3.heap.size := (by have := hb3.size; (try simp at this); omega); (try simp only [if_true, Bool.false_eq_true, if_false])) | (go_at_call 25; refine (isBox_any b _).mono ?_; rintro e w4 ⟨rfl, hb4⟩; rw [HB.out]))
    go_ret
    exact ⟨by rw [HE.out]; rfl, by (repeat' first | exact zbR _ _ | assumption | refine zbD ?_ | refine zbA ?_ ?_ _ | refine zbS ?_ ?_ _ | refine zbT ?_ (by assumption) ?_ | (simp; done) | (simp; omega) | omega)⟩

end Go.Proofs.Ytgnobonhohfofaa

namespace Go.Proofs.Ytgnobonhohfofaa
open Go.RowKit
attribute [local go_sem ↓] Go.wp_at_zero Go.wp_at_succ
attribute [local go_sem] Oper.semAt_some

namespace L
def spanOf (f : Int × Int → Int) : List (Int × Int) → Int × Int
  | [] => (0, 0)
  | c :: r => r.foldl (fun s d => (min s.1 (f d), max s.2 (f d))) (f c, f c)
theorem spanOf_one (f : Int × Int → Int) (c : Int × Int) : spanOf f ([] ++ [c]) = (f c, f c) := rfl
theorem spanOf_snoc (f : Int × Int → Int) (l : List (Int × Int)) (c : Int × Int) (h : l ≠ []) : spanOf f (l ++ [c]) = (min (spanOf f l).1 (f c), max (spanOf f l).2 (f c)) := by
  cases l with
  | nil => exact (h rfl).elim
  | cons a r => simp [spanOf, List.foldl_append]
theorem cents_length (N : Nat) : (cents N).length = (N + 1) * (N + 1) := by
  simp [cents, List.length_flatMap, List.map_const']
theorem tcents_length {v : Vw} (h : VwOk v) (k : Int) : (tcents v k).length ≤ 1681 := by
  have h1 : (tcents v k).length ≤ (cents v.size.toNat).length := List.length_filter_le _ _
  rw [cents_length] at h1
  have h2 : v.size.toNat + 1 ≤ 41 := by have := h.s0; have := h.s1; omega
  have := Nat.mul_le_mul h2 h2
  omega
def cenE (v : Vw) : Int := if checkE v = 0 then (if tcents v 0 = [] then 3 else 0) else checkE v
def cenN (v : Vw) : Int := if checkE v = 0 then ((tcents v 0).length : Int) else 0
def cenX (v : Vw) : Int × Int := if checkE v = 0 then spanOf (·.1) (tcents v 0) else (0, 0)
def cenY (v : Vw) : Int × Int := if checkE v = 0 then spanOf (·.2) (tcents v 0) else (0, 0)
theorem checkE_cases (v : Vw) : checkE v = 0 ∨ checkE v = 20 := by unfold checkE; split <;> simp
theorem checkE_ok {v : Vw} (h : checkE v = 0) : VwOk v := by
  unfold checkE at h
  cases h1 : viewB v <;> simp [h1] at h
  exact viewB_ok h1
end L

theorem cent_results {Z : World} {g2 g3 g4 : Nat} {m a b c d e : Int} {c2 c3 c4 tmps : Array Value} (h2 : Z.heap[g2]? = some (.cells c2 3 (0, 0))) (h3 : Z.heap[g3]? = some (.cells c3 24 (0, 0))) (h4 : Z.heap[g4]? = some (.cells c4 24 (0, 0)))
    (e2 : c2 = #[.int .i64 m]) (e3 : c3 = #[.int .i64 a, .int .i64 b]) (e4 : c4 = #[.int .i64 c, .int .i64 d]) (t2 : tmps[2]? = some (.pointer (some ⟨g2, 0, none⟩))) (t3 : tmps[3]? = some (.pointer (some ⟨g3, 0, none⟩))) (t4 : tmps[4]? = some (.pointer (some ⟨g4, 0, none⟩))) (t5 : tmps[5]? = some (.int .i64 e)) :
    (results Try.f24 tmps).run Try.prog Z = .ok (.tuple #[.int .i64 m, .agg #[.int .i64 a, .int .i64 b], .agg #[.int .i64 c, .int .i64 d], .int .i64 e]) Z := by
  subst e2 e3 e4
  have k0 : Z.cell? ⟨g2, 0, none⟩ = some (.int .i64 m) := blk_cell h2 0
  have k1 : Z.cell? ⟨g3, 0, none⟩ = some (.int .i64 a) := blk_cell h3 0
  have k2 : Z.cell? ⟨g3, 1, none⟩ = some (.int .i64 b) := blk_cell h3 1
  have k3 : Z.cell? ⟨g4, 0, none⟩ = some (.int .i64 c) := blk_cell h4 0
  have k4 : Z.cell? ⟨g4, 1, none⟩ = some (.int .i64 d) := blk_cell h4 1
  simp [results, Try.results24, go_sem, t2, t3, t4, t5, k0, k1, k2, k3, k4]

set_option maxRecDepth 100000 in
set_option maxHeartbeats 3200000 in
theorem Centres_no (v : L.Vw) (A : Option Addr) (n c : Nat) (w : World) (hn : v.ss.length = n) (hr : RdS w w.heap.size A v.ss) (h : L.checkE v = 20) :
    Calls Try.prog 24 #[.agg #[.int .i64 v.size, .slice A n c, .int .i64 v.wrong, .int .i64 v.hxl, .int .i64 v.hxh, .int .i64 v.hyl, .int .i64 v.hyh]] w fun e w' => e = .returned (.tuple #[.int .i64 (L.cenN v), .agg #[.int .i64 (L.cenX v).1, .int .i64 (L.cenX v).2], .agg #[.int .i64 (L.cenY v).1, .int .i64 (L.cenY v).2], .int .i64 (L.cenE v)]) ∧ Below w.heap.size w w' := by
  have HN := hide hn
  have HR := hide hr
  clear hn hr
  refine calls_marks Try.func24 rfl ?_
  simp only [Try.ntmps24, List.size_toArray, List.length_cons, List.length_nil, Nat.reduceAdd, Nat.reduceSub, Array.replicate_succ, Array.replicate_zero, List.push_toArray, List.append_toArray, List.nil_append, List.cons_append]
  go_upto_region 1 with fail
  obtain ⟨W0, hW0⟩ : ∃ W0, (((w.alloc (.cells #[.int .i64 v.size, .slice A n c, .int .i64 v.wrong, .int .i64 v.hxl, .int .i64 v.hxh, .int .i64 v.hyl, .int .i64 v.hyh] 26)).alloc (.cells #[.int .i64 0] 3)).alloc (.cells #[.int .i64 0, .int .i64 0] 24)).alloc (.cells #[.int .i64 0, .int .i64 0] 24) = W0 := ⟨_, rfl⟩
  have g0 : ∀ i, i < 7 → W0.cell? ⟨w.heap.size, i, none⟩ = (#[.int .i64 v.size, .slice A n c, .int .i64 v.wrong, .int .i64 v.hxl, .int .i64 v.hxh, .int .i64 v.hyl, .int .i64 v.hyh] : Array Value)[i]? := fun i _ => by
    rw [← hW0]; exact (zcP _ _ _ (by first | (simp; done) | (simp; omega))).trans ((zcP _ _ _ (by first | (simp; done) | (simp; omega))).trans ((zcP _ _ _ (by first | (simp; done) | (simp; omega))).trans (zcA _ _ _ _ rfl)))
  have g2 : W0.heap[w.heap.size + 1]? = some (.cells #[.int .i64 0] 3 (0, 0)) := by
    rw [← hW0]; exact (Below.heap_alloc _ _ _ (by first | (simp; done) | (simp; omega))).trans ((Below.heap_alloc _ _ _ (by first | (simp; done) | (simp; omega))).trans ((congrArg _ (by simp)).trans (World.alloc_heap_new _ _)))
  have g3 : W0.heap[w.heap.size + 1 + 1]? = some (.cells #[.int .i64 0, .int .i64 0] 24 (0, 0)) := by
    rw [← hW0]; exact (Below.heap_alloc _ _ _ (by first | (simp; done) | (simp; omega))).trans ((congrArg _ (by simp)).trans (World.alloc_heap_new _ _))
  have g4 : W0.heap[w.heap.size + 1 + 1 + 1]? = some (.cells #[.int .i64 0, .int .i64 0] 24 (0, 0)) := by
    rw [← hW0]; exact (congrArg _ (by simp)).trans (World.alloc_heap_new _ _)
  have gs : W0.heap.size = w.heap.size + 1 + 1 + 1 + 1 := by rw [← hW0]; simp
  have gB : Below w.heap.size w W0 := by rw [← hW0]; (repeat' first | exact zbR _ _ | assumption | refine zbD ?_ | refine zbA ?_ ?_ _ | refine zbS ?_ ?_ _ | refine zbT ?_ (by assumption) ?_ | (simp; done) | (simp; omega) | omega)
  rw [hW0]
  clear hW0
  have s0 := g0 0 (by omega)
  have s1 := g0 1 (by omega)
  have s2 := g0 2 (by omega)
  have s3 := g0 3 (by omega)
  have s4 := g0 4 (by omega)
  have s5 := g0 5 (by omega)
  have s6 := g0 6 (by omega)
  simp at s0 s1 s2 s3 s4 s5 s6
  have l0 : w.heap.size < W0.heap.size := by omega
  have G2 := hide g2
  have G3 := hide g3
  have G4 := hide g4
  have GB := hide gB
  clear g0 g2 g3 g4 gB
  have H := hide h
  clear h
  have E1 := hide (show L.cenN v = 0 by unfold L.cenN; rw [if_neg (by rw [H.out]; omega)])
  have E2 := hide (show L.cenX v = (0, 0) by unfold L.cenX; rw [if_neg (by rw [H.out]; omega)])
  have E3 := hide (show L.cenY v = (0, 0) by unfold L.cenY; rw [if_neg (by rw [H.out]; omega)])
  have E4 := hide (show L.cenE v = 20 by unfold L.cenE; rw [if_neg (by rw [H.out]; omega)]; exact H.out)
  go_wp2_with (go_at_call 35; refine (Check_any v A n c _ HN.out ((HR.out.below GB.out).mono (by omega))).mono ?_; rintro e w2 ⟨rfl, hb2⟩; rw [H.out]; have k2 := (hb2.block (w.heap.size + 1) (by omega)).trans G2.out; have k3 := (hb2.block (w.heap.size + 1 + 1) (by omega)).trans G3.out; have k4 := (hb2.block (w.heap.size + 1 + 1 + 1) (by omega)).trans G4.out; have c2 := (blk_cell k2 0).trans rfl; have c3 := (blk_cell k3 0).trans rfl; have c4 := (blk_cell k3 1).trans rfl; have c5 := (blk_cell k4 0).trans rfl; have c6 := (blk_cell k4 1).trans rfl; have f2 := blk_frozen k2 0; have f3 := blk_frozen k3 0; have f4 := blk_frozen k3 1; have f5 := blk_frozen k4 0; have f6 := blk_frozen k4 1; have K2 := hide k2; have K3 := hide k3; have K4 := hide k4; clear k2 k3 k4)
  rw [E1.out, E2.out, E3.out, E4.out]
  exact ⟨_, cent_results (blk_other (blk_other (blk_other (blk_other (blk_set K2.out 0 (.int .i64 0)) (by omega) 0 (.int .i64 0)) (by omega) 1 (.int .i64 0)) (by omega) 0 (.int .i64 0)) (by omega) 1 (.int .i64 0)) (blk_other (blk_other (blk_set (blk_set (blk_other K3.out (by omega) 0 (.int .i64 0)) 0 (.int .i64 0)) 1 (.int .i64 0)) (by omega) 0 (.int .i64 0)) (by omega) 1 (.int .i64 0)) (blk_set (blk_set (blk_other (blk_other (blk_other K4.out (by omega) 0 (.int .i64 0)) (by omega) 0 (.int .i64 0)) (by omega) 1 (.int .i64 0)) 0 (.int .i64 0)) 1 (.int .i64 0)) rfl rfl rfl rfl rfl rfl rfl, rfl, by (repeat' first | exact zbR _ _ | assumption | refine zbD ?_ | refine zbA ?_ ?_ _ | refine zbS ?_ ?_ _ | refine zbT ?_ (by assumption) ?_ | (simp; done) | (simp; omega) | omega)⟩

end Go.Proofs.Ytgnobonhohfofaa

namespace Go.Proofs.Ytgnobonhohfofaa
open Go.RowKit
attribute [local go_sem ↓] Go.wp_at_zero Go.wp_at_succ
attribute [local go_sem] Oper.semAt_some

theorem below_turn' {B D : Nat} {w W : World} {o : Obj} (h : Below B w W) (hD : B ≤ D) (hB : B ≤ W.heap.size := by first | (have := h.size; omega) | (simp; omega)) : Below B w (W.putObj D o) := h.grown (grownBy_putObj' W D o) hB (fun k e => by cases e; exact hD)
theorem drew_blk {W : World} {g : Nat} {o : Option Obj} (h : W.heap[g]? = o) : W.drew.heap[g]? = o := h
theorem Keeps.st {S : Nat → Prop} {A B : World} {a : Addr} {v : Value} (h : Keeps S A B) (hn : ¬ S a.block) : Keeps S A (B.setCell a v) := h.trans (Keeps.setAt B a v hn)
theorem cells1 {W : World} {g : Nat} {T : TypeId} {cs : Array Value} {a p : Int} (h : W.heap[g]? = some (.cells cs T (0, 0))) (e : cs = #[.int .i64 a]) (ha : a = p) : W.heap[g]? = some (.cells #[.int .i64 p] T (0, 0)) := by
  subst e ha; exact h
theorem cells2 {W : World} {g : Nat} {T : TypeId} {cs : Array Value} {a b p q : Int} (h : W.heap[g]? = some (.cells cs T (0, 0))) (e : cs = #[.int .i64 a, .int .i64 b]) (ha : a = p) (hb : b = q) : W.heap[g]? = some (.cells #[.int .i64 p, .int .i64 q] T (0, 0)) := by
  subst e ha hb; exact h

set_option maxRecDepth 100000 in
set_option maxHeartbeats 3200000 in
theorem Centres_yes (v : L.Vw) (A : Option Addr) (n c : Nat) (w : World) (hn : v.ss.length = n) (hr : RdS w w.heap.size A v.ss) (h : L.checkE v = 0) :
    Calls Try.prog 24 #[.agg #[.int .i64 v.size, .slice A n c, .int .i64 v.wrong, .int .i64 v.hxl, .int .i64 v.hxh, .int .i64 v.hyl, .int .i64 v.hyh]] w fun e w' => e = .returned (.tuple #[.int .i64 (L.cenN v), .agg #[.int .i64 (L.cenX v).1, .int .i64 (L.cenX v).2], .agg #[.int .i64 (L.cenY v).1, .int .i64 (L.cenY v).2], .int .i64 (L.cenE v)]) ∧ Below w.heap.size w w' := by
  have HN := hide hn
  have HR := hide hr
  clear hn hr
  refine calls_marks Try.func24 rfl ?_
  simp only [Try.ntmps24, List.size_toArray, List.length_cons, List.length_nil, Nat.reduceAdd, Nat.reduceSub, Array.replicate_succ, Array.replicate_zero, List.push_toArray, List.append_toArray, List.nil_append, List.cons_append]
  go_upto_region 1 with fail
  obtain ⟨W0, hW0⟩ : ∃ W0, (((w.alloc (.cells #[.int .i64 v.size, .slice A n c, .int .i64 v.wrong, .int .i64 v.hxl, .int .i64 v.hxh, .int .i64 v.hyl, .int .i64 v.hyh] 26)).alloc (.cells #[.int .i64 0] 3)).alloc (.cells #[.int .i64 0, .int .i64 0] 24)).alloc (.cells #[.int .i64 0, .int .i64 0] 24) = W0 := ⟨_, rfl⟩
  have g0 : ∀ i, i < 7 → W0.cell? ⟨w.heap.size, i, none⟩ = (#[.int .i64 v.size, .slice A n c, .int .i64 v.wrong, .int .i64 v.hxl, .int .i64 v.hxh, .int .i64 v.hyl, .int .i64 v.hyh] : Array Value)[i]? := fun i _ => by
    rw [← hW0]; exact (zcP _ _ _ (by first | (simp; done) | (simp; omega))).trans ((zcP _ _ _ (by first | (simp; done) | (simp; omega))).trans ((zcP _ _ _ (by first | (simp; done) | (simp; omega))).trans (zcA _ _ _ _ rfl)))
  have g2 : W0.heap[w.heap.size + 1]? = some (.cells #[.int .i64 0] 3 (0, 0)) := by
    rw [← hW0]; exact (Below.heap_alloc _ _ _ (by first | (simp; done) | (simp; omega))).trans ((Below.heap_alloc _ _ _ (by first | (simp; done) | (simp; omega))).trans ((congrArg _ (by simp)).trans (World.alloc_heap_new _ _)))
  have g3 : W0.heap[w.heap.size + 1 + 1]? = some (.cells #[.int .i64 0, .int .i64 0] 24 (0, 0)) := by
    rw [← hW0]; exact (Below.heap_alloc _ _ _ (by first | (simp; done) | (simp; omega))).trans ((congrArg _ (by simp)).trans (World.alloc_heap_new _ _))
  have g4 : W0.heap[w.heap.size + 1 + 1 + 1]? = some (.cells #[.int .i64 0, .int .i64 0] 24 (0, 0)) := by
    rw [← hW0]; exact (congrArg _ (by simp)).trans (World.alloc_heap_new _ _)
  have gs : W0.heap.size = w.heap.size + 1 + 1 + 1 + 1 := by rw [← hW0]; simp
  have gB : Below w.heap.size w W0 := by rw [← hW0]; (repeat' first | exact zbR _ _ | assumption | refine zbD ?_ | refine zbA ?_ ?_ _ | refine zbS ?_ ?_ _ | refine zbT ?_ (by assumption) ?_ | (simp; done) | (simp; omega) | omega)
  rw [hW0]
  clear hW0
  have s0 := g0 0 (by omega)
  have s1 := g0 1 (by omega)
  have s2 := g0 2 (by omega)
  have s3 := g0 3 (by omega)
  have s4 := g0 4 (by omega)
  have s5 := g0 5 (by omega)
  have s6 := g0 6 (by omega)
  simp at s0 s1 s2 s3 s4 s5 s6
  have l0 : w.heap.size < W0.heap.size := by omega
  have G2 := hide g2
  have G3 := hide g3
  have G4 := hide g4
  have GB := hide gB
  clear g0 g2 g3 g4 gB
  have H := hide h
  have HV := hide (L.checkE_ok h)
  clear h
  go_wp2_with (first | (go_at_call 35; refine (Check_any v A n c _ HN.out ((HR.out.below GB.out).mono (by omega))).mono ?_; rintro e w2 ⟨rfl, hb2⟩; rw [H.out]; obtain ⟨hc, hf⟩ := bcell hb2; have k2 := (hb2.block (w.heap.size + 1) (by omega)).trans G2.out; have k3 := (hb2.block (w.heap.size + 1 + 1) (by omega)).trans G3.out; have k4 := (hb2.block (w.heap.size + 1 + 1 + 1) (by omega)).trans G4.out; have K2 := hide k2; have K3 := hide k3; have K4 := hide k4; clear k2 k3 k4) | (go_at_call 58; refine (trueCentres_any v A n c 0 _).mono ?_; rintro e V ⟨rfl, hVb, hVs, hV0, hV1, hV2, hV3, hV4⟩))
  have z2 := hb2.size
  have hBV : Below w.heap.size w V := GB.out.trans ((hb2.mono (by omega)).trans (hVb.mono (by omega)))
  have v2 : V.heap[w.heap.size + 1]? = some (.cells #[.int .i64 0] 3 (0, 0)) := (hVb.block _ (by omega)).trans K2.out
  have v3 : V.heap[w.heap.size + 1 + 1]? = some (.cells #[.int .i64 0, .int .i64 0] 24 (0, 0)) := (hVb.block _ (by omega)).trans K3.out
  have v4 : V.heap[w.heap.size + 1 + 1 + 1]? = some (.cells #[.int .i64 0, .int .i64 0] 24 (0, 0)) := (hVb.block _ (by omega)).trans K4.out
  have HLen := hide (L.tcents_length HV.out 0)
  refine wp_rangeP (gf := 71) (lb := #[.pointer (some ⟨w2.heap.size, 0, none⟩), .pointer (some ⟨w2.heap.size + 1 + 1, 0, none⟩)]) rfl (enters_of Try.func71 (by kernel_rfl) rfl)
    (trueCentres_seq v A n c 0 w2.heap.size (w2.heap.size + 1) (w2.heap.size + 1 + 1) w.heap.size (fun x => x < V.heap.size ∧ x ≠ w.heap.size + 1 ∧ x ≠ w.heap.size + 1 + 1 ∧ x ≠ w.heap.size + 1 + 1 + 1) V HV.out HN.out hBV.size (HR.out.below hBV) (fun x hx => ⟨by omega, by omega, by omega, by omega⟩) (fun x hx => hx.1) (by omega) (by omega) ⟨by omega, by omega, by omega, by omega⟩ ⟨by omega, by omega, by omega, by omega⟩ ⟨by omega, by omega, by omega, by omega⟩ hV0 hV1 hV2 hV3 hV4) (Below.refl _ _) (fun x hx => hx.1) (fun _ => rfl)
    (fun pre X => Keeps (fun x => x ≠ w.heap.size + 1 ∧ x ≠ w.heap.size + 1 + 1 ∧ x ≠ w.heap.size + 1 + 1 + 1) V X ∧ X.heap[w.heap.size + 1]? = some (.cells #[.int .i64 (pre.length : Int)] 3 (0, 0)) ∧ X.heap[w.heap.size + 1 + 1]? = some (.cells #[.int .i64 (L.spanOf (·.1) pre).1, .int .i64 (L.spanOf (·.1) pre).2] 24 (0, 0)) ∧ X.heap[w.heap.size + 1 + 1 + 1]? = some (.cells #[.int .i64 (L.spanOf (·.2) pre).1, .int .i64 (L.spanOf (·.2) pre).2] 24 (0, 0)))
    (fun _ _ _ => False)
    (OwnFrom.and (keeps_own (Nat.le_refl _)) (OwnFrom.and (own_block (by omega) _) (OwnFrom.and (own_block (by omega) _) (own_block (by omega) _))))
    (fun _ _ _ _ _ hs _ _ => hs)
    ⟨Keeps.refl _ _, v2, v3, v4⟩ ?a1 ?assign ?body ?done ?stop
  case assign =>
    intro l2 x X K hK
    simp only [encP]
    gi_wp2
    exact hK
  case body =>
    rintro l2 pre x X ⟨hK, h2, h3, h4⟩ hpre
    have hmem := hpre.subset (List.mem_append_right _ (List.mem_singleton.2 rfl))
    obtain ⟨hx0, hx1, hy0, hy1⟩ := L.mem_cents (List.mem_filter.1 hmem).1
    have zs := HV.out.s1
    have z3 := hK.rest.size
    have hlen : pre.length < 1681 := by have := hpre.length_le; rw [List.length_append, List.length_singleton] at this; have := HLen.out; omega
    obtain ⟨x1, x2⟩ := x
    dsimp only at hx0 hx1 hy0 hy1
    have HK := hide hK
    clear hK hmem hpre
    by_cases hp : pre = []
    · subst hp
      have h2' : X.heap[w.heap.size + 1]? = some (.cells #[.int .i64 0] 3 (0, 0)) := h2
      have h3' : X.heap[w.heap.size + 1 + 1]? = some (.cells #[.int .i64 0, .int .i64 0] 24 (0, 0)) := h3
      have h4' : X.heap[w.heap.size + 1 + 1 + 1]? = some (.cells #[.int .i64 0, .int .i64 0] 24 (0, 0)) := h4
      have c2 := (blk_cell h2' 0).trans rfl
      have c3 := (blk_cell h3' 0).trans rfl
      have c4 := (blk_cell h3' 1).trans rfl
      have c5 := (blk_cell h4' 0).trans rfl
      have c6 := (blk_cell h4' 1).trans rfl
      have f2 := blk_frozen h2' 0
      have f3 := blk_frozen h3' 0
      have f4 := blk_frozen h3' 1
      have f5 := blk_frozen h4' 0
      have f6 := blk_frozen h4' 1
      have H2 := hide h2'
      have H3 := hide h3'
      have H4 := hide h4'
      clear h2 h3 h4 h2' h3' h4'
      gi_wp2
      refine ⟨?_, ?_, ?_, ?_, ?_⟩
      · (repeat (first | (with_reducible exact Keeps.refl _ _) | ((with_reducible refine Keeps.st ?_ ?_); rotate_left 1; (intro h; dsimp only at h; omega))))
      · (repeat (first | (with_reducible exact HK.out) | ((with_reducible refine Keeps.st ?_ ?_); rotate_left 1; (intro h; dsimp only at h; omega))))
      · exact cells1 (blk_other (blk_other (blk_other (blk_other (blk_set (blk_other (blk_other (blk_other (blk_other (H2.out) (by omega) 0 (.int .i64 x1)) (by omega) 1 (.int .i64 x1)) (by omega) 0 (.int .i64 x2)) (by omega) 1 (.int .i64 x2)) 0 (.int .i64 1)) (by omega) 0 (.int .i64 x1)) (by omega) 1 (.int .i64 x1)) (by omega) 0 (.int .i64 x2)) (by omega) 1 (.int .i64 x2)) rfl (by simp)
      · exact cells2 (blk_other (blk_other (blk_set (blk_set (blk_other (blk_other (blk_other (blk_set (blk_set (H3.out) 0 (.int .i64 x1)) 1 (.int .i64 x1)) (by omega) 0 (.int .i64 x2)) (by omega) 1 (.int .i64 x2)) (by omega) 0 (.int .i64 1)) 0 (.int .i64 x1)) 1 (.int .i64 x1)) (by omega) 0 (.int .i64 x2)) (by omega) 1 (.int .i64 x2)) rfl rfl rfl
      · exact cells2 (blk_set (blk_set (blk_other (blk_other (blk_other (blk_set (blk_set (blk_other (blk_other (H4.out) (by omega) 0 (.int .i64 x1)) (by omega) 1 (.int .i64 x1)) 0 (.int .i64 x2)) 1 (.int .i64 x2)) (by omega) 0 (.int .i64 1)) (by omega) 0 (.int .i64 x1)) (by omega) 1 (.int .i64 x1)) 0 (.int .i64 x2)) 1 (.int .i64 x2)) rfl rfl rfl
    · have hpos : 0 < pre.length := List.length_pos_iff.2 hp
      obtain ⟨lx, ux, hX⟩ : ∃ lx ux, L.spanOf (·.1) pre = (lx, ux) := ⟨_, _, rfl⟩
      obtain ⟨ly, uy, hY⟩ : ∃ ly uy, L.spanOf (·.2) pre = (ly, uy) := ⟨_, _, rfl⟩
      obtain ⟨m, hm⟩ : ∃ m : Int, (pre.length : Int) = m := ⟨_, rfl⟩
      have h2' : X.heap[w.heap.size + 1]? = some (.cells #[.int .i64 m] 3 (0, 0)) := by rw [← hm]; exact h2
      have h3' : X.heap[w.heap.size + 1 + 1]? = some (.cells #[.int .i64 lx, .int .i64 ux] 24 (0, 0)) := by rw [hX] at h3; exact h3
      have h4' : X.heap[w.heap.size + 1 + 1 + 1]? = some (.cells #[.int .i64 ly, .int .i64 uy] 24 (0, 0)) := by rw [hY] at h4; exact h4
      have c2 := (blk_cell h2' 0).trans rfl
      have f2 := blk_frozen h2' 0
      have c3 := (blk_cell h3' 0).trans rfl
      have f3 := blk_frozen h3' 0
      have c4 := (blk_cell h3' 1).trans rfl
      have f4 := blk_frozen h3' 1
      have c5 := (blk_cell h4' 0).trans rfl
      have f5 := blk_frozen h4' 0
      have c6 := (blk_cell h4' 1).trans rfl
      have f6 := blk_frozen h4' 1
      have EX := hide (show L.spanOf (·.1) (pre ++ [(x1, x2)]) = (min lx x1, max ux x1) by rw [L.spanOf_snoc _ _ _ hp, hX])
      have EY := hide (show L.spanOf (·.2) (pre ++ [(x1, x2)]) = (min ly x2, max uy x2) by rw [L.spanOf_snoc _ _ _ hp, hY])
      have EN := hide (show ((pre ++ [(x1, x2)]).length : Int) = m + 1 by rw [List.length_append, ← hm]; simp)
      have m0 : 1 ≤ m := by omega
      have m1 : m ≤ 1681 := by omega
      have H2 := hide h2'
      have H3 := hide h3'
      have H4 := hide h4'
      clear h2 h3 h4 h2' h3' h4' hX hY hm hpos hp
      gi_wp2
      all_goals
        refine ⟨?_, ?_, ?_, ?_, ?_⟩
        · (repeat (first | (with_reducible exact Keeps.refl _ _) | ((with_reducible refine Keeps.st ?_ ?_); rotate_left 1; (intro h; dsimp only at h; omega))))
        · (repeat (first | (with_reducible exact HK.out) | ((with_reducible refine Keeps.st ?_ ?_); rotate_left 1; (intro h; dsimp only at h; omega))))
        · rw [EN.out]; exact cells1 (blk_other (blk_other (blk_other (blk_other (blk_set (H2.out) 0 (_)) (by omega) 0 (_)) (by omega) 1 (_)) (by omega) 0 (_)) (by omega) 1 (_)) rfl rfl
        · rw [EX.out]; exact cells2 (blk_other (blk_other (blk_set (blk_set (blk_other (H3.out) (by omega) 0 (_)) 0 (_)) 1 (_)) (by omega) 0 (_)) (by omega) 1 (_)) rfl (by dsimp only; omega) (by dsimp only; omega)
        · rw [EY.out]; exact cells2 (blk_set (blk_set (blk_other (blk_other (blk_other (H4.out) (by omega) 0 (_)) (by omega) 0 (_)) (by omega) 1 (_)) 0 (_)) 1 (_)) rfl (by dsimp only; omega) (by dsimp only; omega)
  case done =>
    rintro D X hD ⟨hK, h2, h3, h4⟩ hdef
    have z3 := hK.rest.size
    have hbX := hBV.trans (hK.below (n := w.heap.size) (fun y hy => ⟨by omega, by omega, by omega⟩) (by omega))
    have E1 := hide (show L.cenN v = ((L.tcents v 0).length : Int) by unfold L.cenN; rw [if_pos H.out])
    have E2 := hide (show L.cenX v = L.spanOf (·.1) (L.tcents v 0) by unfold L.cenX; rw [if_pos H.out])
    have E3 := hide (show L.cenY v = L.spanOf (·.2) (L.tcents v 0) by unfold L.cenY; rw [if_pos H.out])
    have E4 := hide (show L.cenE v = if L.tcents v 0 = [] then 3 else 0 by unfold L.cenE; rw [if_pos H.out])
    clear hK
    by_cases hT : L.tcents v 0 = []
    · rw [hT] at h2 h3 h4 E1 E2 E3 E4
      rw [if_pos rfl] at E4
      have h2' : X.heap[w.heap.size + 1]? = some (.cells #[.int .i64 0] 3 (0, 0)) := h2
      have h3' : X.heap[w.heap.size + 1 + 1]? = some (.cells #[.int .i64 0, .int .i64 0] 24 (0, 0)) := h3
      have h4' : X.heap[w.heap.size + 1 + 1 + 1]? = some (.cells #[.int .i64 0, .int .i64 0] 24 (0, 0)) := h4
      have c2 := (blk_cell h2' 0).trans rfl
      have f2 := blk_frozen h2' 0
      have c3 := (blk_cell h3' 0).trans rfl
      have f3 := blk_frozen h3' 0
      have c4 := (blk_cell h3' 1).trans rfl
      have f4 := blk_frozen h3' 1
      have c5 := (blk_cell h4' 0).trans rfl
      have f5 := blk_frozen h4' 0
      have c6 := (blk_cell h4' 1).trans rfl
      have f6 := blk_frozen h4' 1
      have H2 := hide h2'
      have H3 := hide h3'
      have H4 := hide h4'
      clear h2 h3 h4 h2' h3' h4'
      go_wp2
      refine ⟨by simp, .inl ⟨_, _, rfl, run_takeDeferred (blk_other (blk_other (blk_other (blk_other (blk_other (hdef) (by omega) 0 (.int .i64 0)) (by omega) 0 (.int .i64 0)) (by omega) 1 (.int .i64 0)) (by omega) 0 (.int .i64 0)) (by omega) 1 (.int .i64 0)), ?_⟩⟩
      rw [E1.out, E2.out, E3.out, E4.out]
      exact ⟨_, cent_results ((World.putObj_heap_other (by omega)).trans (blk_other (blk_other (blk_other (blk_other (blk_set (H2.out) 0 (.int .i64 0)) (by omega) 0 (.int .i64 0)) (by omega) 1 (.int .i64 0)) (by omega) 0 (.int .i64 0)) (by omega) 1 (.int .i64 0))) ((World.putObj_heap_other (by omega)).trans (blk_other (blk_other (blk_set (blk_set (blk_other (H3.out) (by omega) 0 (.int .i64 0)) 0 (.int .i64 0)) 1 (.int .i64 0)) (by omega) 0 (.int .i64 0)) (by omega) 1 (.int .i64 0))) ((World.putObj_heap_other (by omega)).trans (blk_set (blk_set (blk_other (blk_other (blk_other (H4.out) (by omega) 0 (.int .i64 0)) (by omega) 0 (.int .i64 0)) (by omega) 1 (.int .i64 0)) 0 (.int .i64 0)) 1 (.int .i64 0))) rfl rfl rfl rfl rfl rfl rfl, rfl, below_turn' (by (repeat' first | exact zbR _ _ | assumption | refine zbD ?_ | refine zbA ?_ ?_ _ | refine zbS ?_ ?_ _ | refine zbT ?_ (by assumption) ?_ | (simp; done) | (simp; omega) | omega)) (by omega)⟩
    · have hpos : 0 < (L.tcents v 0).length := List.length_pos_iff.2 hT
      rw [if_neg hT] at E4
      obtain ⟨lx, ux, hX⟩ : ∃ lx ux, L.spanOf (·.1) (L.tcents v 0) = (lx, ux) := ⟨_, _, rfl⟩
      obtain ⟨ly, uy, hY⟩ : ∃ ly uy, L.spanOf (·.2) (L.tcents v 0) = (ly, uy) := ⟨_, _, rfl⟩
      obtain ⟨m, hm⟩ : ∃ m : Int, ((L.tcents v 0).length : Int) = m := ⟨_, rfl⟩
      have h2' : X.heap[w.heap.size + 1]? = some (.cells #[.int .i64 m] 3 (0, 0)) := by rw [← hm]; exact h2
      have h3' : X.heap[w.heap.size + 1 + 1]? = some (.cells #[.int .i64 lx, .int .i64 ux] 24 (0, 0)) := by rw [hX] at h3; exact h3
      have h4' : X.heap[w.heap.size + 1 + 1 + 1]? = some (.cells #[.int .i64 ly, .int .i64 uy] 24 (0, 0)) := by rw [hY] at h4; exact h4
      rw [hm] at E1
      rw [hX] at E2
      rw [hY] at E3
      have c2 := (blk_cell h2' 0).trans rfl
      have f2 := blk_frozen h2' 0
      have c3 := (blk_cell h3' 0).trans rfl
      have f3 := blk_frozen h3' 0
      have c4 := (blk_cell h3' 1).trans rfl
      have f4 := blk_frozen h3' 1
      have c5 := (blk_cell h4' 0).trans rfl
      have f5 := blk_frozen h4' 0
      have c6 := (blk_cell h4' 1).trans rfl
      have f6 := blk_frozen h4' 1
      have m0 : 1 ≤ m := by omega
      have m1 : (m == 0) = false := by simp; omega
      have H2 := hide h2'
      have H3 := hide h3'
      have H4 := hide h4'
      clear h2 h3 h4 h2' h3' h4' hX hY hm hpos hT
      go_wp2
      go_region
      all_goals
        go_wp2
        refine ⟨by simp, .inl ⟨_, _, rfl, run_takeDeferred (drew_blk (blk_other (blk_other (blk_other (blk_other (blk_other (hdef) (by omega) 0 (.int .i64 m)) (by omega) 0 (.int .i64 lx)) (by omega) 1 (.int .i64 ux)) (by omega) 0 (.int .i64 ly)) (by omega) 1 (.int .i64 uy))), ?_⟩⟩
        rw [E1.out, E2.out, E3.out, E4.out]
        exact ⟨_, cent_results ((World.putObj_heap_other (by omega)).trans (drew_blk (blk_other (blk_other (blk_other (blk_other (blk_set (H2.out) 0 (.int .i64 m)) (by omega) 0 (.int .i64 lx)) (by omega) 1 (.int .i64 ux)) (by omega) 0 (.int .i64 ly)) (by omega) 1 (.int .i64 uy)))) ((World.putObj_heap_other (by omega)).trans (drew_blk (blk_other (blk_other (blk_set (blk_set (blk_other (H3.out) (by omega) 0 (.int .i64 m)) 0 (.int .i64 lx)) 1 (.int .i64 ux)) (by omega) 0 (.int .i64 ly)) (by omega) 1 (.int .i64 uy)))) ((World.putObj_heap_other (by omega)).trans (drew_blk (blk_set (blk_set (blk_other (blk_other (blk_other (H4.out) (by omega) 0 (.int .i64 m)) (by omega) 0 (.int .i64 lx)) (by omega) 1 (.int .i64 ux)) 0 (.int .i64 ly)) 1 (.int .i64 uy)))) rfl rfl rfl rfl rfl rfl rfl, rfl, below_turn' (by (repeat' first | exact zbR _ _ | assumption | refine zbD ?_ | refine zbA ?_ ?_ _ | refine zbS ?_ ?_ _ | refine zbT ?_ (by assumption) ?_ | (simp; done) | (simp; omega) | omega)) (by omega)⟩
  case stop =>
    rintro D cd pre X _ _ h _
    exact h.elim

end Go.Proofs.Ytgnobonhohfofaa

namespace Go.Proofs.Ytgnobonhohfofaa
open Go.RowKit
attribute [local go_sem ↓] Go.wp_at_zero Go.wp_at_succ

namespace L
def exV : Vw := ⟨10, [⟨1, 0, 4, 5⟩, ⟨0, 1, 6, 6⟩, ⟨1, 1, 9, 12⟩], 0, 2, 2, 1, 2⟩
def exB : Bx := ⟨0, 3, 0, 10⟩
theorem ex_call : callV exV exB = 1 ∧ callE exV exB = 0 := by decide +kernel
theorem ex_cen : cenN exV = 2 ∧ cenX exV = (4, 5) ∧ cenY exV = (6, 6) ∧ cenE exV = 0 := by decide +kernel
theorem ex_dec : decV 2 exV exB = 1 ∧ decK 2 exV exB = true ∧ decE 2 exV exB = 0 := by decide +kernel
end L
def LExPost (w : World) (e : Ending) (w' : World) : Prop :=
  ∃ A : Option Addr, e = .returned (.tuple #[.agg #[.int .i64 (L.exV).size, .slice A 3 3, .int .i64 (L.exV).wrong, .int .i64 (L.exV).hxl, .int .i64 (L.exV).hxh, .int .i64 (L.exV).hyl, .int .i64 (L.exV).hyh], .agg #[.int .i64 (L.exB).l, .int .i64 (L.exB).r, .int .i64 (L.exB).b, .int .i64 (L.exB).t]]) ∧ RdS w' w'.heap.size A L.exV.ss ∧ Below w.heap.size w w'

theorem ex_results {Z : World} {g0 g1 : Nat} {A : Option Addr} {cs0 cs1 tmps : Array Value} (h0 : Z.heap[g0]? = some (.cells cs0 26 (0, 0))) (h1 : Z.heap[g1]? = some (.cells cs1 28 (0, 0)))
    (e0 : cs0 = #[.int .i64 10, .slice A 3 3, .int .i64 0, .int .i64 2, .int .i64 2, .int .i64 1, .int .i64 2]) (e1 : cs1 = #[.int .i64 0, .int .i64 3, .int .i64 0, .int .i64 10]) (t0 : tmps[0]? = some (.pointer (some ⟨g0, 0, none⟩))) (t1 : tmps[1]? = some (.pointer (some ⟨g1, 0, none⟩))) :
    (results Try.f46 tmps).run Try.prog Z = .ok (.tuple #[.agg #[.int .i64 10, .slice A 3 3, .int .i64 0, .int .i64 2, .int .i64 2, .int .i64 1, .int .i64 2], .agg #[.int .i64 0, .int .i64 3, .int .i64 0, .int .i64 10]]) Z := by
  subst e0 e1
  have a0 : Z.cell? ⟨g0, 0, none⟩ = some (.int .i64 10) := blk_cell h0 0
  have a1 : Z.cell? ⟨g0, 1, none⟩ = some (.slice A 3 3) := blk_cell h0 1
  have a2 : Z.cell? ⟨g0, 2, none⟩ = some (.int .i64 0) := blk_cell h0 2
  have a3 : Z.cell? ⟨g0, 3, none⟩ = some (.int .i64 2) := blk_cell h0 3
  have a4 : Z.cell? ⟨g0, 4, none⟩ = some (.int .i64 2) := blk_cell h0 4
  have a5 : Z.cell? ⟨g0, 5, none⟩ = some (.int .i64 1) := blk_cell h0 5
  have a6 : Z.cell? ⟨g0, 6, none⟩ = some (.int .i64 2) := blk_cell h0 6
  have b0 : Z.cell? ⟨g1, 0, none⟩ = some (.int .i64 0) := blk_cell h1 0
  have b1 : Z.cell? ⟨g1, 1, none⟩ = some (.int .i64 3) := blk_cell h1 1
  have b2 : Z.cell? ⟨g1, 2, none⟩ = some (.int .i64 0) := blk_cell h1 2
  have b3 : Z.cell? ⟨g1, 3, none⟩ = some (.int .i64 10) := blk_cell h1 3
  simp [results, Try.results46, go_sem, t0, t1, a0, a1, a2, a3, a4, a5, a6, b0, b1, b2, b3]

theorem RdS.ofBlock {W : World} {g : Nat} {cs : Array Value} {t : TypeId} {ss : List L.St} (h : W.heap[g]? = some (.cells cs t (0, 0))) (hc : ∀ (k : Nat) (s : L.St), ss[k]? = some s → cs[k * 4]? = some (.int .i64 s.p) ∧ cs[k * 4 + 1]? = some (.int .i64 s.q) ∧ cs[k * 4 + 1 + 1]? = some (.int .i64 s.lo) ∧ cs[k * 4 + 1 + 1 + 1]? = some (.int .i64 s.hi)) :
    RdS W W.heap.size (some ⟨g, 0, Option.none⟩) ss := fun k s hk => by
  obtain ⟨h0, h1, h2, h3⟩ := hc k s hk
  refine ⟨g, 0, rfl, (Array.getElem?_eq_some_iff.1 h).1, ?_, ?_, ?_, ?_⟩
  · rw [Nat.zero_add, blk_cell h]; exact h0
  · rw [Nat.zero_add, blk_cell h]; exact h1
  · rw [Nat.zero_add, blk_cell h]; exact h2
  · rw [Nat.zero_add, blk_cell h]; exact h3

set_option maxHeartbeats 2000000 in
set_option maxRecDepth 100000 in
theorem Example_any (w : World) : Calls Try.prog 46 #[] w fun e w' => LExPost w e w' := by
  go_enter Try.func46, Try.ntmps46
  go_wp2
  have hb2 : ∀ (V : World) (o : Obj), (V.alloc o).heap[V.heap.size]? = some o := fun V o => World.alloc_heap_new V o
  refine bodyPost_ret (v := .tuple #[.agg #[.int .i64 10, .slice (some ⟨w.heap.size + 1 + 1, 0, none⟩) 3 3, .int .i64 0, .int .i64 2, .int .i64 2, .int .i64 1, .int .i64 2], .agg #[.int .i64 0, .int .i64 3, .int .i64 0, .int .i64 10]]) (ex_results (g0 := w.heap.size) (g1 := w.heap.size + 1) ((Below.heap_alloc _ _ _ (by first | (simp; done) | (simp; omega) | omega)).trans ((Below.heap_alloc _ _ _ (by first | (simp; done) | (simp; omega) | omega)).trans (hb2 _ _))) ((Below.heap_alloc _ _ _ (by first | (simp; done) | (simp; omega) | omega)).trans ((congrArg _ (by simp)).trans (hb2 _ _))) rfl rfl rfl rfl) rfl ?_
  refine ⟨_, rfl, RdS.ofBlock ((congrArg _ (by simp)).trans (hb2 _ _)) ?_, by (repeat' first | exact zbR _ _ | assumption | refine zbD ?_ | refine zbA ?_ ?_ _ | refine zbS ?_ ?_ _ | refine zbT ?_ (by assumption) ?_ | (simp; done) | (simp; omega) | omega)⟩
  intro k s hk
  have hkl : k < 3 := (List.getElem?_eq_some_iff.1 hk).1
  match k, hkl with
  | 0, _ | 1, _ | 2, _ =>
    have hx : _ = s := Option.some.inj hk
    subst hx
    exact ⟨rfl, rfl, rfl, rfl⟩

end Go.Proofs.Ytgnobonhohfofaa

namespace Go.Proofs.Ytgnobonhohfofaa
open Go.RowKit
attribute [local go_sem ↓] Go.wp_at_zero Go.wp_at_succ

theorem ExL (w : World) : Calls Try.prog 46 #[] w fun e w' => ∃ A : Option Addr, e = .returned (.tuple #[.agg #[.int .i64 10, .slice A 3 3, .int .i64 0, .int .i64 2, .int .i64 2, .int .i64 1, .int .i64 2], .agg #[.int .i64 0, .int .i64 3, .int .i64 0, .int .i64 10]]) ∧ Hid (RdS w' w'.heap.size A L.exV.ss) ∧ Below w.heap.size w w' :=
  (Example_any w).mono fun _ _ ⟨A, h1, h2, h3⟩ => ⟨A, h1, h2, h3⟩
theorem Call_ex (A : Option Addr) (w : World) (hr : RdS w w.heap.size A L.exV.ss) :
    Calls Try.prog 17 #[.agg #[.int .i64 10, .slice A 3 3, .int .i64 0, .int .i64 2, .int .i64 2, .int .i64 1, .int .i64 2], .agg #[.int .i64 0, .int .i64 3, .int .i64 0, .int .i64 10]] w fun e w' => e = .returned (.tuple #[.int .i64 1, .int .i64 0]) ∧ Below w.heap.size w w' := by
  refine (Call_any L.exV A 3 3 L.exB w rfl hr).mono ?_
  rintro e w' ⟨rfl, hb⟩
  rw [L.ex_call.1, L.ex_call.2]
  exact ⟨rfl, hb⟩
theorem Centres_ex (A : Option Addr) (w : World) (hr : RdS w w.heap.size A L.exV.ss) :
    Calls Try.prog 24 #[.agg #[.int .i64 10, .slice A 3 3, .int .i64 0, .int .i64 2, .int .i64 2, .int .i64 1, .int .i64 2]] w fun e w' => e = .returned (.tuple #[.int .i64 2, .agg #[.int .i64 4, .int .i64 5], .agg #[.int .i64 6, .int .i64 6], .int .i64 0]) ∧ Below w.heap.size w w' := by
  refine (Centres_yes L.exV A 3 3 w rfl hr (by decide +kernel)).mono ?_
  rintro e w' ⟨rfl, hb⟩
  obtain ⟨h1, h2, h3, h4⟩ := L.ex_cen
  rw [h1, h2, h3, h4]
  exact ⟨rfl, hb⟩
theorem Decide_ex (A : Option Addr) (w : World) (hr : RdS w w.heap.size A L.exV.ss) :
    Calls Try.prog 32 #[.int .i64 2, .agg #[.int .i64 10, .slice A 3 3, .int .i64 0, .int .i64 2, .int .i64 2, .int .i64 1, .int .i64 2], .agg #[.int .i64 0, .int .i64 3, .int .i64 0, .int .i64 10]] w fun e w' => e = .returned (.tuple #[.int .i64 1, .bool true, .int .i64 0]) ∧ Below w.heap.size w w' := by
  refine (Decide_any 2 L.exV A 3 3 L.exB w rfl hr).mono ?_
  rintro e w' ⟨rfl, hb⟩
  obtain ⟨h1, h2, h3⟩ := L.ex_dec
  rw [h1, h2, h3]
  exact ⟨rfl, hb⟩

set_option maxRecDepth 100000 in
set_option maxHeartbeats 3200000 in
theorem works_any (w : World) : Calls Try.prog 16 #[] w fun e w' => e = .returned (.bool true) ∧ Below w.heap.size w w' := by
  go_enter Try.func16, Try.ntmps16
  go_upto_region 2 with (go_at_call 46; refine (ExL _).mono ?_; rintro e w1 ⟨A, rfl, hr1, hb1⟩)
  obtain ⟨W1, hW1⟩ : ∃ W1, (w1.alloc (.cells #[.int .i64 10, .slice A 3 3, .int .i64 0, .int .i64 2, .int .i64 2, .int .i64 1, .int .i64 2] 26)).alloc (.cells #[.int .i64 0, .int .i64 3, .int .i64 0, .int .i64 10] 28) = W1 := ⟨_, rfl⟩
  have a0 : W1.cell? ⟨w1.heap.size, 0, none⟩ = some (.int .i64 10) := by rw [← hW1]; exact (zcP _ _ _ (by first | (simp; done) | (simp; omega))).trans (zcA _ _ _ _ rfl)
  have a1 : W1.cell? ⟨w1.heap.size, 1, none⟩ = some (.slice A 3 3) := by rw [← hW1]; exact (zcP _ _ _ (by first | (simp; done) | (simp; omega))).trans (zcA _ _ _ _ rfl)
  have a2 : W1.cell? ⟨w1.heap.size, 2, none⟩ = some (.int .i64 0) := by rw [← hW1]; exact (zcP _ _ _ (by first | (simp; done) | (simp; omega))).trans (zcA _ _ _ _ rfl)
  have a3 : W1.cell? ⟨w1.heap.size, 3, none⟩ = some (.int .i64 2) := by rw [← hW1]; exact (zcP _ _ _ (by first | (simp; done) | (simp; omega))).trans (zcA _ _ _ _ rfl)
  have a4 : W1.cell? ⟨w1.heap.size, 4, none⟩ = some (.int .i64 2) := by rw [← hW1]; exact (zcP _ _ _ (by first | (simp; done) | (simp; omega))).trans (zcA _ _ _ _ rfl)
  have a5 : W1.cell? ⟨w1.heap.size, 5, none⟩ = some (.int .i64 1) := by rw [← hW1]; exact (zcP _ _ _ (by first | (simp; done) | (simp; omega))).trans (zcA _ _ _ _ rfl)
  have a6 : W1.cell? ⟨w1.heap.size, 6, none⟩ = some (.int .i64 2) := by rw [← hW1]; exact (zcP _ _ _ (by first | (simp; done) | (simp; omega))).trans (zcA _ _ _ _ rfl)
  have b0 : W1.cell? ⟨w1.heap.size + 1, 0, none⟩ = some (.int .i64 0) := by rw [← hW1]; exact zcA _ _ _ _ (by simp)
  have b1 : W1.cell? ⟨w1.heap.size + 1, 1, none⟩ = some (.int .i64 3) := by rw [← hW1]; exact zcA _ _ _ _ (by simp)
  have b2 : W1.cell? ⟨w1.heap.size + 1, 2, none⟩ = some (.int .i64 0) := by rw [← hW1]; exact zcA _ _ _ _ (by simp)
  have b3 : W1.cell? ⟨w1.heap.size + 1, 3, none⟩ = some (.int .i64 10) := by rw [← hW1]; exact zcA _ _ _ _ (by simp)
  have hs1 : W1.heap.size = w1.heap.size + 1 + 1 := by rw [← hW1]; simp
  have hB1 : Below w1.heap.size w1 W1 := by rw [← hW1]; (repeat' first | exact zbR _ _ | assumption | refine zbD ?_ | refine zbA ?_ ?_ _ | refine zbS ?_ ?_ _ | refine zbT ?_ (by assumption) ?_ | (simp; done) | (simp; omega) | omega)
  rw [hW1]
  clear hW1
  have hz1 : w1.heap.size + 1 < W1.heap.size := by omega
  have hy1 : w1.heap.size < W1.heap.size := by omega
  go_wp2_with (first
    | (go_at_call 17; refine (Call_ex A _ ((hr1.out.below hB1).mono (by omega))).mono ?_; rintro e w2 ⟨rfl, hb2⟩; obtain ⟨hc2, hf2⟩ := bcell hb2; have hz2 : w1.heap.size + 1 < w2.heap.size := (by have := hb2.size; omega); have hy2 : w1.heap.size < w2.heap.size := (by omega))
    | (go_at_call 24; refine (Centres_ex A _ ((hr1.out.below (hB1.trans (hb2.mono (by omega)))).mono (by omega))).mono ?_; rintro e w3 ⟨rfl, hb3⟩; obtain ⟨hc3, hf3⟩ := bcell hb3; have hz3 : w1.heap.size + 1 < w3.heap.size := (by have := hb3.size; omega); have hy3 : w1.heap.size < w3.heap.size := (by omega))
    | (go_at_call 32; refine (Decide_ex A _ ((hr1.out.below (by (repeat' first | exact zbR _ _ | assumption | refine zbD ?_ | refine zbA ?_ ?_ _ | refine zbS ?_ ?_ _ | refine zbT ?_ (by assumption) ?_ | (simp; done) | (simp; omega) | omega))).mono (by first | (simp; done) | (simp; omega) | omega))).mono ?_; rintro e w4 ⟨rfl, hb4⟩; obtain ⟨hc4, hf4⟩ := bcell hb4; have hz4 : w3.heap.size + 1 < w4.heap.size := (by have := hb4.size; (try simp at this); omega); have hy4 : w3.heap.size < w4.heap.size := (by omega)))
  have q1 := hb1.size
  have q2 := hb2.size
  have q3 := hb3.size
  go_ret
  exact ⟨rfl, (((hb1.trans (hB1.mono q1)).trans (hb2.mono (by omega))).trans (hb3.mono (by omega))).trans ((((Below.refl _ w3).alloc (Nat.le_refl _) _).alloc (by simp) _).trans (hb4.mono (by simp; omega)) |>.mono (by omega))⟩

end Go.Proofs.Ytgnobonhohfofaa
