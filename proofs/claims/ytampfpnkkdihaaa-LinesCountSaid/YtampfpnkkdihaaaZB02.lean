/-
  Part of a claim's texts: contracts of the program's functions and the plain functions that they compute, in build order.
-/
import Derived.Maps.AppendAt
import Derived.Laws.AppendOwnNone
import Derived.Deep.AppendLies
import Derived.OwnWalk
import Derived.Deep.RegionHeld3
import Derived.KernelRfl
import Derived.Deep.CutRange
import Derived.Deep.DeepCutAuto
import Derived.Test.YtampfpnkkdihaaaZB01
namespace Go.Proofs.Ytampfpnkkdihaaa
open Go.RowKit

def RdI (w : World) (B : Nat) (A : Option Addr) (xs : List Int) : Prop :=
  ∀ (k : Nat) (x : Int), xs[k]? = some x → ∃ b o : Nat, A = some ⟨b, o, none⟩ ∧ b < B ∧ w.cell? ⟨b, o + k, none⟩ = some (.int .i64 x)
theorem RdI.below {w w' : World} {B : Nat} {A : Option Addr} {xs : List Int} (h : RdI w B A xs) (hb : Below B w w') : RdI w' B A xs := fun k p hk => by
  obtain ⟨b, o, e, hB, c0⟩ := h k p hk
  exact ⟨b, o, e, hB, (hb.cell (p := ⟨b, o + k, none⟩) hB).trans c0⟩
theorem RdI.mono {w : World} {B B' : Nat} {A : Option Addr} {xs : List Int} (h : RdI w B A xs) (hB : B ≤ B') : RdI w B' A xs := fun k p hk => by
  obtain ⟨b, o, e, hB, c0⟩ := h k p hk
  exact ⟨b, o, e, by omega, c0⟩
theorem RdI.nil (w : World) (B : Nat) (A : Option Addr) : RdI w B A [] := fun k p h => by simp at h
def flatI (xs : List Int) : List Value := xs.map fun x => .int .i64 x
theorem flatI_at {xs : List Int} {k : Nat} {x : Int} (h : xs[k]? = some x) : (flatI xs)[k]? = some (.int .i64 x) := by
  unfold flatI; rw [List.getElem?_map, h]; rfl
theorem flatI_one (xs : List Int) : ∀ u ∈ flatI xs, u.oneCell' = true := by
  intro u hu
  simp only [flatI, List.mem_map] at hu
  obtain ⟨x, _, rfl⟩ := hu
  rfl
theorem owns_RdI {w : World} {base : Nat} {A : Option Addr} {n c : Nat} {xs : List Int} (h : w.ownsRow base 3 1 (.slice A n c) n (flatI xs)) (hn : xs.length = n) : RdI w w.heap.size A xs := by
  intro k p hk
  have hkl : k < n := by rw [← hn]; exact (List.getElem?_eq_some_iff.1 hk).1
  obtain ⟨g, cap, e, hbg, hh⟩ := h.form (by omega)
  have e' : A = some ⟨g, 0, none⟩ ∧ c = cap := by
    simp only [Value.slice.injEq] at e
    exact ⟨e.1, e.2.2⟩
  obtain ⟨rfl, rfl⟩ := e'
  refine ⟨g, 0, rfl, ?_, ?_⟩
  · exact (h.lt g rfl).2
  · rw [Nat.zero_add, h.cellAt k (by omega)]; exact flatI_at hk
theorem int_info : (Try.prog.info? 3).map (fun i => (i.zero, i.size, i.bytes)) = some (some (.int .i64 0), 1, 8) := by kernel_rfl
theorem RdI.none {w : World} {B : Nat} {xs : List Int} (h : RdI w B none xs) : xs = [] := by
  match xs, h with
  | [], _ => rfl
  | x :: r, h => obtain ⟨_, _, e, _⟩ := h 0 x rfl; cases e

theorem flatI_app (a b : List Int) : flatI (a ++ b) = flatI a ++ flatI b := by unfold flatI; simp
theorem flatI_length (a : List Int) : (flatI a).length = a.length := by unfold flatI; simp
theorem run_app_ints {w : World} (ty : TypeId) (base : Nat) (v : Value) (ps : List Int) (m0 : Nat) (hown : w.ownsRow base 3 1 v m0 (flatI ps))
    (A : Option Addr) (n c : Nat) (xs : List Int) (hn : xs.length = n) (hr : RdI w w.heap.size A xs) (hA : A = none → c = 0) (h0 : m0 ≤ 1000) (h1 : n ≤ 1000) (hbase : base ≤ w.heap.size) :
    ∃ A' c' w', (Builtin.append_ #[57, 57] ty #[v, .slice A n c]).run Try.prog w = .ok (.slice A' (m0 + n) c') w' ∧ w'.ownsRow base 3 1 (.slice A' (m0 + n) c') (m0 + n) (flatI (ps ++ xs)) ∧ w.grownBy w' v.ownBlock := by
  obtain ⟨i, hi, hz0, hz1, hz2⟩ := info_parts int_info
  rcases A with _ | ad
  · have hx0 : xs = [] := hr.none
    subst hx0
    have hn0 : n = 0 := by simpa using hn.symm
    subst hn0
    have hc0 := hA rfl
    subst hc0
    obtain ⟨A', c', rfl⟩ := own_form hown
    have hrun := run_append_owned_none (P := Try.prog) (w := w) base 57 ty 3 i 1 Try.underlying57 hi (.slice A' m0 c') m0 (flatI ps) hown
    exact ⟨A', c', w, hrun, by simpa using hown, World.grownBy.refl w _⟩
  · obtain ⟨v', w', hrun, h2, h3, _, _⟩ := run_append_own_at (P := Try.prog) w base 57 ty 3 i _ 1 8 Try.underlying57 hi hz0 hz1 hz2 (by rfl) (by decide) v m0 (flatI ps) hown ad n c (flatI xs) (by rw [flatI_length]; omega) (by
      intro j u hj
      obtain ⟨y, hk⟩ : ∃ y, xs[j]? = some y := by
        have hjl : j < (flatI xs).length := (List.getElem?_eq_some_iff.1 hj).1
        rw [flatI_length] at hjl
        exact ⟨_, List.getElem?_eq_getElem hjl⟩
      rw [flatI_at hk] at hj
      have hj' := Option.some.inj hj
      subst hj'
      obtain ⟨b, o2, e, _, c0⟩ := hr j y hk
      have e' := Option.some.inj e
      subst e'
      rw [add_plain]
      exact c0) (flatI_one xs) (by unfold maxLen; omega) (by omega) hbase
    obtain ⟨A', c', rfl⟩ := own_form h2
    exact ⟨A', c', w', hrun, by rw [flatI_app]; exact h2, h3⟩
theorem wpList_app_at {w : World} {ops : Array Oper} {rest : List Oper} {o : Oper} {a : Act} {Q : Exit → Act → World → Prop} (hgd : o.guard = none) (s x : Operand)
    (ho : o.op = .call { callee := .builtin .append, args := #[s, x], argTypes := #[57, 57] }) (base : Nat) (v : Value) (ps : List Int) (m0 : Nat) (hs : a.eval s = v) (hown : w.ownsRow base 3 1 v m0 (flatI ps))
    (A : Option Addr) (n c : Nat) (xs : List Int) (hx : a.eval x = .slice A n c) (hn : xs.length = n) (hr : RdI w w.heap.size A xs) (hA : A = none → c = 0) (h0 : m0 ≤ 1000) (h1 : n ≤ 1000) (hbase : base ≤ w.heap.size)
    (h : ∀ A' c' w', w'.ownsRow base 3 1 (.slice A' (m0 + n) c') (m0 + n) (flatI (ps ++ xs)) → w.grownBy w' v.ownBlock → wpList Try.prog ops Q rest (a.put o.dst (.slice A' (m0 + n) c')) w') :
    wpList Try.prog ops Q (o :: rest) a w := by
  refine wpList_plain hgd fun K hK => ?_
  obtain ⟨A', c', w', hr', h2, h3⟩ := run_app_ints o.type base v ps m0 hown A n c xs hn hr hA h0 h1 hbase
  unfold Oper.wp execOp
  simp only [ho, resolve, invoke, builtin, Sem.run_bind, Sem.run_pure, Result.andThen_ok, List.map_toArray, List.map_cons, List.map_nil, hs, hx, hr']
  exact hK _ _ (h A' c' w' h2 h3)

theorem blk_lt {W : World} {g : Nat} {o : Obj} (h : W.heap[g]? = some o) : g < W.heap.size := (Array.getElem?_eq_some_iff.1 h).1
theorem rdI_one {w : World} {q : Nat} {x : Int} (hq : w.heap[q]? = some (.cells #[.int .i64 x] 3 (0, 0))) : RdI w w.heap.size (some ⟨q, 0, none⟩) [x] := by
  intro k y hk
  match k, hk with
  | 0, hk =>
    have hy : x = y := Option.some.inj hk
    subst hy
    exact ⟨_, 0, rfl, blk_lt hq, (blk_cell hq 0).trans rfl⟩
  | k + 1, hk => cases hk

end Go.Proofs.Ytampfpnkkdihaaa

namespace Go.Proofs.Ytampfpnkkdihaaa
open Go.RowKit
attribute [local go_sem ↓] Go.wp_at_zero Go.wp_at_succ

theorem L.boxB_ok {b : L.Bx} (h : L.boxB b = true) : L.BxOk b := by
  simp only [L.boxB, L.spanIn, Bool.and_eq_true, decide_eq_true_eq] at h
  obtain ⟨⟨⟨a, b⟩, c⟩, ⟨d, e⟩, f⟩ := h
  exact ⟨a, b, c, d, e, f⟩
theorem L.checkBE_ok {v : L.Vw} {b : L.Bx} (h : L.checkBE v b = 0) : L.VwOk v ∧ L.BxOk b := by
  unfold L.checkBE at h
  cases h1 : L.viewB v <;> simp [h1] at h
  cases h2 : L.boxB b <;> simp [h2] at h
  exact ⟨L.viewB_ok h1, L.boxB_ok h2⟩
theorem L.callOf_rng (v : L.Vw) (b : L.Bx) (k : Int) : 0 ≤ L.callOf v b k ∧ L.callOf v b k ≤ 3 := by
  unfold L.callOf; repeat' split
  all_goals omega

set_option maxRecDepth 100000 in
set_option maxHeartbeats 1600000 in
theorem callOf_any (v : L.Vw) (A : Option Addr) (n c : Nat) (b : L.Bx) (k : Int) (w : World) (hv : L.VwOk v) (hb : L.BxOk b) (hn : v.ss.length = n) (hr : RdS w w.heap.size A v.ss) (hk0 : 0 ≤ k) (hk1 : k ≤ 1000) :
    Calls Try.prog 48 #[.agg #[.int .i64 v.size, .slice A n c, .int .i64 v.wrong, .int .i64 v.hxl, .int .i64 v.hxh, .int .i64 v.hyl, .int .i64 v.hyh], .agg #[.int .i64 b.l, .int .i64 b.r, .int .i64 b.b, .int .i64 b.t], .int .i64 k] w fun e w' => e = .returned (.int .i64 (L.callOf v b k)) ∧ Below w.heap.size w w' := by
  have HN := hide hn
  have HR := hide hr
  have HV := hide hv
  have HB := hide hb
  clear hn hr hv hb
  cases hi : (L.findC v b k 1).isSome <;> cases ho : (L.findC v b k 2).isSome
  all_goals
    have HE := hide (show L.callOf v b k = if (L.findC v b k 1).isSome then (if (L.findC v b k 2).isSome then 3 else 1) else (if (L.findC v b k 2).isSome then 2 else 0) from rfl)
    rw [hi, ho] at HE
    have HI := hide hi
    have HO := hide ho
    clear hi ho
    go_enter Try.func48, Try.ntmps48
    go_wp2_with (go_at_call 55; refine (find_any v A n c b k _ _ HV.out HB.out HN.out ((HR.out.below (by (repeat' first | exact zbR _ _ | assumption | refine zbD ?_ | refine zbA ?_ ?_ _ | refine zbS ?_ ?_ _ | refine zbT ?_ (by assumption) ?_ | (simp; done) | (simp; omega) | omega))).mono (by first | (simp; done) | (simp; omega) | omega)) hk0 hk1).mono ?_; rintro e w2 ⟨rfl, hb2⟩; (first | rw [HI.out] | rw [HO.out]); obtain ⟨hc2, hf2⟩ := bcell hb2; have hz2 : w.heap.size + 1 < w2.heap.size := (by have := hb2.size; (try simp at this); omega); have hy2 : w.heap.size < w2.heap.size := (by omega))
    go_ret
    exact ⟨by rw [HE.out]; rfl, by (repeat' first | exact zbR _ _ | assumption | refine zbD ?_ | refine zbA ?_ ?_ _ | refine zbS ?_ ?_ _ | refine zbT ?_ (by assumption) ?_ | (simp; done) | (simp; omega) | omega)⟩

namespace L
theorem checkBE_cases (v : Vw) (b : Bx) : checkBE v b = 0 ∨ checkBE v b = 20 ∨ checkBE v b = 21 := by
  unfold checkBE; repeat' split
  all_goals omega
def callE (v : Vw) (b : Bx) : Int := if checkBE v b = 0 then (if callOf v b 0 = 0 then 3 else 0) else checkBE v b
def callV (v : Vw) (b : Bx) : Int := if checkBE v b = 0 then callOf v b 0 else 0
def decE (said : Int) (v : Vw) (b : Bx) : Int := if checkBE v b = 0 then (if sure said then 0 else 22) else checkBE v b
def decV (said : Int) (v : Vw) (b : Bx) : Int := if checkBE v b = 0 then (if sure said then (if sure (callOf v b 0) then callOf v b 0 else said) else 0) else 0
def decK (said : Int) (v : Vw) (b : Bx) : Bool := if checkBE v b = 0 then (if sure said then (if sure (callOf v b 0) then callOf v b 0 != said else true) else false) else false
end L

set_option maxRecDepth 100000 in
set_option maxHeartbeats 1600000 in
theorem Call_any (v : L.Vw) (A : Option Addr) (n c : Nat) (b : L.Bx) (w : World) (hn : v.ss.length = n) (hr : RdS w w.heap.size A v.ss) :
    Calls Try.prog 17 #[.agg #[.int .i64 v.size, .slice A n c, .int .i64 v.wrong, .int .i64 v.hxl, .int .i64 v.hxh, .int .i64 v.hyl, .int .i64 v.hyh], .agg #[.int .i64 b.l, .int .i64 b.r, .int .i64 b.b, .int .i64 b.t]] w fun e w' => e = .returned (.tuple #[.int .i64 (L.callV v b), .int .i64 (L.callE v b)]) ∧ Below w.heap.size w w' := by
  have HN := hide hn
  have HR := hide hr
  clear hn hr
  rcases L.checkBE_cases v b with h | h | h
  · obtain ⟨hv, hb⟩ := L.checkBE_ok h
    have HV := hide hv
    have HB := hide hb
    have E1 := hide (show L.callV v b = L.callOf v b 0 by unfold L.callV; rw [if_pos h])
    have H := hide h
    clear hv hb h
    by_cases h0 : L.callOf v b 0 = 0
    · have E2 := hide (show L.callE v b = 3 by unfold L.callE; rw [if_pos H.out, if_pos h0])
      have H0 := hide h0
      clear h0
      go_enter Try.func17, Try.ntmps17
      go_wp2_with (first | (go_at_call 47; refine (check_any v A n c b _ HN.out ((HR.out.below (by (repeat' first | exact zbR _ _ | assumption | refine zbD ?_ | refine zbA ?_ ?_ _ | refine zbS ?_ ?_ _ | refine zbT ?_ (by assumption) ?_ | (simp; done) | (simp; omega) | omega))).mono (by first | (simp; done) | (simp; omega) | omega))).mono ?_; rintro e w2 ⟨rfl, hb2⟩; rw [H.out]; obtain ⟨hc2, hf2⟩ := bcell hb2; have hz2 : w.heap.size + 1 < w2.heap.size := (by have := hb2.size; (try simp at this); omega); have hy2 : w.heap.size < w2.heap.size := (by omega)) | (go_at_call 48; refine (callOf_any v A n c b 0 _ HV.out HB.out HN.out ((HR.out.below (by (repeat' first | exact zbR _ _ | assumption | refine zbD ?_ | refine zbA ?_ ?_ _ | refine zbS ?_ ?_ _ | refine zbT ?_ (by assumption) ?_ | (simp; done) | (simp; omega) | omega))).mono (by first | (simp; done) | (simp; omega) | omega)) (by omega) (by omega)).mono ?_; rintro e w3 ⟨rfl, hb3⟩; rw [H0.out]))
      go_ret2
      exact ⟨by rw [E1.out, E2.out, H0.out]; rfl, by (repeat' first | exact zbR _ _ | assumption | refine zbD ?_ | refine zbA ?_ ?_ _ | refine zbS ?_ ?_ _ | refine zbT ?_ (by assumption) ?_ | (simp; done) | (simp; omega) | omega)⟩
    · have E2 := hide (show L.callE v b = 0 by unfold L.callE; rw [if_pos H.out, if_neg h0])
      have d0 : (L.callOf v b 0 == 0) = false := by simpa using h0
      clear h0
      go_enter Try.func17, Try.ntmps17
      go_wp2_with (first | (go_at_call 47; refine (check_any v A n c b _ HN.out ((HR.out.below (by (repeat' first | exact zbR _ _ | assumption | refine zbD ?_ | refine zbA ?_ ?_ _ | refine zbS ?_ ?_ _ | refine zbT ?_ (by assumption) ?_ | (simp; done) | (simp; omega) | omega))).mono (by first | (simp; done) | (simp; omega) | omega))).mono ?_; rintro e w2 ⟨rfl, hb2⟩; rw [H.out]; obtain ⟨hc2, hf2⟩ := bcell hb2; have hz2 : w.heap.size + 1 < w2.heap.size := (by have := hb2.size; (try simp at this); omega); have hy2 : w.heap.size < w2.heap.size := (by omega)) | (go_at_call 48; refine (callOf_any v A n c b 0 _ HV.out HB.out HN.out ((HR.out.below (by (repeat' first | exact zbR _ _ | assumption | refine zbD ?_ | refine zbA ?_ ?_ _ | refine zbS ?_ ?_ _ | refine zbT ?_ (by assumption) ?_ | (simp; done) | (simp; omega) | omega))).mono (by first | (simp; done) | (simp; omega) | omega)) (by omega) (by omega)).mono ?_; rintro e w3 ⟨rfl, hb3⟩))
      go_ret2
      exact ⟨by rw [E1.out, E2.out]; rfl, by (repeat' first | exact zbR _ _ | assumption | refine zbD ?_ | refine zbA ?_ ?_ _ | refine zbS ?_ ?_ _ | refine zbT ?_ (by assumption) ?_ | (simp; done) | (simp; omega) | omega)⟩
  all_goals
    have E1 := hide (show L.callV v b = 0 by unfold L.callV; rw [if_neg (by omega)])
    have E2 := hide (show L.callE v b = L.checkBE v b by unfold L.callE; rw [if_neg (by omega)])
    have H := hide h
    clear h
    go_enter Try.func17, Try.ntmps17
    go_wp2_with (go_at_call 47; refine (check_any v A n c b _ HN.out ((HR.out.below (by (repeat' first | exact zbR _ _ | assumption | refine zbD ?_ | refine zbA ?_ ?_ _ | refine zbS ?_ ?_ _ | refine zbT ?_ (by assumption) ?_ | (simp; done) | (simp; omega) | omega))).mono (by first | (simp; done) | (simp; omega) | omega))).mono ?_; rintro e w2 ⟨rfl, hb2⟩; rw [H.out])
    go_ret2
    exact ⟨by rw [E1.out, E2.out, H.out]; rfl, by (repeat' first | exact zbR _ _ | assumption | refine zbD ?_ | refine zbA ?_ ?_ _ | refine zbS ?_ ?_ _ | refine zbT ?_ (by assumption) ?_ | (simp; done) | (simp; omega) | omega)⟩

set_option maxRecDepth 100000 in
set_option maxHeartbeats 3200000 in
theorem Decide_any (said : Int) (v : L.Vw) (A : Option Addr) (n c : Nat) (b : L.Bx) (w : World) (hn : v.ss.length = n) (hr : RdS w w.heap.size A v.ss) :
    Calls Try.prog 32 #[.int .i64 said, .agg #[.int .i64 v.size, .slice A n c, .int .i64 v.wrong, .int .i64 v.hxl, .int .i64 v.hxh, .int .i64 v.hyl, .int .i64 v.hyh], .agg #[.int .i64 b.l, .int .i64 b.r, .int .i64 b.b, .int .i64 b.t]] w fun e w' => e = .returned (.tuple #[.int .i64 (L.decV said v b), .bool (L.decK said v b), .int .i64 (L.decE said v b)]) ∧ Below w.heap.size w w' := by
  have HN := hide hn
  have HR := hide hr
  clear hn hr
  rcases L.checkBE_cases v b with h | h | h
  · obtain ⟨hv, hb⟩ := L.checkBE_ok h
    have HV := hide hv
    have HB := hide hb
    have H := hide h
    clear hv hb h
    cases hs : L.sure said
    · have E1 := hide (show L.decV said v b = 0 by unfold L.decV; rw [if_pos H.out, hs]; rfl)
      have E2 := hide (show L.decK said v b = false by unfold L.decK; rw [if_pos H.out, hs]; rfl)
      have E3 := hide (show L.decE said v b = 22 by unfold L.decE; rw [if_pos H.out, hs]; rfl)
      have HS := hide hs
      clear hs
      go_enter Try.func32, Try.ntmps32
      go_wp2_with (first | (go_at_call 47; refine (check_any v A n c b _ HN.out ((HR.out.below (by (repeat' first | exact zbR _ _ | assumption | refine zbD ?_ | refine zbA ?_ ?_ _ | refine zbS ?_ ?_ _ | refine zbT ?_ (by assumption) ?_ | (simp; done) | (simp; omega) | omega))).mono (by first | (simp; done) | (simp; omega) | omega))).mono ?_; rintro e w2 ⟨rfl, hb2⟩; rw [H.out]; obtain ⟨hc2, hf2⟩ := bcell hb2; have hz2 : w.heap.size + 1 < w2.heap.size := (by have := hb2.size; (try simp at this); omega); have hy2 : w.heap.size < w2.heap.size := (by omega)) | (go_at_call 54; refine (sure_any said _).mono ?_; rintro e w3 ⟨rfl, rfl⟩; rw [HS.out]))
      go_ret3
      exact ⟨by rw [E1.out, E2.out, E3.out]; rfl, by (repeat' first | exact zbR _ _ | assumption | refine zbD ?_ | refine zbA ?_ ?_ _ | refine zbS ?_ ?_ _ | refine zbT ?_ (by assumption) ?_ | (simp; done) | (simp; omega) | omega)⟩
    · cases hs2 : L.sure (L.callOf v b 0)
      · have E1 := hide (show L.decV said v b = said by unfold L.decV; rw [if_pos H.out, hs, hs2]; rfl)
        have E2 := hide (show L.decK said v b = true by unfold L.decK; rw [if_pos H.out, hs, hs2]; rfl)
        have E3 := hide (show L.decE said v b = 0 by unfold L.decE; rw [if_pos H.out, hs]; rfl)
        have HS := hide hs
        have HS2 := hide hs2
        clear hs hs2
        go_enter Try.func32, Try.ntmps32
        go_wp2_with (first | (go_at_call 47; refine (check_any v A n c b _ HN.out ((HR.out.below (by (repeat' first | exact zbR _ _ | assumption | refine zbD ?_ | refine zbA ?_ ?_ _ | refine zbS ?_ ?_ _ | refine zbT ?_ (by assumption) ?_ | (simp; done) | (simp; omega) | omega))).mono (by first | (simp; done) | (simp; omega) | omega))).mono ?_; rintro e w2 ⟨rfl, hb2⟩; rw [H.out]; obtain ⟨hc2, hf2⟩ := bcell hb2; have hz2 : w.heap.size + 1 < w2.heap.size := (by have := hb2.size; (try simp at this); omega); have hy2 : w.heap.size < w2.heap.size := (by omega)) | (go_at_call 54; refine (sure_any _ _).mono ?_; rintro e w3 ⟨rfl, rfl⟩; (first | rw [HS2.out] | rw [HS.out])) | (go_at_call 48; refine (callOf_any v A n c b 0 _ HV.out HB.out HN.out ((HR.out.below (by (repeat' first | exact zbR _ _ | assumption | refine zbD ?_ | refine zbA ?_ ?_ _ | refine zbS ?_ ?_ _ | refine zbT ?_ (by assumption) ?_ | (simp; done) | (simp; omega) | omega))).mono (by first | (simp; done) | (simp; omega) | omega)) (by omega) (by omega)).mono ?_; rintro e w3 ⟨rfl, hb3⟩))
        go_ret3
        exact ⟨by rw [E1.out, E2.out, E3.out]; rfl, by (repeat' first | exact zbR _ _ | assumption | refine zbD ?_ | refine zbA ?_ ?_ _ | refine zbS ?_ ?_ _ | refine zbT ?_ (by assumption) ?_ | (simp; done) | (simp; omega) | omega)⟩
      · have E1 := hide (show L.decV said v b = L.callOf v b 0 by unfold L.decV; rw [if_pos H.out, hs, hs2]; rfl)
        have E2 := hide (show L.decK said v b = (L.callOf v b 0 != said) by unfold L.decK; rw [if_pos H.out, hs, hs2]; rfl)
        have E3 := hide (show L.decE said v b = 0 by unfold L.decE; rw [if_pos H.out, hs]; rfl)
        have HS := hide hs
        have HS2 := hide hs2
        clear hs hs2
        go_enter Try.func32, Try.ntmps32
        go_wp2_with (first | (go_at_call 47; refine (check_any v A n c b _ HN.out ((HR.out.below (by (repeat' first | exact zbR _ _ | assumption | refine zbD ?_ | refine zbA ?_ ?_ _ | refine zbS ?_ ?_ _ | refine zbT ?_ (by assumption) ?_ | (simp; done) | (simp; omega) | omega))).mono (by first | (simp; done) | (simp; omega) | omega))).mono ?_; rintro e w2 ⟨rfl, hb2⟩; rw [H.out]; obtain ⟨hc2, hf2⟩ := bcell hb2; have hz2 : w.heap.size + 1 < w2.heap.size := (by have := hb2.size; (try simp at this); omega); have hy2 : w.heap.size < w2.heap.size := (by omega)) | (go_at_call 54; refine (sure_any _ _).mono ?_; rintro e w3 ⟨rfl, rfl⟩; (first | rw [HS2.out] | rw [HS.out])) | (go_at_call 48; refine (callOf_any v A n c b 0 _ HV.out HB.out HN.out ((HR.out.below (by (repeat' first | exact zbR _ _ | assumption | refine zbD ?_ | refine zbA ?_ ?_ _ | refine zbS ?_ ?_ _ | refine zbT ?_ (by assumption) ?_ | (simp; done) | (simp; omega) | omega))).mono (by first | (simp; done) | (simp; omega) | omega)) (by omega) (by omega)).mono ?_; rintro e w3 ⟨rfl, hb3⟩))
        go_ret3
        exact ⟨by rw [E1.out, E2.out, E3.out]; rfl, by (repeat' first | exact zbR _ _ | assumption | refine zbD ?_ | refine zbA ?_ ?_ _ | refine zbS ?_ ?_ _ | refine zbT ?_ (by assumption) ?_ | (simp; done) | (simp; omega) | omega)⟩
  all_goals
    have E1 := hide (show L.decV said v b = 0 by unfold L.decV; rw [if_neg (by omega)])
    have E2 := hide (show L.decK said v b = false by unfold L.decK; rw [if_neg (by omega)])
    have E3 := hide (show L.decE said v b = L.checkBE v b by unfold L.decE; rw [if_neg (by omega)])
    have H := hide h
    clear h
    go_enter Try.func32, Try.ntmps32
    go_wp2_with (go_at_call 47; refine (check_any v A n c b _ HN.out ((HR.out.below (by (repeat' first | exact zbR _ _ | assumption | refine zbD ?_ | refine zbA ?_ ?_ _ | refine zbS ?_ ?_ _ | refine zbT ?_ (by assumption) ?_ | (simp; done) | (simp; omega) | omega))).mono (by first | (simp; done) | (simp; omega) | omega))).mono ?_; rintro e w2 ⟨rfl, hb2⟩; rw [H.out])
    go_ret3
    exact ⟨by rw [E1.out, E2.out, E3.out, H.out]; rfl, by (repeat' first | exact zbR _ _ | assumption | refine zbD ?_ | refine zbA ?_ ?_ _ | refine zbS ?_ ?_ _ | refine zbT ?_ (by assumption) ?_ | (simp; done) | (simp; omega) | omega)⟩

end Go.Proofs.Ytampfpnkkdihaaa

namespace Go.Proofs.Ytampfpnkkdihaaa
namespace L

theorem far_nn (n lo hi : Int) : 0 ≤ far n lo hi := by unfold far; omega
theorem sq_le {a b : Int} (h0 : 0 ≤ a) (h : a ≤ b) : a * a ≤ b * b := Int.mul_le_mul h h h0 (by omega)
theorem touch_box {m : Mk} {b o : Bx} (hx : 0 ≤ m.hx) (hy : 0 ≤ m.hy) (h1 : o.l ≤ b.l) (h2 : b.r ≤ o.r) (h3 : o.b ≤ b.b) (h4 : b.t ≤ o.t) (h : touch m b = true) : touch m o = true := by
  unfold touch at h ⊢
  rw [decide_eq_true_eq] at h ⊢
  have a1 : far m.x o.l o.r ≤ far m.x b.l b.r := by unfold far; omega
  have a2 : far m.y o.b o.t ≤ far m.y b.b b.t := by unfold far; omega
  have b1 := sq_le (Int.mul_nonneg (far_nn m.x o.l o.r) hy) (Int.mul_le_mul_of_nonneg_right a1 hy)
  have b2 := sq_le (Int.mul_nonneg (far_nn m.y o.b o.t) hx) (Int.mul_le_mul_of_nonneg_right a2 hx)
  omega

theorem sq_mul (a b : Int) : a * b * (a * b) = a * a * (b * b) := by
  rw [Int.mul_assoc, Int.mul_assoc, Int.mul_left_comm b a b]
theorem axes_le {A B p q P Q : Int} (hA : 0 ≤ A) (hB : 0 ≤ B) (hp : 1 ≤ p) (hq : 1 ≤ q) (hP : p ≤ P) (hQ : q ≤ Q) (h : A * q + B * p ≤ p * q) : A * Q + B * P ≤ P * Q := by

  have e1 : A * Q * p ≤ A * Q * P := Int.mul_le_mul_of_nonneg_left hP (Int.mul_nonneg hA (by omega))
  have e2 : B * P * q ≤ B * P * Q := Int.mul_le_mul_of_nonneg_left hQ (Int.mul_nonneg hB (by omega))
  have h2 : (A * q + B * p) * (P * Q) ≤ p * q * (P * Q) := Int.mul_le_mul_of_nonneg_right h (Int.mul_nonneg (by omega) (by omega))
  have e3 : A * Q * p * q ≤ A * Q * P * q := Int.mul_le_mul_of_nonneg_right e1 (by omega)
  have e4 : B * P * q * p ≤ B * P * Q * p := Int.mul_le_mul_of_nonneg_right e2 (by omega)
  have key : (A * Q + B * P) * (p * q) ≤ P * Q * (p * q) := by
    have f1 : (A * Q + B * P) * (p * q) = A * Q * p * q + B * P * q * p := by
      rw [Int.add_mul, Int.mul_assoc (A * Q), ← Int.mul_assoc (A * Q), Int.mul_comm p q, ← Int.mul_assoc (B * P)]
    have f2 : (A * q + B * p) * (P * Q) = A * Q * P * q + B * P * Q * p := by
      rw [Int.add_mul]
      congr 1
      · rw [Int.mul_assoc A q, Int.mul_comm q (P * Q), Int.mul_comm P Q, ← Int.mul_assoc, ← Int.mul_assoc]
      · rw [Int.mul_assoc B p, Int.mul_comm p (P * Q), ← Int.mul_assoc, ← Int.mul_assoc]
    rw [f1, Int.mul_comm (P * Q)]
    rw [f2] at h2
    omega
  exact Int.le_of_mul_le_mul_right key (Int.mul_pos (by omega) (by omega))
theorem touch_axes {x y p q P Q : Int} {b : Bx} (hp : 1 ≤ p) (hq : 1 ≤ q) (hP : p ≤ P) (hQ : q ≤ Q) (h : touch ⟨x, y, p, q⟩ b = true) : touch ⟨x, y, P, Q⟩ b = true := by
  unfold touch at h ⊢
  rw [decide_eq_true_eq] at h ⊢
  dsimp only at h ⊢
  rw [sq_mul (far x b.l b.r) q, sq_mul (far y b.b b.t) p, sq_mul p q] at h
  rw [sq_mul (far x b.l b.r) Q, sq_mul (far y b.b b.t) P, sq_mul P Q]
  have hp1 : 1 ≤ p * p := by have := sq_le (a := 1) (b := p) (by omega) hp; omega
  have hq1 : 1 ≤ q * q := by have := sq_le (a := 1) (b := q) (by omega) hq; omega
  exact axes_le (A := far x b.l b.r * far x b.l b.r) (B := far y b.b b.t * far y b.b b.t) (p := p * p) (q := q * q) (P := P * P) (Q := Q * Q) (Int.mul_nonneg (far_nn _ _ _) (far_nn _ _ _)) (Int.mul_nonneg (far_nn _ _ _) (far_nn _ _ _)) hp1 hq1 (sq_le (by omega) hP) (sq_le (by omega) hQ) h

def inAt' (v : Vw) (b : Bx) (k : Int) : Prop := ∃ c ∈ tcents v k, touch ⟨c.1, c.2, v.hxh, v.hyh⟩ b = true
def outAt' (v : Vw) (b : Bx) (k : Int) : Prop := ∃ c ∈ tcents v k, touch ⟨c.1, c.2, v.hxl, v.hyl⟩ b = false
theorem hit1 (v : Vw) (b : Bx) (c : Int × Int) : hitAt v b 1 c = touch ⟨c.1, c.2, v.hxh, v.hyh⟩ b := by
  rw [hitAt_eq]; unfold hxOf hyOf; simp
theorem hit2 (v : Vw) (b : Bx) (c : Int × Int) : hitAt v b 2 c = !touch ⟨c.1, c.2, v.hxl, v.hyl⟩ b := by
  rw [hitAt_eq]; unfold hxOf hyOf; simp
theorem find1 (v : Vw) (b : Bx) (k : Int) : (findC v b k 1).isSome = true ↔ inAt' v b k := by
  unfold findC inAt'
  rw [List.find?_isSome]
  simp only [hit1]
theorem find2 (v : Vw) (b : Bx) (k : Int) : (findC v b k 2).isSome = true ↔ outAt' v b k := by
  unfold findC outAt'
  rw [List.find?_isSome]
  simp only [hit2, Bool.not_eq_true']
theorem call_cases (v : Vw) (b : Bx) (k : Int) : (callOf v b k = 0 ∧ ¬ inAt' v b k ∧ ¬ outAt' v b k) ∨ (callOf v b k = 1 ∧ inAt' v b k ∧ ¬ outAt' v b k) ∨ (callOf v b k = 2 ∧ ¬ inAt' v b k ∧ outAt' v b k) ∨ (callOf v b k = 3 ∧ inAt' v b k ∧ outAt' v b k) := by
  unfold callOf
  have h1 := find1 v b k
  have h2 := find2 v b k
  cases hi : (findC v b k 1).isSome <;> cases ho : (findC v b k 2).isSome <;> simp_all
theorem low_high {v : Vw} (hv : VwOk v) {b : Bx} {c : Int × Int} (h : touch ⟨c.1, c.2, v.hxl, v.hyl⟩ b = true) : touch ⟨c.1, c.2, v.hxh, v.hyh⟩ b = true :=
  touch_axes hv.x0 hv.y0 hv.xx hv.yy h
theorem call_zero {v : Vw} (hv : VwOk v) (b : Bx) (k : Int) : callOf v b k = 0 ↔ tcents v k = [] := by
  constructor
  · intro h
    rcases call_cases v b k with ⟨_, h1, h2⟩ | ⟨h', _⟩ | ⟨h', _⟩ | ⟨h', _⟩
    · cases ht : tcents v k with
      | nil => rfl
      | cons c r =>
        exfalso
        have hc : c ∈ tcents v k := by rw [ht]; simp
        cases hl : touch ⟨c.1, c.2, v.hxl, v.hyl⟩ b
        · exact h2 ⟨c, hc, hl⟩
        · exact h1 ⟨c, hc, low_high hv hl⟩
    all_goals omega
  · intro h
    rcases call_cases v b k with ⟨h', _⟩ | ⟨_, ⟨c, hc, _⟩, _⟩ | ⟨_, _, ⟨c, hc, _⟩⟩ | ⟨_, ⟨c, hc, _⟩, _⟩
    · exact h'
    all_goals (rw [h] at hc; cases hc)

theorem larger {v : Vw} (hv : VwOk v) {b o : Bx} (h1 : o.l ≤ b.l) (h2 : b.r ≤ o.r) (h3 : o.b ≤ b.b) (h4 : b.t ≤ o.t) (k : Int) :
    (callOf v b k = 0 ↔ callOf v o k = 0) ∧ (callOf v b k = 1 → callOf v o k = 1) ∧ (callOf v o k = 2 → callOf v b k = 2) := by
  have hi : inAt' v b k → inAt' v o k := fun ⟨c, hc, ht⟩ => ⟨c, hc, touch_box (by have := hv.x0; have := hv.xx; simp only; omega) (by have := hv.y0; have := hv.yy; simp only; omega) h1 h2 h3 h4 ht⟩
  have ho : outAt' v o k → outAt' v b k := fun ⟨c, hc, ht⟩ => ⟨c, hc, by
    cases hl : touch ⟨c.1, c.2, v.hxl, v.hyl⟩ b
    · rfl
    · have := touch_box (o := o) (by have := hv.x0; simp only; omega) (by have := hv.y0; simp only; omega) h1 h2 h3 h4 hl
      rw [ht] at this; cases this⟩
  refine ⟨by rw [call_zero hv, call_zero hv], fun h => ?_, fun h => ?_⟩
  · rcases call_cases v b k with ⟨e, _⟩ | ⟨_, a1, a2⟩ | ⟨e, _⟩ | ⟨e, _⟩ <;> rcases call_cases v o k with ⟨e', b1, b2⟩ | ⟨e', b1, b2⟩ | ⟨e', b1, b2⟩ | ⟨e', b1, b2⟩ <;> first | omega | exact (b1 (hi a1)).elim | exact (a2 (ho b2)).elim
  · rcases call_cases v o k with ⟨e, _⟩ | ⟨e, _⟩ | ⟨_, a1, a2⟩ | ⟨e, _⟩ <;> rcases call_cases v b k with ⟨e', b1, b2⟩ | ⟨e', b1, b2⟩ | ⟨e', b1, b2⟩ | ⟨e', b1, b2⟩ <;> first | omega | exact (b2 (ho a2)).elim | exact (a1 (hi b1)).elim
end L
end Go.Proofs.Ytampfpnkkdihaaa

namespace Go.Proofs.Ytampfpnkkdihaaa
open Go.RowKit
attribute [local go_sem ↓] Go.wp_at_zero Go.wp_at_succ

theorem blk_new2 {w : World} {X Y : Obj} : ((w.alloc X).alloc Y).heap[w.heap.size + 1]? = some Y := by
  have := World.alloc_heap_new (w.alloc X) Y
  rwa [World.size_alloc] at this
theorem L.wrongFrom_take {ss : List L.St} {k : Nat} {s : L.St} (x y : Int) (hk : ss[k]? = some s) : L.wrongFrom x y 0 (ss.take (k + 1)) = L.wrongFrom x y 0 (ss.take k) ++ (if L.off x y 0 s then [(k : Int)] else []) := by
  rw [List.take_add_one, hk, Option.toList_some, L.wrongFrom_append]
  have hl : (ss.take k).length = k := by rw [List.length_take]; have := (List.getElem?_eq_some_iff.1 hk).1; omega
  rw [hl, Nat.zero_add]
  simp only [L.wrongFrom]
theorem L.off_zero (x y : Int) (s : L.St) : L.off x y 0 s = !L.within (s.p * x + s.q * y) s.lo s.hi := by unfold L.off; rw [Int.sub_zero, Int.add_zero]

set_option maxRecDepth 100000 in
set_option maxHeartbeats 3200000 in
theorem refWrong_any (v : L.Vw) (A : Option Addr) (n c : Nat) (x y : Int) (w : World) (hn : v.ss.length = n) (hr : RdS w w.heap.size A v.ss) (ho : ∀ s ∈ v.ss, L.StOk s) (h8 : n ≤ 8) (hx0 : 0 ≤ x) (hx1 : x ≤ 40) (hy0 : 0 ≤ y) (hy1 : y ≤ 40) :
    Calls Try.prog 50 #[.agg #[.int .i64 v.size, .slice A n c, .int .i64 v.wrong, .int .i64 v.hxl, .int .i64 v.hxh, .int .i64 v.hyl, .int .i64 v.hyh], .int .i64 x, .int .i64 y] w fun e w' => ∃ sv c', e = .returned (.slice sv (L.wrongL v x y).length c') ∧ w'.ownsRow w.heap.size 3 1 (.slice sv (L.wrongL v x y).length c') (L.wrongL v x y).length (flatI (L.wrongL v x y)) ∧ Below w.heap.size w w' := by
  have HN := hide hn
  have HR := hide hr
  have HO := hide ho
  clear hn hr ho
  go_enter Try.func50, Try.ntmps50
  go_wp2
  go_loopw [7, 8] (fun m i wr => ∃ j : Nat, j ≤ n ∧ i = .int .i64 j ∧ (∃ sv c', m = .slice sv (L.wrongFrom x y 0 (v.ss.take j)).length c' ∧ Hid (wr.ownsRow (w.heap.size + 1) 3 1 (.slice sv (L.wrongFrom x y 0 (v.ss.take j)).length c') (L.wrongFrom x y 0 (v.ss.take j)).length (flatI (L.wrongFrom x y 0 (v.ss.take j))))) ∧ Below (w.heap.size + 1) (w.alloc (.cells #[.int .i64 v.size, .slice A n c, .int .i64 v.wrong, .int .i64 v.hxl, .int .i64 v.hxh, .int .i64 v.hyl, .int .i64 v.hyh] 26)) wr) (fun _ i _ => n - (intOf i).toNat)
  case atStart => exact ⟨0, by omega, rfl, ⟨none, 0, rfl, hide (World.ownsRow_nil _ _ _ _)⟩, by (repeat' first | exact zbR _ _ | assumption | refine zbD ?_ | refine zbA ?_ ?_ _ | refine zbS ?_ ?_ _ | refine zbT ?_ (by assumption) ?_ | (simp; done) | (simp; omega) | omega)⟩
  case round =>
    obtain ⟨j, hj, rfl, ⟨sv, c', rfl, hown⟩, hB⟩ := hrel
    have hBs := hB.size
    simp only [World.size_alloc] at hBs
    have hB0 : Below w.heap.size w wr := ((Below.refl _ w).alloc (Nat.le_refl _) _).trans (hB.mono (by omega))
    have k1 : wr.cell? ⟨w.heap.size, 1, none⟩ = some (.slice A n c) := (hB.cell (p := ⟨w.heap.size, 1, none⟩) (by show w.heap.size < _; omega)).trans (zcA _ _ _ _ rfl)
    have hm : (L.wrongFrom x y 0 (v.ss.take j)).length ≤ 8 := by
      rw [L.wrongFrom_length]; have := L.many_take_le v.ss j x y 0; omega
    by_cases hlt : j < n
    · obtain ⟨s, hs⟩ : ∃ s, v.ss[j]? = some s := ⟨_, List.getElem?_eq_getElem (by have := HN.out; omega)⟩
      obtain ⟨b, o, hA, hbB, d0, d1, d2, d3⟩ := (HR.out.below hB0) j s hs
      subst hA
      obtain ⟨p0, p1, q0, q1, l0, lh, h1⟩ := HO.out s (List.mem_of_getElem? hs)
      obtain ⟨m0, m1⟩ : -120 ≤ s.p * x ∧ s.p * x ≤ 120 := by have := L.mul_bd p0 p1 hx0 hx1; omega
      obtain ⟨m2, m3⟩ : -120 ≤ s.q * y ∧ s.q * y ≤ 120 := by have := L.mul_bd q0 q1 hy0 hy1; omega
      have HM := hide (L.wrongFrom_take x y hs)
      have HZ := hide (L.off_zero x y s)
      clear hs
      have hlt' : (j : Int) < (n : Int) := by omega
      have hj0 : (0 : Int) ≤ (j : Int) := by omega
      cases hv : L.within (s.p * x + s.q * y) s.lo s.hi
      · have HE : Hid (L.wrongFrom x y 0 (v.ss.take (j + 1)) = L.wrongFrom x y 0 (v.ss.take j) ++ [(j : Int)]) := hide (by rw [HM.out, HZ.out, hv]; rfl)
        have HL := hide (show (L.wrongFrom x y 0 (v.ss.take (j + 1))).length = (L.wrongFrom x y 0 (v.ss.take j)).length + 1 by rw [HE.out, List.length_append]; rfl)
        go_wp2_with (first | (go_at_call 57; refine (refWithin_any _ _ _ _).mono ?_; rintro e w3 ⟨rfl, rfl⟩; rw [hv]) | (refine wpList_app_at rfl (.tmp 37) (.tmp 39) rfl (w.heap.size + 1) _ (L.wrongFrom x y 0 (v.ss.take j)) _ rfl (owns_below hown.out (((Below.refl _ wr).alloc (Nat.le_refl _) _).alloc (by first | (simp; done) | (simp; omega) | omega) _)) (some ⟨wr.heap.size + 1, 0, none⟩) 1 1 [(j : Int)] rfl rfl (rdI_one blk_new2) (fun e => by cases e) (by omega) (by omega) (by first | (simp; done) | (simp; omega) | omega) ?_; intro A2 c2 w5 hown2 hgrow; have hg5 := grown_below (B := w.heap.size + 1) hgrow (by first | (simp; done) | (simp; omega) | omega) (fun g hg => (hown.out.lt g hg).1); have HO2 := hide hown2; clear hown2 hgrow))
        go_roundw
        case rel => exact ⟨j + 1, by omega, by go_num, ⟨A2, c2, by rw [HL.out], hide (by rw [HL.out, HE.out]; exact HO2.out)⟩, (hB.trans (((Below.refl _ wr).alloc (by omega) _).alloc (by simp; omega) _)).trans hg5⟩
        case measure => simp [intOf]; omega
      · have HE : Hid (L.wrongFrom x y 0 (v.ss.take (j + 1)) = L.wrongFrom x y 0 (v.ss.take j)) := hide (by rw [HM.out, HZ.out, hv]; simp)
        go_wp2_with (go_at_call 57; refine (refWithin_any _ _ _ _).mono ?_; rintro e w3 ⟨rfl, rfl⟩; rw [hv])
        go_roundw
        case rel => exact ⟨j + 1, by omega, by go_num, ⟨sv, c', by rw [HE.out], hide (by rw [HE.out]; exact owns_below hown.out ((Below.refl _ wr).alloc (Nat.le_refl _) _))⟩, by (repeat' first | exact zbR _ _ | assumption | refine zbD ?_ | refine zbA ?_ ?_ _ | refine zbS ?_ ?_ _ | refine zbT ?_ (by assumption) ?_ | (simp; done) | (simp; omega) | omega)⟩
        case measure => simp [intOf]; omega
    · have hjn : j = n := by omega
      subst hjn
      have HE : Hid (L.wrongFrom x y 0 (v.ss.take j) = L.wrongL v x y) := hide (by rw [List.take_of_length_le (by have := HN.out; omega)]; rfl)
      go_wp2_with fail
      go_ret
      refine ⟨sv, c', ?_, ?_, hB0⟩
      · rw [← HE.out]; rfl
      · rw [← HE.out]; exact owns_mono hown.out (by omega)

end Go.Proofs.Ytampfpnkkdihaaa

namespace Go.Proofs.Ytampfpnkkdihaaa
open Go.RowKit
attribute [local go_sem ↓] Go.wp_at_zero Go.wp_at_succ

def flatS (ss : List L.St) : List Value := ss.flatMap fun s => [.int .i64 s.p, .int .i64 s.q, .int .i64 s.lo, .int .i64 s.hi]
theorem flatS_length : ∀ ss : List L.St, (flatS ss).length = ss.length * 4
  | [] => rfl
  | s :: r => by
    have := flatS_length r
    simp only [flatS, List.flatMap_cons, List.length_append, List.length_cons, List.length_nil] at this ⊢
    omega
theorem flatS_at : ∀ {ss : List L.St} {k : Nat} {s : L.St}, ss[k]? = some s → (flatS ss)[k * 4]? = some (.int .i64 s.p) ∧ (flatS ss)[k * 4 + 1]? = some (.int .i64 s.q) ∧ (flatS ss)[k * 4 + 2]? = some (.int .i64 s.lo) ∧ (flatS ss)[k * 4 + 3]? = some (.int .i64 s.hi)
  | [], k, s, h => by simp at h
  | a :: r, 0, s, h => by
    have h' : a = s := Option.some.inj h
    subst h'
    exact ⟨rfl, rfl, rfl, rfl⟩
  | a :: r, k + 1, s, h => by
    have ih := flatS_at (ss := r) (k := k) (s := s) h
    have e : (k + 1) * 4 = k * 4 + 4 := by omega
    rw [e]
    exact ih
theorem flatS_one (ss : List L.St) : ∀ u ∈ flatS ss, u.oneCell' = true := by
  intro u hu
  simp only [flatS, List.mem_flatMap, List.mem_cons, List.not_mem_nil, or_false] at hu
  obtain ⟨s, _, rfl | rfl | rfl | rfl⟩ := hu <;> rfl
theorem flatS_app (a b : List L.St) : flatS (a ++ b) = flatS a ++ flatS b := by unfold flatS; simp
theorem flatS_cells {w : World} {B : Nat} {a : Addr} {ss : List L.St} (h : RdS w B (some a) ss) : ∀ j u, (flatS ss)[j]? = some u → w.cell? (a.add j) = some u := by
  intro j u hj
  have hl : j < ss.length * 4 := by rw [← flatS_length]; exact (List.getElem?_eq_some_iff.1 hj).1
  obtain ⟨s, hs⟩ : ∃ s, ss[j / 4]? = some s := ⟨_, List.getElem?_eq_getElem (by omega)⟩
  obtain ⟨b, o, e, _, c0, c1, c2, c3⟩ := h (j / 4) s hs
  injection e with e
  subst e
  obtain ⟨h0, h1, h2, h3⟩ := flatS_at hs
  rw [add_plain]
  obtain hm | hm | hm | hm : j % 4 = 0 ∨ j % 4 = 1 ∨ j % 4 = 2 ∨ j % 4 = 3 := by omega
  · have e : j / 4 * 4 = j := by omega
    rw [e] at h0 c0
    rw [hj] at h0
    rw [c0]; exact h0.symm
  · have e : j / 4 * 4 + 1 = j := by omega
    rw [e] at h1
    rw [Nat.add_assoc, e] at c1
    rw [hj] at h1
    rw [c1]; exact h1.symm
  · have e : j / 4 * 4 + 2 = j := by omega
    rw [e] at h2
    rw [Nat.add_assoc, Nat.add_assoc, e] at c2
    rw [hj] at h2
    rw [c2]; exact h2.symm
  · have e : j / 4 * 4 + 3 = j := by omega
    rw [e] at h3
    rw [Nat.add_assoc, Nat.add_assoc, Nat.add_assoc, e] at c3
    rw [hj] at h3
    rw [c3]; exact h3.symm
theorem owns_RdS {w : World} {base : Nat} {A : Option Addr} {n c : Nat} {ss : List L.St} (h : w.ownsRow base 54 4 (.slice A n c) n (flatS ss)) (hn : ss.length = n) : RdS w w.heap.size A ss := by
  intro k s hk
  have hkl : k < n := by rw [← hn]; exact (List.getElem?_eq_some_iff.1 hk).1
  obtain ⟨g, cap, e, hbg, hh⟩ := h.form (by omega)
  have e' : A = some ⟨g, 0, none⟩ ∧ c = cap := by
    simp only [Value.slice.injEq] at e
    exact ⟨e.1, e.2.2⟩
  obtain ⟨rfl, rfl⟩ := e'
  obtain ⟨h0, h1, h2, h3⟩ := flatS_at hk
  refine ⟨g, 0, rfl, (h.lt g rfl).2, ?_, ?_, ?_, ?_⟩
  · rw [Nat.zero_add, h.cellAt (k * 4) (by omega)]; exact h0
  · rw [Nat.zero_add, h.cellAt (k * 4 + 1) (by omega)]; exact h1
  · rw [Nat.zero_add, h.cellAt (k * 4 + 1 + 1) (by omega)]; exact h2
  · rw [Nat.zero_add, h.cellAt (k * 4 + 1 + 1 + 1) (by omega)]; exact h3
theorem strip_info : (Try.prog.info? 54).map (fun i => (i.zero, i.size, i.bytes)) = some (some (.agg #[.int .i64 0, .int .i64 0, .int .i64 0, .int .i64 0]), 4, 32) := by kernel_rfl
theorem RdS.none {w : World} {B : Nat} {ss : List L.St} (h : RdS w B none ss) : ss = [] := by
  match ss, h with
  | [], _ => rfl
  | x :: r, h => obtain ⟨_, _, e, _⟩ := h 0 x rfl; cases e
theorem owns_emptyS {w : World} {b : Nat} {base : Nat} (hb : w.heap[b]? = some (.cells #[] 54 (0, 0))) (hle : base ≤ b) : w.ownsRow base 54 4 (.slice (some ⟨b, 0, none⟩) 0 0) 0 (flatS []) :=
  ⟨rfl, .inr ⟨b, 0, #[], rfl, hle, hb, Nat.le_refl _, Nat.zero_le _, rfl, rfl⟩⟩

theorem run_app_strips {w : World} (ty : TypeId) (base : Nat) (v : Value) (ps : List L.St) (m0 : Nat) (hown : w.ownsRow base 54 4 v m0 (flatS ps))
    (A : Option Addr) (n c : Nat) (ss : List L.St) (hn : ss.length = n) (hr : RdS w w.heap.size A ss) (hA : A = none → c = 0) (h0 : m0 ≤ 1000) (h1 : n ≤ 1000) (hbase : base ≤ w.heap.size) :
    ∃ A' c' w', (Builtin.append_ #[22, 22] ty #[v, .slice A n c]).run Try.prog w = .ok (.slice A' (m0 + n) c') w' ∧ w'.ownsRow base 54 4 (.slice A' (m0 + n) c') (m0 + n) (flatS (ps ++ ss)) ∧ w.grownBy w' v.ownBlock := by
  obtain ⟨i, hi, hz0, hz1, hz2⟩ := info_parts strip_info
  rcases A with _ | ad
  · have hx0 : ss = [] := hr.none
    subst hx0
    have hn0 : n = 0 := by simpa using hn.symm
    subst hn0
    have hc0 := hA rfl
    subst hc0
    obtain ⟨A', c', rfl⟩ := own_form hown
    have hrun := run_append_owned_none (P := Try.prog) (w := w) base 22 ty 54 i 4 Try.underlying22 hi (.slice A' m0 c') m0 (flatS ps) hown
    exact ⟨A', c', w, hrun, by simpa using hown, World.grownBy.refl w _⟩
  · obtain ⟨v', w', hrun, h2, h3, _, _⟩ := run_append_own_at (P := Try.prog) w base 22 ty 54 i _ 4 32 Try.underlying22 hi hz0 hz1 hz2 (by rfl) (by decide) v m0 (flatS ps) hown ad n c (flatS ss) (by rw [flatS_length]; omega) (flatS_cells hr) (flatS_one ss) (by unfold maxLen; omega) (by omega) hbase
    obtain ⟨A', c', rfl⟩ := own_form h2
    exact ⟨A', c', w', hrun, by rw [flatS_app]; exact h2, h3⟩
theorem wpList_app_strips {w : World} {ops : Array Oper} {rest : List Oper} {o : Oper} {a : Act} {Q : Exit → Act → World → Prop} (hgd : o.guard = none) (s x : Operand)
    (ho : o.op = .call { callee := .builtin .append, args := #[s, x], argTypes := #[22, 22] }) (base : Nat) (v : Value) (ps : List L.St) (m0 : Nat) (hs : a.eval s = v) (hown : w.ownsRow base 54 4 v m0 (flatS ps))
    (A : Option Addr) (n c : Nat) (ss : List L.St) (hx : a.eval x = .slice A n c) (hn : ss.length = n) (hr : RdS w w.heap.size A ss) (hA : A = none → c = 0) (h0 : m0 ≤ 1000) (h1 : n ≤ 1000) (hbase : base ≤ w.heap.size) (N : Nat) (hN : m0 + n = N)
    (h : ∀ A' c' w', w'.ownsRow base 54 4 (.slice A' N c') N (flatS (ps ++ ss)) → w.grownBy w' v.ownBlock → wpList Try.prog ops Q rest (a.put o.dst (.slice A' N c')) w') :
    wpList Try.prog ops Q (o :: rest) a w := by
  subst hN
  refine wpList_plain hgd fun K hK => ?_
  obtain ⟨A', c', w', hr', h2, h3⟩ := run_app_strips o.type base v ps m0 hown A n c ss hn hr hA h0 h1 hbase
  unfold Oper.wp execOp
  simp only [ho, resolve, invoke, builtin, Sem.run_bind, Sem.run_pure, Result.andThen_ok, List.map_toArray, List.map_cons, List.map_nil, hs, hx, hr']
  exact hK _ _ (h A' c' w' h2 h3)

theorem blk_new4 {w : World} {X Y Z V : Obj} : ((((w.alloc X).alloc Y).alloc Z).alloc V).heap[w.heap.size + 1 + 1 + 1]? = some V := by
  have := World.alloc_heap_new (((w.alloc X).alloc Y).alloc Z) V
  rwa [World.size_alloc, World.size_alloc, World.size_alloc] at this

theorem copy_results {Z : World} {g : Nat} {x0 x1 x2 x3 x4 x5 x6 : Value} {cs tmps : Array Value} (h3 : Z.heap[g]? = some (.cells cs 26 (0, 0)))
    (e3 : cs = #[x0, x1, x2, x3, x4, x5, x6]) (t2 : tmps[2]? = some (.pointer (some ⟨g, 0, none⟩))) :
    (results Try.f26 tmps).run Try.prog Z = .ok (.agg #[x0, x1, x2, x3, x4, x5, x6]) Z := by
  subst e3
  have k0 : Z.cell? ⟨g, 0, none⟩ = some x0 := blk_cell h3 0
  have k1 : Z.cell? ⟨g, 1, none⟩ = some x1 := blk_cell h3 1
  have k2 : Z.cell? ⟨g, 2, none⟩ = some x2 := blk_cell h3 2
  have k3 : Z.cell? ⟨g, 3, none⟩ = some x3 := blk_cell h3 3
  have k4 : Z.cell? ⟨g, 4, none⟩ = some x4 := blk_cell h3 4
  have k5 : Z.cell? ⟨g, 5, none⟩ = some x5 := blk_cell h3 5
  have k6 : Z.cell? ⟨g, 6, none⟩ = some x6 := blk_cell h3 6
  simp [results, Try.results26, go_sem, t2, k0, k1, k2, k3, k4, k5, k6]

set_option maxRecDepth 100000 in
set_option maxHeartbeats 3200000 in
theorem Copy_any (v : L.Vw) (A : Option Addr) (n c : Nat) (w : World) (hn : v.ss.length = n) (hr : RdS w w.heap.size A v.ss) (hA : A = none → c = 0) (h40 : n ≤ 1000) :
    Calls Try.prog 26 #[.agg #[.int .i64 v.size, .slice A n c, .int .i64 v.wrong, .int .i64 v.hxl, .int .i64 v.hxh, .int .i64 v.hyl, .int .i64 v.hyh]] w fun e w' => ∃ A' c', e = .returned (.agg #[.int .i64 v.size, .slice A' n c', .int .i64 v.wrong, .int .i64 v.hxl, .int .i64 v.hxh, .int .i64 v.hyl, .int .i64 v.hyh]) ∧ w'.ownsRow w.heap.size 54 4 (.slice A' n c') n (flatS v.ss) ∧ Below w.heap.size w w' := by
  have HN := hide hn
  have HR := hide hr
  clear hn hr
  go_enter Try.func26, Try.ntmps26
  go_wp2_with (refine wpList_app_strips rfl (.tmp 5) (.tmp 7) rfl (w.heap.size + 1 + 1 + 1) _ [] 0 rfl (owns_emptyS blk_new4 (Nat.le_refl _)) A n c v.ss rfl HN.out ((HR.out.below (by (repeat' first | exact zbR _ _ | assumption | refine zbD ?_ | refine zbA ?_ ?_ _ | refine zbS ?_ ?_ _ | refine zbT ?_ (by assumption) ?_ | (simp; done) | (simp; omega) | omega))).mono (by first | (simp; done) | (simp; omega) | omega)) hA (by omega) h40 (by first | (simp; done) | (simp; omega) | omega) n (by omega) ?_; intro A' c' w5 hown hgrow; have hg5 := grown_below (B := w.heap.size + 1 + 1 + 1) hgrow (by first | (simp; done) | (simp; omega) | omega) (fun g hg => by cases hg; simp); have HO := hide hown; have q5 := hg5.size; (try simp only [World.size_alloc] at q5); have k3 := (hg5.block (w.heap.size + 1 + 1) (by omega)).trans ((Below.heap_alloc _ _ _ (by first | (simp; done) | (simp; omega))).trans ((congrArg _ (by simp)).trans (World.alloc_heap_new _ _))); have k2 := (hg5.block (w.heap.size + 1) (by omega)).trans ((Below.heap_alloc _ _ _ (by first | (simp; done) | (simp; omega))).trans ((Below.heap_alloc _ _ _ (by first | (simp; done) | (simp; omega))).trans ((congrArg _ (by simp)).trans (World.alloc_heap_new _ _)))); have c0 := (blk_cell k3 0).trans rfl; have f0 := blk_frozen k3 0; have d0 := (blk_cell k2 0).trans rfl; have g0 := blk_frozen k2 0; have c1 := (blk_cell k3 1).trans rfl; have f1 := blk_frozen k3 1; have d1 := (blk_cell k2 1).trans rfl; have g1 := blk_frozen k2 1; have c2 := (blk_cell k3 2).trans rfl; have f2 := blk_frozen k3 2; have d2 := (blk_cell k2 2).trans rfl; have g2 := blk_frozen k2 2; have c3 := (blk_cell k3 3).trans rfl; have f3 := blk_frozen k3 3; have d3 := (blk_cell k2 3).trans rfl; have g3 := blk_frozen k2 3; have c4 := (blk_cell k3 4).trans rfl; have f4 := blk_frozen k3 4; have d4 := (blk_cell k2 4).trans rfl; have g4 := blk_frozen k2 4; have c5 := (blk_cell k3 5).trans rfl; have f5 := blk_frozen k3 5; have d5 := (blk_cell k2 5).trans rfl; have g5 := blk_frozen k2 5; have c6 := (blk_cell k3 6).trans rfl; have f6 := blk_frozen k3 6; have d6 := (blk_cell k2 6).trans rfl; have g6 := blk_frozen k2 6; have z2 : w.heap.size + 1 < w5.heap.size := (by omega); have z3 : w.heap.size + 1 + 1 < w5.heap.size := (by omega); have K2 := hide k2; clear hown hgrow k2 k3)
  refine bodyPost_ret (v := .agg #[.int .i64 v.size, .slice A' n c', .int .i64 v.wrong, .int .i64 v.hxl, .int .i64 v.hxh, .int .i64 v.hyl, .int .i64 v.hyh]) (copy_results (blk_set (blk_set (blk_set (blk_set (blk_set (blk_set (blk_set (blk_other K2.out (by omega) 1 _) 0 _) 1 _) 2 _) 3 _) 4 _) 5 _) 6 _) rfl rfl) rfl ?_
  have hB5 : Below w.heap.size w w5 := by (repeat' first | exact zbR _ _ | assumption | refine zbD ?_ | refine zbA ?_ ?_ _ | refine zbS ?_ ?_ _ | refine zbT ?_ (by assumption) ?_ | (simp; done) | (simp; omega) | omega)
  have e0 : flatS ([] ++ v.ss) = flatS v.ss := by rw [List.nil_append]
  refine ⟨A', c', rfl, ?_, ?_⟩
  · rw [← e0]
    exact owns_mono (ownsRow_setCell_below (ownsRow_setCell_below (ownsRow_setCell_below (ownsRow_setCell_below (ownsRow_setCell_below (ownsRow_setCell_below (ownsRow_setCell_below (ownsRow_setCell_below (HO.out) (show w.heap.size + 1 + 1 < w.heap.size + 1 + 1 + 1 by omega) _) (show w.heap.size + 1 < w.heap.size + 1 + 1 + 1 by omega) _) (show w.heap.size + 1 < w.heap.size + 1 + 1 + 1 by omega) _) (show w.heap.size + 1 < w.heap.size + 1 + 1 + 1 by omega) _) (show w.heap.size + 1 < w.heap.size + 1 + 1 + 1 by omega) _) (show w.heap.size + 1 < w.heap.size + 1 + 1 + 1 by omega) _) (show w.heap.size + 1 < w.heap.size + 1 + 1 + 1 by omega) _) (show w.heap.size + 1 < w.heap.size + 1 + 1 + 1 by omega) _) (by omega)
  · exact zbS (zbS (zbS (zbS (zbS (zbS (zbS (zbS (hB5) (show w.heap.size ≤ w.heap.size + 1 + 1 by omega) _) (show w.heap.size ≤ w.heap.size + 1 by omega) _) (show w.heap.size ≤ w.heap.size + 1 by omega) _) (show w.heap.size ≤ w.heap.size + 1 by omega) _) (show w.heap.size ≤ w.heap.size + 1 by omega) _) (show w.heap.size ≤ w.heap.size + 1 by omega) _) (show w.heap.size ≤ w.heap.size + 1 by omega) _) (show w.heap.size ≤ w.heap.size + 1 by omega) _

end Go.Proofs.Ytampfpnkkdihaaa

namespace Go.Proofs.Ytampfpnkkdihaaa
open Go.RowKit
attribute [local go_sem ↓] Go.wp_at_zero Go.wp_at_succ

def RdM (w : World) (B : Nat) (A : Option Addr) (ss : List L.Mk) : Prop :=
  ∀ (k : Nat) (s : L.Mk), ss[k]? = some s → ∃ b o : Nat, A = some ⟨b, o, none⟩ ∧ b < B ∧ w.cell? ⟨b, o + k * 4, none⟩ = some (.int .i64 s.x) ∧ w.cell? ⟨b, o + k * 4 + 1, none⟩ = some (.int .i64 s.y) ∧ w.cell? ⟨b, o + k * 4 + 1 + 1, none⟩ = some (.int .i64 s.hx) ∧ w.cell? ⟨b, o + k * 4 + 1 + 1 + 1, none⟩ = some (.int .i64 s.hy)
theorem RdM.nil (w : World) (B : Nat) (A : Option Addr) : RdM w B A [] := fun k s h => by simp at h
theorem RdM.below {w w' : World} {B : Nat} {A : Option Addr} {ss : List L.Mk} (h : RdM w B A ss) (hb : Below B w w') : RdM w' B A ss := fun k s hk => by
  obtain ⟨b, o, hA, hlt, h0, h1, h2, h3⟩ := h k s hk
  exact ⟨b, o, hA, hlt, (hb.cell (p := ⟨b, _, none⟩) hlt).trans h0, (hb.cell (p := ⟨b, _, none⟩) hlt).trans h1, (hb.cell (p := ⟨b, _, none⟩) hlt).trans h2, (hb.cell (p := ⟨b, _, none⟩) hlt).trans h3⟩
theorem RdM.mono {w : World} {B B' : Nat} {A : Option Addr} {ss : List L.Mk} (h : RdM w B A ss) (hb : B ≤ B') : RdM w B' A ss := fun k s hk => by
  obtain ⟨b, o, hA, hlt, h0⟩ := h k s hk
  exact ⟨b, o, hA, Nat.lt_of_lt_of_le hlt hb, h0⟩
theorem RdM.take {w : World} {B : Nat} {A : Option Addr} {ss : List L.Mk} (h : RdM w B A ss) (n : Nat) : RdM w B A (ss.take n) := fun k s hk => h k s (by
  rcases Nat.lt_or_ge k n with hl | hl
  · rwa [List.getElem?_take_of_lt hl] at hk
  · rw [List.getElem?_eq_none (by rw [List.length_take]; omega)] at hk; cases hk)

def flatM (ss : List L.Mk) : List Value := ss.flatMap fun s => [.int .i64 s.x, .int .i64 s.y, .int .i64 s.hx, .int .i64 s.hy]
theorem flatM_length : ∀ ss : List L.Mk, (flatM ss).length = ss.length * 4
  | [] => rfl
  | s :: r => by
    have := flatM_length r
    simp only [flatM, List.flatMap_cons, List.length_append, List.length_cons, List.length_nil] at this ⊢
    omega
theorem flatM_at : ∀ {ss : List L.Mk} {k : Nat} {s : L.Mk}, ss[k]? = some s → (flatM ss)[k * 4]? = some (.int .i64 s.x) ∧ (flatM ss)[k * 4 + 1]? = some (.int .i64 s.y) ∧ (flatM ss)[k * 4 + 2]? = some (.int .i64 s.hx) ∧ (flatM ss)[k * 4 + 3]? = some (.int .i64 s.hy)
  | [], k, s, h => by simp at h
  | a :: r, 0, s, h => by
    have h' : a = s := Option.some.inj h
    subst h'
    exact ⟨rfl, rfl, rfl, rfl⟩
  | a :: r, k + 1, s, h => by
    have ih := flatM_at (ss := r) (k := k) (s := s) h
    have e : (k + 1) * 4 = k * 4 + 4 := by omega
    rw [e]
    exact ih
theorem flatM_one (ss : List L.Mk) : ∀ u ∈ flatM ss, u.oneCell' = true := by
  intro u hu
  simp only [flatM, List.mem_flatMap, List.mem_cons, List.not_mem_nil, or_false] at hu
  obtain ⟨s, _, rfl | rfl | rfl | rfl⟩ := hu <;> rfl
theorem flatM_app (a b : List L.Mk) : flatM (a ++ b) = flatM a ++ flatM b := by unfold flatM; simp
theorem flatM_cells {w : World} {B : Nat} {a : Addr} {ss : List L.Mk} (h : RdM w B (some a) ss) : ∀ j u, (flatM ss)[j]? = some u → w.cell? (a.add j) = some u := by
  intro j u hj
  have hl : j < ss.length * 4 := by rw [← flatM_length]; exact (List.getElem?_eq_some_iff.1 hj).1
  obtain ⟨s, hs⟩ : ∃ s, ss[j / 4]? = some s := ⟨_, List.getElem?_eq_getElem (by omega)⟩
  obtain ⟨b, o, e, _, c0, c1, c2, c3⟩ := h (j / 4) s hs
  injection e with e
  subst e
  obtain ⟨h0, h1, h2, h3⟩ := flatM_at hs
  rw [add_plain]
  obtain hm | hm | hm | hm : j % 4 = 0 ∨ j % 4 = 1 ∨ j % 4 = 2 ∨ j % 4 = 3 := by omega
  · have e : j / 4 * 4 = j := by omega
    rw [e] at h0 c0
    rw [hj] at h0
    rw [c0]; exact h0.symm
  · have e : j / 4 * 4 + 1 = j := by omega
    rw [e] at h1
    rw [Nat.add_assoc, e] at c1
    rw [hj] at h1
    rw [c1]; exact h1.symm
  · have e : j / 4 * 4 + 2 = j := by omega
    rw [e] at h2
    rw [Nat.add_assoc, Nat.add_assoc, e] at c2
    rw [hj] at h2
    rw [c2]; exact h2.symm
  · have e : j / 4 * 4 + 3 = j := by omega
    rw [e] at h3
    rw [Nat.add_assoc, Nat.add_assoc, Nat.add_assoc, e] at c3
    rw [hj] at h3
    rw [c3]; exact h3.symm
theorem owns_RdM {w : World} {base : Nat} {A : Option Addr} {n c : Nat} {ss : List L.Mk} (h : w.ownsRow base 30 4 (.slice A n c) n (flatM ss)) (hn : ss.length = n) : RdM w w.heap.size A ss := by
  intro k s hk
  have hkl : k < n := by rw [← hn]; exact (List.getElem?_eq_some_iff.1 hk).1
  obtain ⟨g, cap, e, hbg, hh⟩ := h.form (by omega)
  have e' : A = some ⟨g, 0, none⟩ ∧ c = cap := by
    simp only [Value.slice.injEq] at e
    exact ⟨e.1, e.2.2⟩
  obtain ⟨rfl, rfl⟩ := e'
  obtain ⟨h0, h1, h2, h3⟩ := flatM_at hk
  refine ⟨g, 0, rfl, (h.lt g rfl).2, ?_, ?_, ?_, ?_⟩
  · rw [Nat.zero_add, h.cellAt (k * 4) (by omega)]; exact h0
  · rw [Nat.zero_add, h.cellAt (k * 4 + 1) (by omega)]; exact h1
  · rw [Nat.zero_add, h.cellAt (k * 4 + 1 + 1) (by omega)]; exact h2
  · rw [Nat.zero_add, h.cellAt (k * 4 + 1 + 1 + 1) (by omega)]; exact h3
theorem mark_info : (Try.prog.info? 30).map (fun i => (i.zero, i.size, i.bytes)) = some (some (.agg #[.int .i64 0, .int .i64 0, .int .i64 0, .int .i64 0]), 4, 32) := by kernel_rfl
theorem RdM.none {w : World} {B : Nat} {ss : List L.Mk} (h : RdM w B none ss) : ss = [] := by
  match ss, h with
  | [], _ => rfl
  | x :: r, h => obtain ⟨_, _, e, _⟩ := h 0 x rfl; cases e
theorem run_app_marks {w : World} (ty : TypeId) (base : Nat) (v : Value) (ps : List L.Mk) (m0 : Nat) (hown : w.ownsRow base 30 4 v m0 (flatM ps))
    (A : Option Addr) (n c : Nat) (ss : List L.Mk) (hn : ss.length = n) (hr : RdM w w.heap.size A ss) (hA : A = none → c = 0) (h0 : m0 ≤ 1000000) (h1 : n ≤ 1000) (hbase : base ≤ w.heap.size) :
    ∃ A' c' w', (Builtin.append_ #[93, 93] ty #[v, .slice A n c]).run Try.prog w = .ok (.slice A' (m0 + n) c') w' ∧ w'.ownsRow base 30 4 (.slice A' (m0 + n) c') (m0 + n) (flatM (ps ++ ss)) ∧ w.grownBy w' v.ownBlock := by
  obtain ⟨i, hi, hz0, hz1, hz2⟩ := info_parts mark_info
  rcases A with _ | ad
  · have hx0 : ss = [] := hr.none
    subst hx0
    have hn0 : n = 0 := by simpa using hn.symm
    subst hn0
    have hc0 := hA rfl
    subst hc0
    obtain ⟨A', c', rfl⟩ := own_form hown
    have hrun := run_append_owned_none (P := Try.prog) (w := w) base 93 ty 30 i 4 Try.underlying93 hi (.slice A' m0 c') m0 (flatM ps) hown
    exact ⟨A', c', w, hrun, by simpa using hown, World.grownBy.refl w _⟩
  · obtain ⟨v', w', hrun, h2, h3, _, _⟩ := run_append_own_at (P := Try.prog) w base 93 ty 30 i _ 4 32 Try.underlying93 hi hz0 hz1 hz2 (by rfl) (by decide) v m0 (flatM ps) hown ad n c (flatM ss) (by rw [flatM_length]; omega) (flatM_cells hr) (flatM_one ss) (by unfold maxLen; omega) (by omega) hbase
    obtain ⟨A', c', rfl⟩ := own_form h2
    exact ⟨A', c', w', hrun, by rw [flatM_app]; exact h2, h3⟩
theorem wpList_app_marks {w : World} {ops : Array Oper} {rest : List Oper} {o : Oper} {a : Act} {Q : Exit → Act → World → Prop} (hgd : o.guard = none) (s x : Operand)
    (ho : o.op = .call { callee := .builtin .append, args := #[s, x], argTypes := #[93, 93] }) (base : Nat) (v : Value) (ps : List L.Mk) (m0 : Nat) (hs : a.eval s = v) (hown : w.ownsRow base 30 4 v m0 (flatM ps))
    (A : Option Addr) (n c : Nat) (ss : List L.Mk) (hx : a.eval x = .slice A n c) (hn : ss.length = n) (hr : RdM w w.heap.size A ss) (hA : A = none → c = 0) (h0 : m0 ≤ 1000000) (h1 : n ≤ 1000) (hbase : base ≤ w.heap.size) (N : Nat) (hN : m0 + n = N)
    (h : ∀ A' c' w', w'.ownsRow base 30 4 (.slice A' N c') N (flatM (ps ++ ss)) → w.grownBy w' v.ownBlock → wpList Try.prog ops Q rest (a.put o.dst (.slice A' N c')) w') :
    wpList Try.prog ops Q (o :: rest) a w := by
  subst hN
  refine wpList_plain hgd fun K hK => ?_
  obtain ⟨A', c', w', hr', h2, h3⟩ := run_app_marks o.type base v ps m0 hown A n c ss hn hr hA h0 h1 hbase
  unfold Oper.wp execOp
  simp only [ho, resolve, invoke, builtin, Sem.run_bind, Sem.run_pure, Result.andThen_ok, List.map_toArray, List.map_cons, List.map_nil, hs, hx, hr']
  exact hK _ _ (h A' c' w' h2 h3)


theorem rdM_one {w : World} {q : Nat} {s : L.Mk} (hq : w.heap[q]? = some (.cells #[.int .i64 s.x, .int .i64 s.y, .int .i64 s.hx, .int .i64 s.hy] 30 (0, 0))) : RdM w w.heap.size (some ⟨q, 0, none⟩) [s] := by
  intro k y hk
  match k, hk with
  | 0, hk =>
    have hy : s = y := Option.some.inj hk
    subst hy
    exact ⟨_, 0, rfl, blk_lt hq, (blk_cell hq 0).trans rfl, (blk_cell hq 1).trans rfl, (blk_cell hq 2).trans rfl, (blk_cell hq 3).trans rfl⟩
  | k + 1, hk => cases hk

end Go.Proofs.Ytampfpnkkdihaaa

namespace Go.Proofs.Ytampfpnkkdihaaa
open Go.RowKit
attribute [local go_sem ↓] Go.wp_at_zero Go.wp_at_succ

structure L.StPq (s : L.St) : Prop where
  p0 : -3 ≤ s.p
  p1 : s.p ≤ 3
  q0 : -3 ≤ s.q
  q1 : s.q ≤ 3
theorem L.StOk.pq {s : L.St} (h : L.StOk s) : L.StPq s := ⟨h.p0, h.p1, h.q0, h.q1⟩

set_option maxRecDepth 100000 in
set_option maxHeartbeats 3200000 in
theorem refWrong_pq (v : L.Vw) (A : Option Addr) (n c : Nat) (x y : Int) (w : World) (hn : v.ss.length = n) (hr : RdS w w.heap.size A v.ss) (ho : ∀ s ∈ v.ss, L.StPq s) (h8 : n ≤ 8) (hx0 : 0 ≤ x) (hx1 : x ≤ 40) (hy0 : 0 ≤ y) (hy1 : y ≤ 40) :
    Calls Try.prog 50 #[.agg #[.int .i64 v.size, .slice A n c, .int .i64 v.wrong, .int .i64 v.hxl, .int .i64 v.hxh, .int .i64 v.hyl, .int .i64 v.hyh], .int .i64 x, .int .i64 y] w fun e w' => ∃ sv c', e = .returned (.slice sv (L.wrongL v x y).length c') ∧ w'.ownsRow w.heap.size 3 1 (.slice sv (L.wrongL v x y).length c') (L.wrongL v x y).length (flatI (L.wrongL v x y)) ∧ Below w.heap.size w w' := by
  have HN := hide hn
  have HR := hide hr
  have HO := hide ho
  clear hn hr ho
  go_enter Try.func50, Try.ntmps50
  go_wp2
  go_loopw [7, 8] (fun m i wr => ∃ j : Nat, j ≤ n ∧ i = .int .i64 j ∧ (∃ sv c', m = .slice sv (L.wrongFrom x y 0 (v.ss.take j)).length c' ∧ Hid (wr.ownsRow (w.heap.size + 1) 3 1 (.slice sv (L.wrongFrom x y 0 (v.ss.take j)).length c') (L.wrongFrom x y 0 (v.ss.take j)).length (flatI (L.wrongFrom x y 0 (v.ss.take j))))) ∧ Below (w.heap.size + 1) (w.alloc (.cells #[.int .i64 v.size, .slice A n c, .int .i64 v.wrong, .int .i64 v.hxl, .int .i64 v.hxh, .int .i64 v.hyl, .int .i64 v.hyh] 26)) wr) (fun _ i _ => n - (intOf i).toNat)
  case atStart => exact ⟨0, by omega, rfl, ⟨none, 0, rfl, hide (World.ownsRow_nil _ _ _ _)⟩, by (repeat' first | exact zbR _ _ | assumption | refine zbD ?_ | refine zbA ?_ ?_ _ | refine zbS ?_ ?_ _ | refine zbT ?_ (by assumption) ?_ | (simp; done) | (simp; omega) | omega)⟩
  case round =>
    obtain ⟨j, hj, rfl, ⟨sv, c', rfl, hown⟩, hB⟩ := hrel
    have hBs := hB.size
    simp only [World.size_alloc] at hBs
    have hB0 : Below w.heap.size w wr := ((Below.refl _ w).alloc (Nat.le_refl _) _).trans (hB.mono (by omega))
    have k1 : wr.cell? ⟨w.heap.size, 1, none⟩ = some (.slice A n c) := (hB.cell (p := ⟨w.heap.size, 1, none⟩) (by show w.heap.size < _; omega)).trans (zcA _ _ _ _ rfl)
    have hm : (L.wrongFrom x y 0 (v.ss.take j)).length ≤ 8 := by
      rw [L.wrongFrom_length]; have := L.many_take_le v.ss j x y 0; omega
    by_cases hlt : j < n
    · obtain ⟨s, hs⟩ : ∃ s, v.ss[j]? = some s := ⟨_, List.getElem?_eq_getElem (by have := HN.out; omega)⟩
      obtain ⟨b, o, hA, hbB, d0, d1, d2, d3⟩ := (HR.out.below hB0) j s hs
      subst hA
      obtain ⟨p0, p1, q0, q1⟩ := HO.out s (List.mem_of_getElem? hs)
      obtain ⟨m0, m1⟩ : -120 ≤ s.p * x ∧ s.p * x ≤ 120 := by have := L.mul_bd p0 p1 hx0 hx1; omega
      obtain ⟨m2, m3⟩ : -120 ≤ s.q * y ∧ s.q * y ≤ 120 := by have := L.mul_bd q0 q1 hy0 hy1; omega
      have HM := hide (L.wrongFrom_take x y hs)
      have HZ := hide (L.off_zero x y s)
      clear hs
      have hlt' : (j : Int) < (n : Int) := by omega
      have hj0 : (0 : Int) ≤ (j : Int) := by omega
      cases hv : L.within (s.p * x + s.q * y) s.lo s.hi
      · have HE : Hid (L.wrongFrom x y 0 (v.ss.take (j + 1)) = L.wrongFrom x y 0 (v.ss.take j) ++ [(j : Int)]) := hide (by rw [HM.out, HZ.out, hv]; rfl)
        have HL := hide (show (L.wrongFrom x y 0 (v.ss.take (j + 1))).length = (L.wrongFrom x y 0 (v.ss.take j)).length + 1 by rw [HE.out, List.length_append]; rfl)
        go_wp2_with (first | (go_at_call 57; refine (refWithin_any _ _ _ _).mono ?_; rintro e w3 ⟨rfl, rfl⟩; rw [hv]) | (refine wpList_app_at rfl (.tmp 37) (.tmp 39) rfl (w.heap.size + 1) _ (L.wrongFrom x y 0 (v.ss.take j)) _ rfl (owns_below hown.out (((Below.refl _ wr).alloc (Nat.le_refl _) _).alloc (by first | (simp; done) | (simp; omega) | omega) _)) (some ⟨wr.heap.size + 1, 0, none⟩) 1 1 [(j : Int)] rfl rfl (rdI_one blk_new2) (fun e => by cases e) (by omega) (by omega) (by first | (simp; done) | (simp; omega) | omega) ?_; intro A2 c2 w5 hown2 hgrow; have hg5 := grown_below (B := w.heap.size + 1) hgrow (by first | (simp; done) | (simp; omega) | omega) (fun g hg => (hown.out.lt g hg).1); have HO2 := hide hown2; clear hown2 hgrow))
        go_roundw
        case rel => exact ⟨j + 1, by omega, by go_num, ⟨A2, c2, by rw [HL.out], hide (by rw [HL.out, HE.out]; exact HO2.out)⟩, (hB.trans (((Below.refl _ wr).alloc (by omega) _).alloc (by simp; omega) _)).trans hg5⟩
        case measure => simp [intOf]; omega
      · have HE : Hid (L.wrongFrom x y 0 (v.ss.take (j + 1)) = L.wrongFrom x y 0 (v.ss.take j)) := hide (by rw [HM.out, HZ.out, hv]; simp)
        go_wp2_with (go_at_call 57; refine (refWithin_any _ _ _ _).mono ?_; rintro e w3 ⟨rfl, rfl⟩; rw [hv])
        go_roundw
        case rel => exact ⟨j + 1, by omega, by go_num, ⟨sv, c', by rw [HE.out], hide (by rw [HE.out]; exact owns_below hown.out ((Below.refl _ wr).alloc (Nat.le_refl _) _))⟩, by (repeat' first | exact zbR _ _ | assumption | refine zbD ?_ | refine zbA ?_ ?_ _ | refine zbS ?_ ?_ _ | refine zbT ?_ (by assumption) ?_ | (simp; done) | (simp; omega) | omega)⟩
        case measure => simp [intOf]; omega
    · have hjn : j = n := by omega
      subst hjn
      have HE : Hid (L.wrongFrom x y 0 (v.ss.take j) = L.wrongL v x y) := hide (by rw [List.take_of_length_le (by have := HN.out; omega)]; rfl)
      go_wp2_with fail
      go_ret
      refine ⟨sv, c', ?_, ?_, hB0⟩
      · rw [← HE.out]; rfl
      · rw [← HE.out]; exact owns_mono hown.out (by omega)

end Go.Proofs.Ytampfpnkkdihaaa

namespace Go.Proofs.Ytampfpnkkdihaaa
open Go.RowKit
attribute [local go_sem ↓] Go.wp_at_zero Go.wp_at_succ
attribute [local go_sem] Oper.semAt_some

namespace L
def spanOf (f : Int × Int → Int) : List (Int × Int) → Int × Int
  | [] => (0, 0)
  | c :: r => r.foldl (fun s d => (min s.1 (f d), max s.2 (f d))) (f c, f c)
theorem spanOf_one (f : Int × Int → Int) (c : Int × Int) : spanOf f ([] ++ [c]) = (f c, f c) := rfl
theorem spanOf_snoc (f : Int × Int → Int) (l : List (Int × Int)) (c : Int × Int) (h : l ≠ []) : spanOf f (l ++ [c]) = (min (spanOf f l).1 (f c), max (spanOf f l).2 (f c)) := by
  cases l with
  | nil => exact (h rfl).elim
  | cons a r => simp [spanOf, List.foldl_append]
theorem cents_length (N : Nat) : (cents N).length = (N + 1) * (N + 1) := by
  simp [cents, List.length_flatMap, List.map_const']
theorem tcents_length {v : Vw} (h : VwOk v) (k : Int) : (tcents v k).length ≤ 1681 := by
  have h1 : (tcents v k).length ≤ (cents v.size.toNat).length := List.length_filter_le _ _
  rw [cents_length] at h1
  have h2 : v.size.toNat + 1 ≤ 41 := by have := h.s0; have := h.s1; omega
  have := Nat.mul_le_mul h2 h2
  omega
def cenE (v : Vw) : Int := if checkE v = 0 then (if tcents v 0 = [] then 3 else 0) else checkE v
def cenN (v : Vw) : Int := if checkE v = 0 then ((tcents v 0).length : Int) else 0
def cenX (v : Vw) : Int × Int := if checkE v = 0 then spanOf (·.1) (tcents v 0) else (0, 0)
def cenY (v : Vw) : Int × Int := if checkE v = 0 then spanOf (·.2) (tcents v 0) else (0, 0)
theorem checkE_cases (v : Vw) : checkE v = 0 ∨ checkE v = 20 := by unfold checkE; split <;> simp
theorem checkE_ok {v : Vw} (h : checkE v = 0) : VwOk v := by
  unfold checkE at h
  cases h1 : viewB v <;> simp [h1] at h
  exact viewB_ok h1
end L

theorem cent_results {Z : World} {g2 g3 g4 : Nat} {m a b c d e : Int} {c2 c3 c4 tmps : Array Value} (h2 : Z.heap[g2]? = some (.cells c2 3 (0, 0))) (h3 : Z.heap[g3]? = some (.cells c3 24 (0, 0))) (h4 : Z.heap[g4]? = some (.cells c4 24 (0, 0)))
    (e2 : c2 = #[.int .i64 m]) (e3 : c3 = #[.int .i64 a, .int .i64 b]) (e4 : c4 = #[.int .i64 c, .int .i64 d]) (t2 : tmps[2]? = some (.pointer (some ⟨g2, 0, none⟩))) (t3 : tmps[3]? = some (.pointer (some ⟨g3, 0, none⟩))) (t4 : tmps[4]? = some (.pointer (some ⟨g4, 0, none⟩))) (t5 : tmps[5]? = some (.int .i64 e)) :
    (results Try.f24 tmps).run Try.prog Z = .ok (.tuple #[.int .i64 m, .agg #[.int .i64 a, .int .i64 b], .agg #[.int .i64 c, .int .i64 d], .int .i64 e]) Z := by
  subst e2 e3 e4
  have k0 : Z.cell? ⟨g2, 0, none⟩ = some (.int .i64 m) := blk_cell h2 0
  have k1 : Z.cell? ⟨g3, 0, none⟩ = some (.int .i64 a) := blk_cell h3 0
  have k2 : Z.cell? ⟨g3, 1, none⟩ = some (.int .i64 b) := blk_cell h3 1
  have k3 : Z.cell? ⟨g4, 0, none⟩ = some (.int .i64 c) := blk_cell h4 0
  have k4 : Z.cell? ⟨g4, 1, none⟩ = some (.int .i64 d) := blk_cell h4 1
  simp [results, Try.results24, go_sem, t2, t3, t4, t5, k0, k1, k2, k3, k4]

set_option maxRecDepth 100000 in
set_option maxHeartbeats 3200000 in
theorem Centres_no (v : L.Vw) (A : Option Addr) (n c : Nat) (w : World) (hn : v.ss.length = n) (hr : RdS w w.heap.size A v.ss) (h : L.checkE v = 20) :
    Calls Try.prog 24 #[.agg #[.int .i64 v.size, .slice A n c, .int .i64 v.wrong, .int .i64 v.hxl, .int .i64 v.hxh, .int .i64 v.hyl, .int .i64 v.hyh]] w fun e w' => e = .returned (.tuple #[.int .i64 (L.cenN v), .agg #[.int .i64 (L.cenX v).1, .int .i64 (L.cenX v).2], .agg #[.int .i64 (L.cenY v).1, .int .i64 (L.cenY v).2], .int .i64 (L.cenE v)]) ∧ Below w.heap.size w w' := by
  have HN := hide hn
  have HR := hide hr
  clear hn hr
  refine calls_marks Try.func24 rfl ?_
  simp only [Try.ntmps24, List.size_toArray, List.length_cons, List.length_nil, Nat.reduceAdd, Nat.reduceSub, Array.replicate_succ, Array.replicate_zero, List.push_toArray, List.append_toArray, List.nil_append, List.cons_append]
  go_upto_region 1 with fail
  obtain ⟨W0, hW0⟩ : ∃ W0, (((w.alloc (.cells #[.int .i64 v.size, .slice A n c, .int .i64 v.wrong, .int .i64 v.hxl, .int .i64 v.hxh, .int .i64 v.hyl, .int .i64 v.hyh] 26)).alloc (.cells #[.int .i64 0] 3)).alloc (.cells #[.int .i64 0, .int .i64 0] 24)).alloc (.cells #[.int .i64 0, .int .i64 0] 24) = W0 := ⟨_, rfl⟩
  have g0 : ∀ i, i < 7 → W0.cell? ⟨w.heap.size, i, none⟩ = (#[.int .i64 v.size, .slice A n c, .int .i64 v.wrong, .int .i64 v.hxl, .int .i64 v.hxh, .int .i64 v.hyl, .int .i64 v.hyh] : Array Value)[i]? := fun i _ => by
    rw [← hW0]; exact (zcP _ _ _ (by first | (simp; done) | (simp; omega))).trans ((zcP _ _ _ (by first | (simp; done) | (simp; omega))).trans ((zcP _ _ _ (by first | (simp; done) | (simp; omega))).trans (zcA _ _ _ _ rfl)))
  have g2 : W0.heap[w.heap.size + 1]? = some (.cells #[.int .i64 0] 3 (0, 0)) := by
    rw [← hW0]; exact (Below.heap_alloc _ _ _ (by first | (simp; done) | (simp; omega))).trans ((Below.heap_alloc _ _ _ (by first | (simp; done) | (simp; omega))).trans ((congrArg _ (by simp)).trans (World.alloc_heap_new _ _)))
  have g3 : W0.heap[w.heap.size + 1 + 1]? = some (.cells #[.int .i64 0, .int .i64 0] 24 (0, 0)) := by
    rw [← hW0]; exact (Below.heap_alloc _ _ _ (by first | (simp; done) | (simp; omega))).trans ((congrArg _ (by simp)).trans (World.alloc_heap_new _ _))
  have g4 : W0.heap[w.heap.size + 1 + 1 + 1]? = some (.cells #[.int .i64 0, .int .i64 0] 24 (0, 0)) := by
    rw [← hW0]; exact (congrArg _ (by simp)).trans (World.alloc_heap_new _ _)
  have gs : W0.heap.size = w.heap.size + 1 + 1 + 1 + 1 := by rw [← hW0]; simp
  have gB : Below w.heap.size w W0 := by rw [← hW0]; (repeat' first | exact zbR _ _ | assumption | refine zbD ?_ | refine zbA ?_ ?_ _ | refine zbS ?_ ?_ _ | refine zbT ?_ (by assumption) ?_ | (simp; done) | (simp; omega) | omega)
  rw [hW0]
  clear hW0
  have s0 := g0 0 (by omega)
  have s1 := g0 1 (by omega)
  have s2 := g0 2 (by omega)
  have s3 := g0 3 (by omega)
  have s4 := g0 4 (by omega)
  have s5 := g0 5 (by omega)
  have s6 := g0 6 (by omega)
  simp at s0 s1 s2 s3 s4 s5 s6
  have l0 : w.heap.size < W0.heap.size := by omega
  have G2 := hide g2
  have G3 := hide g3
  have G4 := hide g4
  have GB := hide gB
  clear g0 g2 g3 g4 gB
  have H := hide h
  clear h
  have E1 := hide (show L.cenN v = 0 by unfold L.cenN; rw [if_neg (by rw [H.out]; omega)])
  have E2 := hide (show L.cenX v = (0, 0) by unfold L.cenX; rw [if_neg (by rw [H.out]; omega)])
  have E3 := hide (show L.cenY v = (0, 0) by unfold L.cenY; rw [if_neg (by rw [H.out]; omega)])
  have E4 := hide (show L.cenE v = 20 by unfold L.cenE; rw [if_neg (by rw [H.out]; omega)]; exact H.out)
  go_wp2_with (go_at_call 35; refine (Check_any v A n c _ HN.out ((HR.out.below GB.out).mono (by omega))).mono ?_; rintro e w2 ⟨rfl, hb2⟩; rw [H.out]; have k2 := (hb2.block (w.heap.size + 1) (by omega)).trans G2.out; have k3 := (hb2.block (w.heap.size + 1 + 1) (by omega)).trans G3.out; have k4 := (hb2.block (w.heap.size + 1 + 1 + 1) (by omega)).trans G4.out; have c2 := (blk_cell k2 0).trans rfl; have c3 := (blk_cell k3 0).trans rfl; have c4 := (blk_cell k3 1).trans rfl; have c5 := (blk_cell k4 0).trans rfl; have c6 := (blk_cell k4 1).trans rfl; have f2 := blk_frozen k2 0; have f3 := blk_frozen k3 0; have f4 := blk_frozen k3 1; have f5 := blk_frozen k4 0; have f6 := blk_frozen k4 1; have K2 := hide k2; have K3 := hide k3; have K4 := hide k4; clear k2 k3 k4)
  rw [E1.out, E2.out, E3.out, E4.out]
  exact ⟨_, cent_results (blk_other (blk_other (blk_other (blk_other (blk_set K2.out 0 (.int .i64 0)) (by omega) 0 (.int .i64 0)) (by omega) 1 (.int .i64 0)) (by omega) 0 (.int .i64 0)) (by omega) 1 (.int .i64 0)) (blk_other (blk_other (blk_set (blk_set (blk_other K3.out (by omega) 0 (.int .i64 0)) 0 (.int .i64 0)) 1 (.int .i64 0)) (by omega) 0 (.int .i64 0)) (by omega) 1 (.int .i64 0)) (blk_set (blk_set (blk_other (blk_other (blk_other K4.out (by omega) 0 (.int .i64 0)) (by omega) 0 (.int .i64 0)) (by omega) 1 (.int .i64 0)) 0 (.int .i64 0)) 1 (.int .i64 0)) rfl rfl rfl rfl rfl rfl rfl, rfl, by (repeat' first | exact zbR _ _ | assumption | refine zbD ?_ | refine zbA ?_ ?_ _ | refine zbS ?_ ?_ _ | refine zbT ?_ (by assumption) ?_ | (simp; done) | (simp; omega) | omega)⟩

end Go.Proofs.Ytampfpnkkdihaaa

namespace Go.Proofs.Ytampfpnkkdihaaa
open Go.RowKit
attribute [local go_sem ↓] Go.wp_at_zero Go.wp_at_succ
attribute [local go_sem] Oper.semAt_some

theorem below_turn' {B D : Nat} {w W : World} {o : Obj} (h : Below B w W) (hD : B ≤ D) (hB : B ≤ W.heap.size := by first | (have := h.size; omega) | (simp; omega)) : Below B w (W.putObj D o) := h.grown (grownBy_putObj' W D o) hB (fun k e => by cases e; exact hD)
theorem drew_blk {W : World} {g : Nat} {o : Option Obj} (h : W.heap[g]? = o) : W.drew.heap[g]? = o := h
theorem Keeps.st {S : Nat → Prop} {A B : World} {a : Addr} {v : Value} (h : Keeps S A B) (hn : ¬ S a.block) : Keeps S A (B.setCell a v) := h.trans (Keeps.setAt B a v hn)
theorem cells1 {W : World} {g : Nat} {T : TypeId} {cs : Array Value} {a p : Int} (h : W.heap[g]? = some (.cells cs T (0, 0))) (e : cs = #[.int .i64 a]) (ha : a = p) : W.heap[g]? = some (.cells #[.int .i64 p] T (0, 0)) := by
  subst e ha; exact h
theorem cells2 {W : World} {g : Nat} {T : TypeId} {cs : Array Value} {a b p q : Int} (h : W.heap[g]? = some (.cells cs T (0, 0))) (e : cs = #[.int .i64 a, .int .i64 b]) (ha : a = p) (hb : b = q) : W.heap[g]? = some (.cells #[.int .i64 p, .int .i64 q] T (0, 0)) := by
  subst e ha hb; exact h

set_option maxRecDepth 100000 in
set_option maxHeartbeats 3200000 in
theorem Centres_yes (v : L.Vw) (A : Option Addr) (n c : Nat) (w : World) (hn : v.ss.length = n) (hr : RdS w w.heap.size A v.ss) (h : L.checkE v = 0) :
    Calls Try.prog 24 #[.agg #[.int .i64 v.size, .slice A n c, .int .i64 v.wrong, .int .i64 v.hxl, .int .i64 v.hxh, .int .i64 v.hyl, .int .i64 v.hyh]] w fun e w' => e = .returned (.tuple #[.int .i64 (L.cenN v), .agg #[.int .i64 (L.cenX v).1, .int .i64 (L.cenX v).2], .agg #[.int .i64 (L.cenY v).1, .int .i64 (L.cenY v).2], .int .i64 (L.cenE v)]) ∧ Below w.heap.size w w' := by
  have HN := hide hn
  have HR := hide hr
  clear hn hr
  refine calls_marks Try.func24 rfl ?_
  simp only [Try.ntmps24, List.size_toArray, List.length_cons, List.length_nil, Nat.reduceAdd, Nat.reduceSub, Array.replicate_succ, Array.replicate_zero, List.push_toArray, List.append_toArray, List.nil_append, List.cons_append]
  go_upto_region 1 with fail
  obtain ⟨W0, hW0⟩ : ∃ W0, (((w.alloc (.cells #[.int .i64 v.size, .slice A n c, .int .i64 v.wrong, .int .i64 v.hxl, .int .i64 v.hxh, .int .i64 v.hyl, .int .i64 v.hyh] 26)).alloc (.cells #[.int .i64 0] 3)).alloc (.cells #[.int .i64 0, .int .i64 0] 24)).alloc (.cells #[.int .i64 0, .int .i64 0] 24) = W0 := ⟨_, rfl⟩
  have g0 : ∀ i, i < 7 → W0.cell? ⟨w.heap.size, i, none⟩ = (#[.int .i64 v.size, .slice A n c, .int .i64 v.wrong, .int .i64 v.hxl, .int .i64 v.hxh, .int .i64 v.hyl, .int .i64 v.hyh] : Array Value)[i]? := fun i _ => by
    rw [← hW0]; exact (zcP _ _ _ (by first | (simp; done) | (simp; omega))).trans ((zcP _ _ _ (by first | (simp; done) | (simp; omega))).trans ((zcP _ _ _ (by first | (simp; done) | (simp; omega))).trans (zcA _ _ _ _ rfl)))
  have g2 : W0.heap[w.heap.size + 1]? = some (.cells #[.int .i64 0] 3 (0, 0)) := by
    rw [← hW0]; exact (Below.heap_alloc _ _ _ (by first | (simp; done) | (simp; omega))).trans ((Below.heap_alloc _ _ _ (by first | (simp; done) | (simp; omega))).trans ((congrArg _ (by simp)).trans (World.alloc_heap_new _ _)))
  have g3 : W0.heap[w.heap.size + 1 + 1]? = some (.cells #[.int .i64 0, .int .i64 0] 24 (0, 0)) := by
    rw [← hW0]; exact (Below.heap_alloc _ _ _ (by first | (simp; done) | (simp; omega))).trans ((congrArg _ (by simp)).trans (World.alloc_heap_new _ _))
  have g4 : W0.heap[w.heap.size + 1 + 1 + 1]? = some (.cells #[.int .i64 0, .int .i64 0] 24 (0, 0)) := by
    rw [← hW0]; exact (congrArg _ (by simp)).trans (World.alloc_heap_new _ _)
  have gs : W0.heap.size = w.heap.size + 1 + 1 + 1 + 1 := by rw [← hW0]; simp
  have gB : Below w.heap.size w W0 := by rw [← hW0]; (repeat' first | exact zbR _ _ | assumption | refine zbD ?_ | refine zbA ?_ ?_ _ | refine zbS ?_ ?_ _ | refine zbT ?_ (by assumption) ?_ | (simp; done) | (simp; omega) | omega)
  rw [hW0]
  clear hW0
  have s0 := g0 0 (by omega)
  have s1 := g0 1 (by omega)
  have s2 := g0 2 (by omega)
  have s3 := g0 3 (by omega)
  have s4 := g0 4 (by omega)
  have s5 := g0 5 (by omega)
  have s6 := g0 6 (by omega)
  simp at s0 s1 s2 s3 s4 s5 s6
  have l0 : w.heap.size < W0.heap.size := by omega
  have G2 := hide g2
  have G3 := hide g3
  have G4 := hide g4
  have GB := hide gB
  clear g0 g2 g3 g4 gB
  have H := hide h
  have HV := hide (L.checkE_ok h)
  clear h
  go_wp2_with (first | (go_at_call 35; refine (Check_any v A n c _ HN.out ((HR.out.below GB.out).mono (by omega))).mono ?_; rintro e w2 ⟨rfl, hb2⟩; rw [H.out]; obtain ⟨hc, hf⟩ := bcell hb2; have k2 := (hb2.block (w.heap.size + 1) (by omega)).trans G2.out; have k3 := (hb2.block (w.heap.size + 1 + 1) (by omega)).trans G3.out; have k4 := (hb2.block (w.heap.size + 1 + 1 + 1) (by omega)).trans G4.out; have K2 := hide k2; have K3 := hide k3; have K4 := hide k4; clear k2 k3 k4) | (go_at_call 58; refine (trueCentres_any v A n c 0 _).mono ?_; rintro e V ⟨rfl, hVb, hVs, hV0, hV1, hV2, hV3, hV4⟩))
  have z2 := hb2.size
  have hBV : Below w.heap.size w V := GB.out.trans ((hb2.mono (by omega)).trans (hVb.mono (by omega)))
  have v2 : V.heap[w.heap.size + 1]? = some (.cells #[.int .i64 0] 3 (0, 0)) := (hVb.block _ (by omega)).trans K2.out
  have v3 : V.heap[w.heap.size + 1 + 1]? = some (.cells #[.int .i64 0, .int .i64 0] 24 (0, 0)) := (hVb.block _ (by omega)).trans K3.out
  have v4 : V.heap[w.heap.size + 1 + 1 + 1]? = some (.cells #[.int .i64 0, .int .i64 0] 24 (0, 0)) := (hVb.block _ (by omega)).trans K4.out
  have HLen := hide (L.tcents_length HV.out 0)
  refine wp_rangeP (gf := 71) (lb := #[.pointer (some ⟨w2.heap.size, 0, none⟩), .pointer (some ⟨w2.heap.size + 1 + 1, 0, none⟩)]) rfl (enters_of Try.func71 (by kernel_rfl) rfl)
    (trueCentres_seq v A n c 0 w2.heap.size (w2.heap.size + 1) (w2.heap.size + 1 + 1) w.heap.size (fun x => x < V.heap.size ∧ x ≠ w.heap.size + 1 ∧ x ≠ w.heap.size + 1 + 1 ∧ x ≠ w.heap.size + 1 + 1 + 1) V HV.out HN.out hBV.size (HR.out.below hBV) (fun x hx => ⟨by omega, by omega, by omega, by omega⟩) (fun x hx => hx.1) (by omega) (by omega) ⟨by omega, by omega, by omega, by omega⟩ ⟨by omega, by omega, by omega, by omega⟩ ⟨by omega, by omega, by omega, by omega⟩ hV0 hV1 hV2 hV3 hV4) (Below.refl _ _) (fun x hx => hx.1) (fun _ => rfl)
    (fun pre X => Keeps (fun x => x ≠ w.heap.size + 1 ∧ x ≠ w.heap.size + 1 + 1 ∧ x ≠ w.heap.size + 1 + 1 + 1) V X ∧ X.heap[w.heap.size + 1]? = some (.cells #[.int .i64 (pre.length : Int)] 3 (0, 0)) ∧ X.heap[w.heap.size + 1 + 1]? = some (.cells #[.int .i64 (L.spanOf (·.1) pre).1, .int .i64 (L.spanOf (·.1) pre).2] 24 (0, 0)) ∧ X.heap[w.heap.size + 1 + 1 + 1]? = some (.cells #[.int .i64 (L.spanOf (·.2) pre).1, .int .i64 (L.spanOf (·.2) pre).2] 24 (0, 0)))
    (fun _ _ _ => False)
    (OwnFrom.and (keeps_own (Nat.le_refl _)) (OwnFrom.and (own_block (by omega) _) (OwnFrom.and (own_block (by omega) _) (own_block (by omega) _))))
    (fun _ _ _ _ _ hs _ _ => hs)
    ⟨Keeps.refl _ _, v2, v3, v4⟩ ?a1 ?assign ?body ?done ?stop
  case assign =>
    intro l2 x X K hK
    simp only [encP]
    gi_wp2
    exact hK
  case body =>
    rintro l2 pre x X ⟨hK, h2, h3, h4⟩ hpre
    have hmem := hpre.subset (List.mem_append_right _ (List.mem_singleton.2 rfl))
    obtain ⟨hx0, hx1, hy0, hy1⟩ := L.mem_cents (List.mem_filter.1 hmem).1
    have zs := HV.out.s1
    have z3 := hK.rest.size
    have hlen : pre.length < 1681 := by have := hpre.length_le; rw [List.length_append, List.length_singleton] at this; have := HLen.out; omega
    obtain ⟨x1, x2⟩ := x
    dsimp only at hx0 hx1 hy0 hy1
    have HK := hide hK
    clear hK hmem hpre
    by_cases hp : pre = []
    · subst hp
      have h2' : X.heap[w.heap.size + 1]? = some (.cells #[.int .i64 0] 3 (0, 0)) := h2
      have h3' : X.heap[w.heap.size + 1 + 1]? = some (.cells #[.int .i64 0, .int .i64 0] 24 (0, 0)) := h3
      have h4' : X.heap[w.heap.size + 1 + 1 + 1]? = some (.cells #[.int .i64 0, .int .i64 0] 24 (0, 0)) := h4
      have c2 := (blk_cell h2' 0).trans rfl
      have c3 := (blk_cell h3' 0).trans rfl
      have c4 := (blk_cell h3' 1).trans rfl
      have c5 := (blk_cell h4' 0).trans rfl
      have c6 := (blk_cell h4' 1).trans rfl
      have f2 := blk_frozen h2' 0
      have f3 := blk_frozen h3' 0
      have f4 := blk_frozen h3' 1
      have f5 := blk_frozen h4' 0
      have f6 := blk_frozen h4' 1
      have H2 := hide h2'
      have H3 := hide h3'
      have H4 := hide h4'
      clear h2 h3 h4 h2' h3' h4'
      gi_wp2
      refine ⟨?_, ?_, ?_, ?_, ?_⟩
      · (repeat (first | (with_reducible exact Keeps.refl _ _) | ((with_reducible refine Keeps.st ?_ ?_); rotate_left 1; (intro h; dsimp only at h; omega))))
      · (repeat (first | (with_reducible exact HK.out) | ((with_reducible refine Keeps.st ?_ ?_); rotate_left 1; (intro h; dsimp only at h; omega))))
      · exact cells1 (blk_other (blk_other (blk_other (blk_other (blk_set (blk_other (blk_other (blk_other (blk_other (H2.out) (by omega) 0 (.int .i64 x1)) (by omega) 1 (.int .i64 x1)) (by omega) 0 (.int .i64 x2)) (by omega) 1 (.int .i64 x2)) 0 (.int .i64 1)) (by omega) 0 (.int .i64 x1)) (by omega) 1 (.int .i64 x1)) (by omega) 0 (.int .i64 x2)) (by omega) 1 (.int .i64 x2)) rfl (by simp)
      · exact cells2 (blk_other (blk_other (blk_set (blk_set (blk_other (blk_other (blk_other (blk_set (blk_set (H3.out) 0 (.int .i64 x1)) 1 (.int .i64 x1)) (by omega) 0 (.int .i64 x2)) (by omega) 1 (.int .i64 x2)) (by omega) 0 (.int .i64 1)) 0 (.int .i64 x1)) 1 (.int .i64 x1)) (by omega) 0 (.int .i64 x2)) (by omega) 1 (.int .i64 x2)) rfl rfl rfl
      · exact cells2 (blk_set (blk_set (blk_other (blk_other (blk_other (blk_set (blk_set (blk_other (blk_other (H4.out) (by omega) 0 (.int .i64 x1)) (by omega) 1 (.int .i64 x1)) 0 (.int .i64 x2)) 1 (.int .i64 x2)) (by omega) 0 (.int .i64 1)) (by omega) 0 (.int .i64 x1)) (by omega) 1 (.int .i64 x1)) 0 (.int .i64 x2)) 1 (.int .i64 x2)) rfl rfl rfl
    · have hpos : 0 < pre.length := List.length_pos_iff.2 hp
      obtain ⟨lx, ux, hX⟩ : ∃ lx ux, L.spanOf (·.1) pre = (lx, ux) := ⟨_, _, rfl⟩
      obtain ⟨ly, uy, hY⟩ : ∃ ly uy, L.spanOf (·.2) pre = (ly, uy) := ⟨_, _, rfl⟩
      obtain ⟨m, hm⟩ : ∃ m : Int, (pre.length : Int) = m := ⟨_, rfl⟩
      have h2' : X.heap[w.heap.size + 1]? = some (.cells #[.int .i64 m] 3 (0, 0)) := by rw [← hm]; exact h2
      have h3' : X.heap[w.heap.size + 1 + 1]? = some (.cells #[.int .i64 lx, .int .i64 ux] 24 (0, 0)) := by rw [hX] at h3; exact h3
      have h4' : X.heap[w.heap.size + 1 + 1 + 1]? = some (.cells #[.int .i64 ly, .int .i64 uy] 24 (0, 0)) := by rw [hY] at h4; exact h4
      have c2 := (blk_cell h2' 0).trans rfl
      have f2 := blk_frozen h2' 0
      have c3 := (blk_cell h3' 0).trans rfl
      have f3 := blk_frozen h3' 0
      have c4 := (blk_cell h3' 1).trans rfl
      have f4 := blk_frozen h3' 1
      have c5 := (blk_cell h4' 0).trans rfl
      have f5 := blk_frozen h4' 0
      have c6 := (blk_cell h4' 1).trans rfl
      have f6 := blk_frozen h4' 1
      have EX := hide (show L.spanOf (·.1) (pre ++ [(x1, x2)]) = (min lx x1, max ux x1) by rw [L.spanOf_snoc _ _ _ hp, hX])
      have EY := hide (show L.spanOf (·.2) (pre ++ [(x1, x2)]) = (min ly x2, max uy x2) by rw [L.spanOf_snoc _ _ _ hp, hY])
      have EN := hide (show ((pre ++ [(x1, x2)]).length : Int) = m + 1 by rw [List.length_append, ← hm]; simp)
      have m0 : 1 ≤ m := by omega
      have m1 : m ≤ 1681 := by omega
      have H2 := hide h2'
      have H3 := hide h3'
      have H4 := hide h4'
      clear h2 h3 h4 h2' h3' h4' hX hY hm hpos hp
      gi_wp2
      all_goals
        refine ⟨?_, ?_, ?_, ?_, ?_⟩
        · (repeat (first | (with_reducible exact Keeps.refl _ _) | ((with_reducible refine Keeps.st ?_ ?_); rotate_left 1; (intro h; dsimp only at h; omega))))
        · (repeat (first | (with_reducible exact HK.out) | ((with_reducible refine Keeps.st ?_ ?_); rotate_left 1; (intro h; dsimp only at h; omega))))
        · rw [EN.out]; exact cells1 (blk_other (blk_other (blk_other (blk_other (blk_set (H2.out) 0 (_)) (by omega) 0 (_)) (by omega) 1 (_)) (by omega) 0 (_)) (by omega) 1 (_)) rfl rfl
        · rw [EX.out]; exact cells2 (blk_other (blk_other (blk_set (blk_set (blk_other (H3.out) (by omega) 0 (_)) 0 (_)) 1 (_)) (by omega) 0 (_)) (by omega) 1 (_)) rfl (by dsimp only; omega) (by dsimp only; omega)
        · rw [EY.out]; exact cells2 (blk_set (blk_set (blk_other (blk_other (blk_other (H4.out) (by omega) 0 (_)) (by omega) 0 (_)) (by omega) 1 (_)) 0 (_)) 1 (_)) rfl (by dsimp only; omega) (by dsimp only; omega)
  case done =>
    rintro D X hD ⟨hK, h2, h3, h4⟩ hdef
    have z3 := hK.rest.size
    have hbX := hBV.trans (hK.below (n := w.heap.size) (fun y hy => ⟨by omega, by omega, by omega⟩) (by omega))
    have E1 := hide (show L.cenN v = ((L.tcents v 0).length : Int) by unfold L.cenN; rw [if_pos H.out])
    have E2 := hide (show L.cenX v = L.spanOf (·.1) (L.tcents v 0) by unfold L.cenX; rw [if_pos H.out])
    have E3 := hide (show L.cenY v = L.spanOf (·.2) (L.tcents v 0) by unfold L.cenY; rw [if_pos H.out])
    have E4 := hide (show L.cenE v = if L.tcents v 0 = [] then 3 else 0 by unfold L.cenE; rw [if_pos H.out])
    clear hK
    by_cases hT : L.tcents v 0 = []
    · rw [hT] at h2 h3 h4 E1 E2 E3 E4
      rw [if_pos rfl] at E4
      have h2' : X.heap[w.heap.size + 1]? = some (.cells #[.int .i64 0] 3 (0, 0)) := h2
      have h3' : X.heap[w.heap.size + 1 + 1]? = some (.cells #[.int .i64 0, .int .i64 0] 24 (0, 0)) := h3
      have h4' : X.heap[w.heap.size + 1 + 1 + 1]? = some (.cells #[.int .i64 0, .int .i64 0] 24 (0, 0)) := h4
      have c2 := (blk_cell h2' 0).trans rfl
      have f2 := blk_frozen h2' 0
      have c3 := (blk_cell h3' 0).trans rfl
      have f3 := blk_frozen h3' 0
      have c4 := (blk_cell h3' 1).trans rfl
      have f4 := blk_frozen h3' 1
      have c5 := (blk_cell h4' 0).trans rfl
      have f5 := blk_frozen h4' 0
      have c6 := (blk_cell h4' 1).trans rfl
      have f6 := blk_frozen h4' 1
      have H2 := hide h2'
      have H3 := hide h3'
      have H4 := hide h4'
      clear h2 h3 h4 h2' h3' h4'
      go_wp2
      refine ⟨by simp, .inl ⟨_, _, rfl, run_takeDeferred (blk_other (blk_other (blk_other (blk_other (blk_other (hdef) (by omega) 0 (.int .i64 0)) (by omega) 0 (.int .i64 0)) (by omega) 1 (.int .i64 0)) (by omega) 0 (.int .i64 0)) (by omega) 1 (.int .i64 0)), ?_⟩⟩
      rw [E1.out, E2.out, E3.out, E4.out]
      exact ⟨_, cent_results ((World.putObj_heap_other (by omega)).trans (blk_other (blk_other (blk_other (blk_other (blk_set (H2.out) 0 (.int .i64 0)) (by omega) 0 (.int .i64 0)) (by omega) 1 (.int .i64 0)) (by omega) 0 (.int .i64 0)) (by omega) 1 (.int .i64 0))) ((World.putObj_heap_other (by omega)).trans (blk_other (blk_other (blk_set (blk_set (blk_other (H3.out) (by omega) 0 (.int .i64 0)) 0 (.int .i64 0)) 1 (.int .i64 0)) (by omega) 0 (.int .i64 0)) (by omega) 1 (.int .i64 0))) ((World.putObj_heap_other (by omega)).trans (blk_set (blk_set (blk_other (blk_other (blk_other (H4.out) (by omega) 0 (.int .i64 0)) (by omega) 0 (.int .i64 0)) (by omega) 1 (.int .i64 0)) 0 (.int .i64 0)) 1 (.int .i64 0))) rfl rfl rfl rfl rfl rfl rfl, rfl, below_turn' (by (repeat' first | exact zbR _ _ | assumption | refine zbD ?_ | refine zbA ?_ ?_ _ | refine zbS ?_ ?_ _ | refine zbT ?_ (by assumption) ?_ | (simp; done) | (simp; omega) | omega)) (by omega)⟩
    · have hpos : 0 < (L.tcents v 0).length := List.length_pos_iff.2 hT
      rw [if_neg hT] at E4
      obtain ⟨lx, ux, hX⟩ : ∃ lx ux, L.spanOf (·.1) (L.tcents v 0) = (lx, ux) := ⟨_, _, rfl⟩
      obtain ⟨ly, uy, hY⟩ : ∃ ly uy, L.spanOf (·.2) (L.tcents v 0) = (ly, uy) := ⟨_, _, rfl⟩
      obtain ⟨m, hm⟩ : ∃ m : Int, ((L.tcents v 0).length : Int) = m := ⟨_, rfl⟩
      have h2' : X.heap[w.heap.size + 1]? = some (.cells #[.int .i64 m] 3 (0, 0)) := by rw [← hm]; exact h2
      have h3' : X.heap[w.heap.size + 1 + 1]? = some (.cells #[.int .i64 lx, .int .i64 ux] 24 (0, 0)) := by rw [hX] at h3; exact h3
      have h4' : X.heap[w.heap.size + 1 + 1 + 1]? = some (.cells #[.int .i64 ly, .int .i64 uy] 24 (0, 0)) := by rw [hY] at h4; exact h4
      rw [hm] at E1
      rw [hX] at E2
      rw [hY] at E3
      have c2 := (blk_cell h2' 0).trans rfl
      have f2 := blk_frozen h2' 0
      have c3 := (blk_cell h3' 0).trans rfl
      have f3 := blk_frozen h3' 0
      have c4 := (blk_cell h3' 1).trans rfl
      have f4 := blk_frozen h3' 1
      have c5 := (blk_cell h4' 0).trans rfl
      have f5 := blk_frozen h4' 0
      have c6 := (blk_cell h4' 1).trans rfl
      have f6 := blk_frozen h4' 1
      have m0 : 1 ≤ m := by omega
      have m1 : (m == 0) = false := by simp; omega
      have H2 := hide h2'
      have H3 := hide h3'
      have H4 := hide h4'
      clear h2 h3 h4 h2' h3' h4' hX hY hm hpos hT
      go_wp2
      go_region
      all_goals
        go_wp2
        refine ⟨by simp, .inl ⟨_, _, rfl, run_takeDeferred (drew_blk (blk_other (blk_other (blk_other (blk_other (blk_other (hdef) (by omega) 0 (.int .i64 m)) (by omega) 0 (.int .i64 lx)) (by omega) 1 (.int .i64 ux)) (by omega) 0 (.int .i64 ly)) (by omega) 1 (.int .i64 uy))), ?_⟩⟩
        rw [E1.out, E2.out, E3.out, E4.out]
        exact ⟨_, cent_results ((World.putObj_heap_other (by omega)).trans (drew_blk (blk_other (blk_other (blk_other (blk_other (blk_set (H2.out) 0 (.int .i64 m)) (by omega) 0 (.int .i64 lx)) (by omega) 1 (.int .i64 ux)) (by omega) 0 (.int .i64 ly)) (by omega) 1 (.int .i64 uy)))) ((World.putObj_heap_other (by omega)).trans (drew_blk (blk_other (blk_other (blk_set (blk_set (blk_other (H3.out) (by omega) 0 (.int .i64 m)) 0 (.int .i64 lx)) 1 (.int .i64 ux)) (by omega) 0 (.int .i64 ly)) (by omega) 1 (.int .i64 uy)))) ((World.putObj_heap_other (by omega)).trans (drew_blk (blk_set (blk_set (blk_other (blk_other (blk_other (H4.out) (by omega) 0 (.int .i64 m)) (by omega) 0 (.int .i64 lx)) (by omega) 1 (.int .i64 ux)) 0 (.int .i64 ly)) 1 (.int .i64 uy)))) rfl rfl rfl rfl rfl rfl rfl, rfl, below_turn' (by (repeat' first | exact zbR _ _ | assumption | refine zbD ?_ | refine zbA ?_ ?_ _ | refine zbS ?_ ?_ _ | refine zbT ?_ (by assumption) ?_ | (simp; done) | (simp; omega) | omega)) (by omega)⟩
  case stop =>
    rintro D cd pre X _ _ h _
    exact h.elim

end Go.Proofs.Ytampfpnkkdihaaa

namespace Go.Proofs.Ytampfpnkkdihaaa
open Go

theorem drop_get {α : Type} {l rest : List α} {x : α} : ∀ {i : Nat}, l.drop i = x :: rest → l.toArray[i]? = some x := by
  intro i h
  have : l[i]? = some x := by
    have := congrArg List.head? h
    simpa [List.head?_drop] using this
  simpa using this

theorem takeL {P : Program} {md : Region.Mode} {l rest : List Oper} {Q : Exit → Act → World → Prop} {S : World → Prop} {oi : Oper} {v : Value} {fuel : Nat} {listed : Array Bool} {a : Act} {w : World} (i : Nat) (hi : l.drop i = oi :: rest)
    (hs : Region.noSelect l.toArray = true) (hf : Region.free md l.toArray listed i = true) (hr : (Region.ready md l.toArray listed).contains i = true)
    (hQ : ∀ c a w, Q (.panic c) (a.put oi.dst v) w → Q (.panic c) a w) (hy : YieldsIf P l.toArray S oi v a) (hS : S w)
    (h : wpAnyH P md l.toArray Q S fuel (listed.setIfInBounds i true) (a.put oi.dst v) w) : wpAnyH P md l.toArray Q S (fuel + 1) listed a w :=
  wpAnyH_take (drop_get hi) hs hf hr hQ hy hS h

theorem tL {P : Program} {md : Region.Mode} {l rest : List Oper} {Q : Exit → Act → World → Prop} {S : World → Prop} {oi : Oper} {v : Value} {fuel : Nat} {listed : Array Bool} {a : Act} {w : World} (i : Nat) (hi : l.drop i = oi :: rest)
    (hb : (Region.noSelect l.toArray && Region.free md l.toArray listed i && (Region.ready md l.toArray listed).contains i) = true)
    (hQ : ∀ c a w, Q (.panic c) (a.put oi.dst v) w → Q (.panic c) a w) (hy : YieldsIf P l.toArray S oi v a) (hS : S w)
    (h : wpAnyH P md l.toArray Q S fuel (listed.setIfInBounds i true) (a.put oi.dst v) w) : wpAnyH P md l.toArray Q S (fuel + 1) listed a w := by
  rw [Bool.and_eq_true, Bool.and_eq_true] at hb
  exact takeL i hi hb.1.1 hb.1.2 hb.2 hQ hy hS h
theorem tW {P : Program} {md : Region.Mode} {l rest : List Oper} {Q : Exit → Act → World → Prop} {S : World → Prop} {oi : Oper} {fuel : Nat} {listed : Array Bool} {a : Act} {w : World} (v : Value) (i : Nat) (hi : l.drop i = oi :: rest)
    (hb : (Region.noSelect l.toArray && Region.free md l.toArray listed i && (Region.ready md l.toArray listed).contains i) = true)
    (hQ : ∀ c a w, Q (.panic c) (a.put oi.dst v) w → Q (.panic c) a w) (hw : Region.wanted oi (yielded l.toArray a.tmps) = true) (hS : S w) (hy : ∀ w, S w → (execOp a.eval oi).run P w = .ok (.value v) w)
    (h : wpAnyH P md l.toArray Q S fuel (listed.setIfInBounds i true) (a.put oi.dst v) w) : wpAnyH P md l.toArray Q S (fuel + 1) listed a w := tL i hi hb hQ (.inl ⟨hw, hy⟩) hS h
theorem zl {α : Type} (l : List α) (i : Nat) (a : α) : l.toArray.setIfInBounds i a = (l.set i a).toArray := List.setIfInBounds_toArray l i a
theorem z0 {α : Type} {x : α} {xs : List α} {a : α} : (x :: xs).set 0 a = a :: xs := List.set_cons_zero
theorem z1 {α : Type} {x : α} {xs : List α} {i : Nat} {a : α} : (x :: xs).set (i + 1) a = x :: xs.set i a := List.set_cons_succ

theorem consL {P : Program} {md : Region.Mode} {l rest : List Oper} {Q : Exit → Act → World → Prop} {S : World → Prop} {fuel : Nat} {listed : Array Bool} {a : Act} {w : World} {o : Oper} {rs : List Nat} (i : Nat) (ho : l.drop i = o :: rest)
    (h : ∀ K' : Act → World → Prop, Shut (∀ a w, S w → (S w → wpAnyH P md l.toArray Q S fuel (listed.setIfInBounds i true) a w) → K' a w) → if Region.wanted o (yielded l.toArray a.tmps) = true then Oper.wp P o a w K' Q else K' (a.put o.dst undef) w)
    (hs : AllReadyH P md l.toArray Q S fuel listed a w rs) : AllReadyH P md l.toArray Q S fuel listed a w (i :: rs) :=
  AllReadyH.cons (drop_get ho) h hs

end Go.Proofs.Ytampfpnkkdihaaa

namespace Go.Proofs.Ytampfpnkkdihaaa
open Go.RowKit
attribute [local go_sem ↓] Go.wp_at_zero Go.wp_at_succ

namespace L
theorem okAt_zero' (v : Vw) (c : Int × Int) : okAt v 0 c = decide (((wrongL v c.1 c.2).length : Int) ≤ v.wrong) := by unfold okAt; rw [wrongL_length]
structure VwW (v : Vw) : Prop where
  s0 : 0 ≤ v.size
  s1 : v.size ≤ 40
  w0 : 0 ≤ v.wrong
  w1 : v.wrong ≤ 3
  x0 : 1 ≤ v.hxl
  xx : v.hxl ≤ v.hxh
  x1 : v.hxh ≤ 9
  y0 : 1 ≤ v.hyl
  yy : v.hyl ≤ v.hyh
  y1 : v.hyh ≤ 9
  n8 : v.ss.length ≤ 8
  ok : ∀ s ∈ v.ss, StPq s
theorem VwOk.w {v : Vw} (h : VwOk v) : VwW v := ⟨h.s0, h.s1, h.w0, h.w1, h.x0, h.xx, h.x1, h.y0, h.yy, h.y1, h.n8, fun s hs => (h.ok s hs).pq⟩
def mk0 (c : Int × Int) : Mk := ⟨c.1, c.2, 0, 0⟩
def tcTo (v : Vw) (N i j : Nat) : List Mk := (((rowsTo N i ++ rowAt N i j)).filter (okAt v 0)).map mk0
theorem tcTo_row (v : Vw) (N i : Nat) : tcTo v N i (N + 1) = tcTo v N (i + 1) 0 := by
  unfold tcTo; rw [rowsTo_next]; rw [show rowAt N (i + 1) 0 = [] from rfl, List.append_nil]
theorem tcTo_next (v : Vw) (N i j : Nat) : tcTo v N i (j + 1) = tcTo v N i j ++ (if okAt v 0 ((i : Int), (j : Int)) then [mk0 ((i : Int), (j : Int))] else []) := by
  unfold tcTo
  rw [rowAt_next, ← List.append_assoc, List.filter_append, List.map_append]
  congr 1
  cases h : okAt v 0 ((i : Int), (j : Int)) <;> simp [List.filter_cons, h]
theorem tcTo_all (v : Vw) (N : Nat) : tcTo v N (N + 1) 0 = ((cents N).filter (okAt v 0)).map mk0 := by
  unfold tcTo; rw [show rowAt N (N + 1) 0 = [] from rfl, List.append_nil, ← cents_rows]
theorem tcTo_le (v : Vw) {N i j : Nat} (hN : N ≤ 40) (hi : i ≤ N) (hj : j ≤ N + 1) : (tcTo v N i j).length ≤ 1681 := by
  unfold tcTo
  rw [List.length_map]
  refine Nat.le_trans (List.length_filter_le _ _) ?_
  have h1 : (rowsTo N i ++ rowAt N i j).length ≤ (cents N).length := by
    rw [cents_rows]
    refine (List.IsPrefix.trans ?_ (rowsTo_pre N (show i + 1 ≤ N + 1 by omega))).length_le
    rw [rowsTo_next]
    exact (List.prefix_append_right_inj _).2 (rowAt_pre N i hj)
  rw [cents_length] at h1
  have h2 : N + 1 ≤ 41 := by omega
  have := Nat.mul_le_mul h2 h2
  omega
end L

theorem refWrong_N (v : L.Vw) (A : Option Addr) (n c N : Nat) (x y : Int) (w : World) (hN : v.size = (N : Int)) (hn : v.ss.length = n) (hr : RdS w w.heap.size A v.ss) (ho : ∀ s ∈ v.ss, L.StPq s) (h8 : n ≤ 8) (hx0 : 0 ≤ x) (hx1 : x ≤ 40) (hy0 : 0 ≤ y) (hy1 : y ≤ 40) :
    Calls Try.prog 50 #[.agg #[.int .i64 (N : Int), .slice A n c, .int .i64 v.wrong, .int .i64 v.hxl, .int .i64 v.hxh, .int .i64 v.hyl, .int .i64 v.hyh], .int .i64 x, .int .i64 y] w fun e w' => ∃ sv c', e = .returned (.slice sv (L.wrongL v x y).length c') ∧ w'.ownsRow w.heap.size 3 1 (.slice sv (L.wrongL v x y).length c') (L.wrongL v x y).length (flatI (L.wrongL v x y)) ∧ Below w.heap.size w w' := by
  rw [← hN]
  exact refWrong_pq v A n c x y w hn hr ho h8 hx0 hx1 hy0 hy1

set_option maxRecDepth 100000 in
set_option maxHeartbeats 6400000 in
theorem refCents_any (v : L.Vw) (A : Option Addr) (n c N : Nat) (w : World) (hv : L.VwW v) (hN : v.size = (N : Int)) (hn : v.ss.length = n) (hr : RdS w w.heap.size A v.ss) :
    Calls Try.prog 64 #[.agg #[.int .i64 v.size, .slice A n c, .int .i64 v.wrong, .int .i64 v.hxl, .int .i64 v.hxh, .int .i64 v.hyl, .int .i64 v.hyh]] w fun e w' => ∃ sv c', e = .returned (.slice sv ((L.tcents v 0).map L.mk0).length c') ∧ w'.ownsRow w.heap.size 30 4 (.slice sv ((L.tcents v 0).map L.mk0).length c') ((L.tcents v 0).map L.mk0).length (flatM ((L.tcents v 0).map L.mk0)) ∧ Below w.heap.size w w' := by
  have HN := hide hn
  have HR := hide hr
  have HV := hide hv
  have hN40 : N ≤ 40 := by have := hv.s1; omega
  have hn8 : n ≤ 8 := by have := hv.n8; omega
  have HALL := hide (show L.tcTo v N (N + 1) 0 = (L.tcents v 0).map L.mk0 by rw [L.tcTo_all]; unfold L.tcents; rw [show v.size.toNat = N by omega])
  have HSz := hide hN
  have hv1 : (0 : Int) ≤ v.wrong := hv.w0
  have hv2 : v.wrong ≤ 3 := hv.w1
  clear hn hr hv
  go_enter Try.func64, Try.ntmps64
  go_upto_region 1 with fail
  rw [hN]
  obtain ⟨W0, hW0⟩ : ∃ W0, w.alloc (.cells #[.int .i64 (N : Int), .slice A n c, .int .i64 v.wrong, .int .i64 v.hxl, .int .i64 v.hxh, .int .i64 v.hyl, .int .i64 v.hyh] 26) = W0 := ⟨_, rfl⟩
  have gp : W0.heap[w.heap.size]? = some (.cells #[.int .i64 (N : Int), .slice A n c, .int .i64 v.wrong, .int .i64 v.hxl, .int .i64 v.hxh, .int .i64 v.hyl, .int .i64 v.hyh] 26 (0, 0)) := by
    rw [← hW0]; exact World.alloc_heap_new _ _
  have gs : W0.heap.size = w.heap.size + 1 := by rw [← hW0]; simp
  have gB : Below w.heap.size w W0 := by rw [← hW0]; (repeat' first | exact zbR _ _ | assumption | refine zbD ?_ | refine zbA ?_ ?_ _ | refine zbS ?_ ?_ _ | refine zbT ?_ (by assumption) ?_ | (simp; done) | (simp; omega) | omega)
  rw [hW0]
  clear hW0 hN
  obtain ⟨p, hp⟩ : ∃ p, w.heap.size = p := ⟨_, rfl⟩
  rw [hp]
  rw [hp] at gp
  have lp : p < W0.heap.size := by omega
  have HR0 := hide ((HR.out.below gB).mono gB.size)
  have HP := hide hp
  have GB := hide gB
  have GP := hide gp
  have GS := hide gs
  clear gp gB HR hp gs
  go_wp2_with fail
  go_loopw [3, 4] (fun m t wr => ∃ i : Nat, i ≤ N + 1 ∧ t = .int .i64 i ∧ (∃ sv c', m = .slice sv (L.tcTo v N i 0).length c' ∧ Hid (wr.ownsRow W0.heap.size 30 4 (.slice sv (L.tcTo v N i 0).length c') (L.tcTo v N i 0).length (flatM (L.tcTo v N i 0)))) ∧ Below W0.heap.size W0 wr) (fun _ t _ => N + 1 - (intOf t).toNat)
  case atStart => exact ⟨0, by omega, rfl, ⟨none, 0, rfl, hide (World.ownsRow_nil _ _ _ _)⟩, Below.refl _ _⟩
  case round =>
    obtain ⟨i, hi, rfl, ⟨sv, c', rfl, hown⟩, hB⟩ := hrel
    have qB := hB.size
    have bp := (hB.block p lp).trans GP.out
    have cp0 := (blk_cell bp 0).trans rfl; have cp1 := (blk_cell bp 1).trans rfl; have cp2 := (blk_cell bp 2).trans rfl; have cp3 := (blk_cell bp 3).trans rfl; have cp4 := (blk_cell bp 4).trans rfl; have cp5 := (blk_cell bp 5).trans rfl; have cp6 := (blk_cell bp 6).trans rfl
    have lpr : p < wr.heap.size := by omega
    have hi0 : (0 : Int) ≤ (i : Int) := by omega
    have hi1 : (i : Int) ≤ 41 := by omega
    clear bp
    by_cases hlt : i < N + 1
    · have hlt' : (i : Int) ≤ (N : Int) := by omega
      have GPr := hide ((hB.block p lp).trans GP.out)
      go_wp2_with fail
      clear cp0 cp1 cp2 cp3 cp4 cp5 cp6
      go_loopw [3, 5] (fun m t wq => ∃ j : Nat, j ≤ N + 1 ∧ t = .int .i64 j ∧ (∃ sv c', m = .slice sv (L.tcTo v N i j).length c' ∧ Hid (wq.ownsRow W0.heap.size 30 4 (.slice sv (L.tcTo v N i j).length c') (L.tcTo v N i j).length (flatM (L.tcTo v N i j)))) ∧ Below W0.heap.size W0 wq) (fun _ t _ => N + 1 - (intOf t).toNat)
      case atStart => exact ⟨0, by omega, rfl, ⟨sv, c', rfl, hown⟩, hB⟩
      case round =>
        clear hown hB qB lpr GPr
        obtain ⟨j, hj, rfl, ⟨sv, c', rfl, hown⟩, hB⟩ := hrel
        have qB := hB.size
        have bp := (hB.block p lp).trans GP.out
        have cp0 := (blk_cell bp 0).trans rfl; have cp1 := (blk_cell bp 1).trans rfl; have cp2 := (blk_cell bp 2).trans rfl; have cp3 := (blk_cell bp 3).trans rfl; have cp4 := (blk_cell bp 4).trans rfl; have cp5 := (blk_cell bp 5).trans rfl; have cp6 := (blk_cell bp 6).trans rfl
        have GPr := hide bp
        have lpr : p < wr.heap.size := by omega
        have hj0 : (0 : Int) ≤ (j : Int) := by omega
        have hj1 : (j : Int) ≤ 41 := by omega
        clear bp
        by_cases hlt2 : j < N + 1
        · have hlt2' : (j : Int) ≤ (N : Int) := by omega
          have HRr := hide ((HR0.out.below hB).mono qB)
          have hle := L.tcTo_le v hN40 (show i ≤ N by omega) (show j ≤ N + 1 by omega)
          have HNX := hide (L.tcTo_next v N i j)
          obtain ⟨ln, hln⟩ : ∃ ln, (L.wrongL v (i : Int) (j : Int)).length = ln := ⟨_, rfl⟩
          have HOK := hide (show L.okAt v 0 ((i : Int), (j : Int)) = decide ((ln : Int) ≤ v.wrong) by rw [← hln]; exact L.okAt_zero' v _)
          have HLN := hide hln
          have hln8 : (ln : Int) ≤ 8 := by rw [← hln, L.wrongL_length]; have := L.many_le v.ss (i : Int) (j : Int) 0; have := HN.out; omega
          clear hln
          go_upto_region 8 with fail
          have hS : (fun w' => Below wr.heap.size wr w' ∧ p < w'.heap.size ∧ w'.cell? ⟨p, 0, none⟩ = some (.int .i64 (N : Int)) ∧ w'.cell? ⟨p, 1, none⟩ = some (.slice A n c) ∧ w'.cell? ⟨p, 2, none⟩ = some (.int .i64 v.wrong) ∧ w'.cell? ⟨p, 3, none⟩ = some (.int .i64 v.hxl) ∧ w'.cell? ⟨p, 4, none⟩ = some (.int .i64 v.hxh) ∧ w'.cell? ⟨p, 5, none⟩ = some (.int .i64 v.hyl) ∧ w'.cell? ⟨p, 6, none⟩ = some (.int .i64 v.hyh)) wr := ⟨Below.refl _ _, lpr, cp0, cp1, cp2, cp3, cp4, cp5, cp6⟩
          obtain ⟨W1, hW1⟩ : ∃ W1, wr = W1 := ⟨_, rfl⟩
          have HOW := hide hown.out
          have HB1 := hide hB
          rw [hW1] at hS HRr HOW HB1 ⊢
          clear hW1 hown hB qB lpr GPr cp0 cp1 cp2 cp3 cp4 cp5 cp6
          have hkeep : ∀ u u' : World, Below u.heap.size u u' → (Below W1.heap.size W1 u ∧ p < u.heap.size ∧ u.cell? ⟨p, 0, none⟩ = some (.int .i64 (N : Int)) ∧ u.cell? ⟨p, 1, none⟩ = some (.slice A n c) ∧ u.cell? ⟨p, 2, none⟩ = some (.int .i64 v.wrong) ∧ u.cell? ⟨p, 3, none⟩ = some (.int .i64 v.hxl) ∧ u.cell? ⟨p, 4, none⟩ = some (.int .i64 v.hxh) ∧ u.cell? ⟨p, 5, none⟩ = some (.int .i64 v.hyl) ∧ u.cell? ⟨p, 6, none⟩ = some (.int .i64 v.hyh)) → (Below W1.heap.size W1 u' ∧ p < u'.heap.size ∧ u'.cell? ⟨p, 0, none⟩ = some (.int .i64 (N : Int)) ∧ u'.cell? ⟨p, 1, none⟩ = some (.slice A n c) ∧ u'.cell? ⟨p, 2, none⟩ = some (.int .i64 v.wrong) ∧ u'.cell? ⟨p, 3, none⟩ = some (.int .i64 v.hxl) ∧ u'.cell? ⟨p, 4, none⟩ = some (.int .i64 v.hxh) ∧ u'.cell? ⟨p, 5, none⟩ = some (.int .i64 v.hyl) ∧ u'.cell? ⟨p, 6, none⟩ = some (.int .i64 v.hyh)) := by
            rintro u u' hb ⟨hB, l_p, k0, k1, k2, k3, k4, k5, k6⟩
            exact ⟨hB.trans (hb.mono hB.size), Nat.lt_of_lt_of_le l_p hb.size, (hb.cell (p := ⟨p, 0, none⟩) l_p).trans k0, (hb.cell (p := ⟨p, 1, none⟩) l_p).trans k1, (hb.cell (p := ⟨p, 2, none⟩) l_p).trans k2, (hb.cell (p := ⟨p, 3, none⟩) l_p).trans k3, (hb.cell (p := ⟨p, 4, none⟩) l_p).trans k4, (hb.cell (p := ⟨p, 5, none⟩) l_p).trans k5, (hb.cell (p := ⟨p, 6, none⟩) l_p).trans k6⟩
          (try dsimp only at hS)
          refine wp_region_held_drew (S := (fun w' => Below W1.heap.size W1 w' ∧ p < w'.heap.size ∧ w'.cell? ⟨p, 0, none⟩ = some (.int .i64 (N : Int)) ∧ w'.cell? ⟨p, 1, none⟩ = some (.slice A n c) ∧ w'.cell? ⟨p, 2, none⟩ = some (.int .i64 v.wrong) ∧ w'.cell? ⟨p, 3, none⟩ = some (.int .i64 v.hxl) ∧ w'.cell? ⟨p, 4, none⟩ = some (.int .i64 v.hxh) ∧ w'.cell? ⟨p, 5, none⟩ = some (.int .i64 v.hyl) ∧ w'.cell? ⟨p, 6, none⟩ = some (.int .i64 v.hyh))) (by kernel_rfl) ?_ (fun hHeld0 => ?_)
          · (try dsimp only); (first | (go_keep; done) | (go_split_ands; (repeat' apply And.intro) <;> first | (go_keep; done) | (simp [*, zcA, zcP, zfA, zfP]; done) | (simp [zcA, zcP] <;> rfl) | (simp [*, zsS, zsO, zsA]; done) | ((first | refine (hc _ _ ?_).trans ?_ | refine (hf _ _ ?_).trans ?_) <;> first | assumption | (simp; done) | (simp; omega) | omega | (go_keep; done) | (simp [*, zcA, zcP, zfA, zfP]; done) | (simp [zcA, zcP]; rfl)) | (repeat' first | exact zbR _ _ | assumption | refine zbD ?_ | refine zbA ?_ ?_ _ | refine zbS ?_ ?_ _ | refine zbT ?_ (by assumption) ?_ | (simp; done) | (simp; omega) | omega)))
          refine tL (v := ?_) 0 rfl (by kernel_rfl) (fun _ _ _ h => h) (Or.inl ⟨by rfl, ?_⟩) (by assumption) ?_; rotate_left
          · (intro w hSw; (try dsimp only at hSw); go_simp; try with_reducible rfl)
          try simp only [Act.put, zl, z0, z1]
          refine tL (v := ?_) 1 rfl (by kernel_rfl) (fun _ _ _ h => h) (Or.inl ⟨by rfl, ?_⟩) (by assumption) ?_; rotate_left
          · (intro w hSw; (try dsimp only at hSw); go_simp; try with_reducible rfl)
          try simp only [Act.put, zl, z0, z1]
          refine tL (v := ?_) 2 rfl (by kernel_rfl) (fun _ _ _ h => h) (Or.inl ⟨by rfl, ?_⟩) (by assumption) ?_; rotate_left
          · (intro w hSw; (try dsimp only at hSw); go_simp; try with_reducible rfl)
          try simp only [Act.put, zl, z0, z1]
          refine tL (v := ?_) 5 rfl (by kernel_rfl) (fun _ _ _ h => h) (Or.inl ⟨by rfl, ?_⟩) (by assumption) ?_; rotate_left
          · (intro w hSw; (try dsimp only at hSw); go_simp; try with_reducible rfl)
          try simp only [Act.put, zl, z0, z1]
          refine tL (v := ?_) 6 rfl (by kernel_rfl) (fun _ _ _ h => h) (Or.inl ⟨by rfl, ?_⟩) (by assumption) ?_; rotate_left
          · (intro w hSw; (try dsimp only at hSw); go_simp; try with_reducible rfl)
          try simp only [Act.put, zl, z0, z1]
          refine wpAnyH_ready (rs := [3]) (by kernel_rfl) (by simp) ?_
          refine consL 3 rfl (fun K hK => ?_) AllReadyH.nil
          go_simp
          (go_at_call 50; refine (refWrong_N v A n c N (i : Int) (j : Int) _ HSz.out HN.out (by first | exact (HRr.out.below hS.1).mono hS.1.size | exact (HRr.out.below (zbD hS.1)).mono hS.1.size) HV.out.ok hn8 hi0 (by omega) hj0 (by omega)).mono ?_; rintro e w6 ⟨sv6, c6, rfl, hown6, hb⟩; clear hown6; rw [HLN.out]; have hSn := hkeep _ _ hb (by assumption); (try clear hS); have hS := hSn; clear hSn)
          refine hK.out _ _ ?_ (fun hHeld1 => ?_)
          · (try dsimp only); exact hS
          clear hK K hHeld0
          try simp only [Act.put, zl, z0, z1]
          refine tL (v := ?_) 4 rfl (by kernel_rfl) (fun _ _ _ h => h) (Or.inl ⟨by rfl, ?_⟩) (by assumption) ?_; rotate_left
          · (intro w hSw; (try dsimp only at hSw); go_simp; try with_reducible rfl)
          try simp only [Act.put, zl, z0, z1]
          refine tL (v := ?_) 7 rfl (by kernel_rfl) (fun _ _ _ h => h) (Or.inl ⟨by rfl, ?_⟩) (by assumption) ?_; rotate_left
          · (intro w hSw; (try dsimp only at hSw); go_simp; try with_reducible rfl)
          try simp only [Act.put, zl, z0, z1]
          refine wpAnyH_done (by kernel_rfl) ?_ _
          obtain ⟨hB6, lp6, k_p0, k_p1, k_p2, k_p3, k_p4, k_p5, k_p6⟩ := hS
          have HO6 := hide (owns_below HOW.out hB6)
          have q6 := hB6.size
          have HB6 := hide (HB1.out.trans (hB6.mono HB1.out.size))
          have q60 := HB6.out.size
          clear hkeep hHeld1
          by_cases hw : (ln : Int) ≤ v.wrong
          · have HE := hide (show L.tcTo v N i (j + 1) = L.tcTo v N i j ++ [L.mk0 ((i : Int), (j : Int))] by rw [HNX.out, HOK.out, decide_eq_true hw]; rfl)
            have HL := hide (show (L.tcTo v N i (j + 1)).length = (L.tcTo v N i j).length + 1 by rw [HE.out, List.length_append]; rfl)
            clear hB6
            go_wp2_with (refine wpList_app_marks rfl (.tmp 26) (.tmp 30) rfl W0.heap.size _ (L.tcTo v N i j) _ rfl (HO6.out.alloc _) (some ⟨_, 0, none⟩) 1 1 [L.mk0 ((i : Int), (j : Int))] rfl rfl (rdM_one (World.alloc_heap_new _ _)) (fun e => by cases e) (by omega) (by omega) (by simp; omega) _ rfl ?_; intro A2 c2 w7 hown2 hgrow; have hg7 := grown_below (B := W0.heap.size) hgrow (by simp; omega) (fun g hg => (HO6.out.lt g hg).1); have HO2 := hide hown2; clear hown2 hgrow)
            go_roundw
            case rel => exact ⟨j + 1, by omega, by go_num, ⟨A2, c2, by rw [HL.out], hide (by rw [HL.out, HE.out]; exact HO2.out)⟩, (HB6.out.trans ((Below.refl _ _).alloc q60 _)).trans hg7⟩
            case measure => simp [intOf]; omega
          · have HE := hide (show L.tcTo v N i (j + 1) = L.tcTo v N i j by rw [HNX.out, HOK.out, decide_eq_false hw, if_neg (by decide), List.append_nil])
            clear hB6
            go_wp2_with fail
            go_roundw
            case rel => exact ⟨j + 1, by omega, by go_num, ⟨sv, c', by rw [HE.out], hide (by rw [HE.out]; exact HO6.out)⟩, HB6.out⟩
            case measure => simp [intOf]; omega
        · have hjn : j = N + 1 := by omega
          subst hjn
          go_wp2_with fail
          go_roundw
          case rel => exact ⟨i + 1, by omega, by go_num, ⟨sv, c', by rw [← L.tcTo_row], hide (by rw [← L.tcTo_row]; exact hown.out)⟩, hB⟩
          case measure => simp [intOf]; omega
    · have hin : i = N + 1 := by omega
      subst hin
      go_wp2_with fail
      go_ret
      refine ⟨sv, c', ?_, ?_, ?_⟩
      · rw [← HALL.out]; rfl
      · rw [← HALL.out]; exact owns_mono hown.out (by have := GS.out; have := HP.out; omega)
      · exact GB.out.trans (hB.mono GB.out.size)

end Go.Proofs.Ytampfpnkkdihaaa

namespace Go.Proofs.Ytampfpnkkdihaaa
open Go.RowKit
attribute [local go_sem ↓] Go.wp_at_zero Go.wp_at_succ

namespace L
def nA (v : Vw) : Nat := (v.hxh - v.hxl + 1).toNat
def nB (v : Vw) : Nat := (v.hyh - v.hyl + 1).toNat
def trB (v : Vw) (c : Mk) (a : Int) (k : Nat) : List Mk := (List.range k).map fun (j : Nat) => ⟨c.x, c.y, a, v.hyl + (j : Int)⟩
def trA (v : Vw) (c : Mk) (k : Nat) : List Mk := (List.range k).flatMap fun (i : Nat) => trB v c (v.hxl + (i : Int)) (nB v)
def trC (v : Vw) (l : List Mk) : List Mk := l.flatMap fun c => trA v c (nA v)
def truths (v : Vw) : List Mk := trC v ((tcents v 0).map mk0)
theorem trB_next (v : Vw) (c : Mk) (a : Int) (k : Nat) : trB v c a (k + 1) = trB v c a k ++ [⟨c.x, c.y, a, v.hyl + (k : Int)⟩] := by unfold trB; rw [List.range_succ, List.map_append]; rfl
theorem trA_next (v : Vw) (c : Mk) (k : Nat) : trA v c (k + 1) = trA v c k ++ trB v c (v.hxl + (k : Int)) (nB v) := by unfold trA; rw [List.range_succ, List.flatMap_append]; simp
theorem trC_next (v : Vw) {l : List Mk} {i : Nat} {c : Mk} (h : l[i]? = some c) : trC v (l.take (i + 1)) = trC v (l.take i) ++ trA v c (nA v) := by
  unfold trC; rw [List.take_add_one, h, Option.toList_some, List.flatMap_append]; simp
theorem trB_len (v : Vw) (c : Mk) (a : Int) (k : Nat) : (trB v c a k).length = k := by unfold trB; simp
theorem trA_len (v : Vw) (c : Mk) : ∀ k, (trA v c k).length = k * nB v
  | 0 => by simp [trA]
  | k + 1 => by rw [trA_next, List.length_append, trA_len v c k, trB_len, Nat.add_mul, Nat.one_mul]
theorem trC_len (v : Vw) : ∀ l : List Mk, (trC v l).length = l.length * (nA v * nB v)
  | [] => by simp [trC]
  | c :: r => by
    have ih := trC_len v r
    unfold trC at ih ⊢
    rw [List.flatMap_cons, List.length_append, ih, trA_len, List.length_cons, Nat.add_mul, Nat.one_mul, Nat.add_comm]
end L
theorem step_app_marks {w : World} {ops : Array Oper} {o : Oper} {a : Act} {K : Act → World → Prop} {Q : Exit → Act → World → Prop} {E : Prop} (hgd : o.guard = none) (s x : Operand)
    (ho : o.op = .call { callee := .builtin .append, args := #[s, x], argTypes := #[93, 93] }) (base : Nat) (v : Value) (ps : List L.Mk) (m0 : Nat) (hs : a.eval s = v) (hown : w.ownsRow base 30 4 v m0 (flatM ps))
    (A : Option Addr) (n c : Nat) (ss : List L.Mk) (hx : a.eval x = .slice A n c) (hn : ss.length = n) (hr : RdM w w.heap.size A ss) (hA : A = none → c = 0) (h0 : m0 ≤ 1000000) (h1 : n ≤ 1000) (hbase : base ≤ w.heap.size) (N : Nat) (hN : m0 + n = N)
    (h : ∀ A' c' w', w'.ownsRow base 30 4 (.slice A' N c') N (flatM (ps ++ ss)) → w.grownBy w' v.ownBlock → K (a.put o.dst (.slice A' N c')) w') :
    if Region.wanted o (yielded ops a.tmps) = true then Oper.wp Try.prog o a w K Q else E := by
  subst hN
  have hw : Region.wanted o (yielded ops a.tmps) = true := by simp [Region.wanted, hgd]
  rw [if_pos hw]
  obtain ⟨A', c', w', hr', h2, h3⟩ := run_app_marks o.type base v ps m0 hown A n c ss hn hr hA h0 h1 hbase
  unfold Oper.wp execOp
  simp only [ho, resolve, invoke, builtin, Sem.run_bind, Sem.run_pure, Result.andThen_ok, List.map_toArray, List.map_cons, List.map_nil, hs, hx, hr']
  exact h A' c' w' h2 h3

set_option maxRecDepth 100000 in
set_option maxHeartbeats 6400000 in
theorem refTruths_any (v : L.Vw) (A : Option Addr) (n c : Nat) (w : World) (hv : L.VwW v) (hn : v.ss.length = n) (hr : RdS w w.heap.size A v.ss) :
    Calls Try.prog 73 #[.agg #[.int .i64 v.size, .slice A n c, .int .i64 v.wrong, .int .i64 v.hxl, .int .i64 v.hxh, .int .i64 v.hyl, .int .i64 v.hyh]] w fun e w' => ∃ sv c', e = .returned (.slice sv (L.truths v).length c') ∧ w'.ownsRow w.heap.size 30 4 (.slice sv (L.truths v).length c') (L.truths v).length (flatM (L.truths v)) ∧ Below w.heap.size w w' := by
  have HN := hide hn
  have HR := hide hr
  have HV := hide hv
  obtain ⟨N, hN⟩ : ∃ N : Nat, v.size = (N : Int) := ⟨v.size.toNat, (Int.toNat_of_nonneg hv.s0).symm⟩
  have HSz := hide hN
  obtain ⟨tc, htc⟩ : ∃ tc, (L.tcents v 0).map L.mk0 = tc := ⟨_, rfl⟩
  have HTC := hide htc
  have hlen : tc.length ≤ 1681 := by
    have h1 : (L.tcents v 0).length ≤ (L.cents v.size.toNat).length := List.length_filter_le _ _
    rw [L.cents_length] at h1
    have h2 : v.size.toNat + 1 ≤ 41 := by have := hv.s0; have := hv.s1; omega
    have h3 := Nat.mul_le_mul h2 h2
    rw [← htc, List.length_map]; omega
  have hnA : L.nA v ≤ 9 := by unfold L.nA; have := hv.x0; have := hv.x1; omega
  have hnB : L.nB v ≤ 9 := by unfold L.nB; have := hv.y0; have := hv.y1; omega
  have EA := hide (show v.hxl + (L.nA v : Int) = v.hxh + 1 by unfold L.nA; have := hv.xx; omega)
  have EB := hide (show v.hyl + (L.nB v : Int) = v.hyh + 1 by unfold L.nB; have := hv.yy; omega)
  have hAB : L.nA v * L.nB v ≤ 81 := Nat.mul_le_mul hnA hnB
  have HTr := hide (show L.trC v tc = L.truths v by rw [← htc]; rfl)
  have x0 : 1 ≤ v.hxl := hv.x0
  have x1 : v.hxh ≤ 9 := hv.x1
  have y0 : 1 ≤ v.hyl := hv.y0
  have y1 : v.hyh ≤ 9 := hv.y1
  clear hn hr hv hN htc
  go_enter Try.func73, Try.ntmps73
  go_upto_region 1 with fail
  obtain ⟨W0, hW0⟩ : ∃ W0, w.alloc (.cells #[.int .i64 v.size, .slice A n c, .int .i64 v.wrong, .int .i64 v.hxl, .int .i64 v.hxh, .int .i64 v.hyl, .int .i64 v.hyh] 26) = W0 := ⟨_, rfl⟩
  have gp : W0.heap[w.heap.size]? = some (.cells #[.int .i64 v.size, .slice A n c, .int .i64 v.wrong, .int .i64 v.hxl, .int .i64 v.hxh, .int .i64 v.hyl, .int .i64 v.hyh] 26 (0, 0)) := by
    rw [← hW0]; exact World.alloc_heap_new _ _
  have gs : W0.heap.size = w.heap.size + 1 := by rw [← hW0]; simp
  have gB : Below w.heap.size w W0 := by rw [← hW0]; (repeat' first | exact zbR _ _ | assumption | refine zbD ?_ | refine zbA ?_ ?_ _ | refine zbS ?_ ?_ _ | refine zbT ?_ (by assumption) ?_ | (simp; done) | (simp; omega) | omega)
  rw [hW0]
  clear hW0
  obtain ⟨p, hp⟩ : ∃ p, w.heap.size = p := ⟨_, rfl⟩
  rw [hp]
  rw [hp] at gp
  have lp : p < W0.heap.size := by omega
  have HR0 := hide ((HR.out.below gB).mono gB.size)
  have HP := hide hp
  have GB := hide gB
  have GP := hide gp
  have cp0 := (blk_cell gp 0).trans rfl; have cp1 := (blk_cell gp 1).trans rfl; have cp2 := (blk_cell gp 2).trans rfl; have cp3 := (blk_cell gp 3).trans rfl; have cp4 := (blk_cell gp 4).trans rfl; have cp5 := (blk_cell gp 5).trans rfl; have cp6 := (blk_cell gp 6).trans rfl
  clear gp gB HR hp gs
  go_wp2_with (go_at_call 64; refine (refCents_any v A n c N _ HV.out HSz.out HN.out HR0.out).mono ?_; rintro e w2 ⟨svc, cc, rfl, hownc, hb2⟩; rw [HTC.out] at hownc ⊢)
  have GP2 := hide ((hb2.block p lp).trans GP.out)
  have GB2 := hide (GB.out.trans (hb2.mono GB.out.size))
  have q2 := hb2.size
  have lp2 : p < w2.heap.size := by omega
  have HC2 := hide hownc
  clear cp0 cp1 cp2 cp3 cp4 cp5 cp6 hownc hb2 lp q2 GP GB HR0
  go_loopw [3, 5] (fun m t wr => ∃ i : Nat, i ≤ tc.length ∧ t = .int .i64 i ∧ (∃ sv c', m = .slice sv (L.trC v (tc.take i)).length c' ∧ Hid (wr.ownsRow w2.heap.size 30 4 (.slice sv (L.trC v (tc.take i)).length c') (L.trC v (tc.take i)).length (flatM (L.trC v (tc.take i))))) ∧ Below w2.heap.size w2 wr) (fun _ t _ => tc.length - (intOf t).toNat)
  case atStart => exact ⟨0, by omega, rfl, ⟨none, 0, rfl, hide (World.ownsRow_nil _ _ _ _)⟩, Below.refl _ _⟩
  case round =>
    obtain ⟨i, hi, rfl, ⟨sv, c', rfl, hown⟩, hB⟩ := hrel
    have qB := hB.size
    have bp := (hB.block p lp2).trans GP2.out
    have cp0 := (blk_cell bp 0).trans rfl; have cp1 := (blk_cell bp 1).trans rfl; have cp2 := (blk_cell bp 2).trans rfl; have cp3 := (blk_cell bp 3).trans rfl; have cp4 := (blk_cell bp 4).trans rfl; have cp5 := (blk_cell bp 5).trans rfl; have cp6 := (blk_cell bp 6).trans rfl
    have lpr : p < wr.heap.size := by omega
    have hi0 : (0 : Int) ≤ (i : Int) := by omega
    have hi1 : (i : Int) ≤ 1681 := by omega
    clear bp
    by_cases hlt : i < tc.length
    · obtain ⟨cm, hcm⟩ : ∃ cm, tc[i]? = some cm := ⟨_, List.getElem?_eq_getElem hlt⟩
      have HCM := hide hcm
      clear hcm
      have hlt' : (i : Int) < (tc.length : Int) := by omega
      go_wp2_with fail
      clear cp0 cp1 cp2 cp3 cp4 cp5 cp6
      go_loopw [3, 6] (fun m t wr => ∃ k : Nat, k ≤ L.nA v ∧ t = .int .i64 (v.hxl + (k : Int)) ∧ (∃ sv c', m = .slice sv (L.trC v (tc.take i) ++ L.trA v cm k).length c' ∧ Hid (wr.ownsRow w2.heap.size 30 4 (.slice sv (L.trC v (tc.take i) ++ L.trA v cm k).length c') (L.trC v (tc.take i) ++ L.trA v cm k).length (flatM (L.trC v (tc.take i) ++ L.trA v cm k)))) ∧ Below w2.heap.size w2 wr) (fun _ t _ => (v.hxh + 1 - intOf t).toNat)
      case atStart => exact ⟨0, by omega, by simp, ⟨sv, c', by rw [show L.trA v cm 0 = [] from rfl, List.append_nil], by rw [show L.trA v cm 0 = [] from rfl, List.append_nil]; exact hown⟩, hB⟩
      case round =>
        clear hown hB qB lpr
        obtain ⟨k, hk, rfl, ⟨sv, c', rfl, hown⟩, hB⟩ := hrel
        have qB := hB.size
        have bp := (hB.block p lp2).trans GP2.out
        have cp0 := (blk_cell bp 0).trans rfl; have cp1 := (blk_cell bp 1).trans rfl; have cp2 := (blk_cell bp 2).trans rfl; have cp3 := (blk_cell bp 3).trans rfl; have cp4 := (blk_cell bp 4).trans rfl; have cp5 := (blk_cell bp 5).trans rfl; have cp6 := (blk_cell bp 6).trans rfl
        have lpr : p < wr.heap.size := by omega
        have hk0 : (0 : Int) ≤ (k : Int) := by omega
        have hk9 : (k : Int) ≤ 9 := by omega
        have ea := EA.out
        clear bp
        by_cases hlt2 : k < L.nA v
        · have hlt2' : v.hxl + (k : Int) ≤ v.hxh := by omega
          clear ea
          go_wp2_with fail
          clear cp0 cp1 cp2 cp3 cp4 cp5 cp6
          go_loopw [3, 7] (fun m t wr => ∃ l : Nat, l ≤ L.nB v ∧ t = .int .i64 (v.hyl + (l : Int)) ∧ (∃ sv c', m = .slice sv (L.trC v (tc.take i) ++ L.trA v cm k ++ L.trB v cm (v.hxl + (k : Int)) l).length c' ∧ Hid (wr.ownsRow w2.heap.size 30 4 (.slice sv (L.trC v (tc.take i) ++ L.trA v cm k ++ L.trB v cm (v.hxl + (k : Int)) l).length c') (L.trC v (tc.take i) ++ L.trA v cm k ++ L.trB v cm (v.hxl + (k : Int)) l).length (flatM (L.trC v (tc.take i) ++ L.trA v cm k ++ L.trB v cm (v.hxl + (k : Int)) l)))) ∧ Below w2.heap.size w2 wr) (fun _ t _ => (v.hyh + 1 - intOf t).toNat)
          case atStart => exact ⟨0, by omega, by simp, ⟨sv, c', by rw [show L.trB v cm (v.hxl + (k : Int)) 0 = [] from rfl, List.append_nil], by rw [show L.trB v cm (v.hxl + (k : Int)) 0 = [] from rfl, List.append_nil]; exact hown⟩, hB⟩
          case round =>
            clear hown hB qB lpr
            obtain ⟨l, hl, rfl, ⟨sv, c', rfl, hown⟩, hB⟩ := hrel
            have qB := hB.size
            have bp := (hB.block p lp2).trans GP2.out
            have cp0 := (blk_cell bp 0).trans rfl; have cp1 := (blk_cell bp 1).trans rfl; have cp2 := (blk_cell bp 2).trans rfl; have cp3 := (blk_cell bp 3).trans rfl; have cp4 := (blk_cell bp 4).trans rfl; have cp5 := (blk_cell bp 5).trans rfl; have cp6 := (blk_cell bp 6).trans rfl
            have lpr : p < wr.heap.size := by omega
            have hl0 : (0 : Int) ≤ (l : Int) := by omega
            have hl9 : (l : Int) ≤ 9 := by omega
            have eb := EB.out
            by_cases hlt3 : l < L.nB v
            · have hlt3' : v.hyl + (l : Int) ≤ v.hyh := by omega
              clear eb
              obtain ⟨outl, hout⟩ : ∃ outl, L.trC v (tc.take i) ++ L.trA v cm k ++ L.trB v cm (v.hxl + (k : Int)) l = outl := ⟨_, rfl⟩
              have hol : outl.length ≤ 200000 := by
                rw [← hout, List.length_append, List.length_append, L.trC_len, L.trA_len, L.trB_len, List.length_take]
                have h1 : min i tc.length * (L.nA v * L.nB v) ≤ 1681 * 81 := Nat.mul_le_mul (by omega) hAB
                have h2 : k * L.nB v ≤ 9 * 9 := Nat.mul_le_mul (by omega) hnB
                omega
              have HOut := hide hout
              obtain ⟨g, cap, e, hbg, hgl⟩ := HC2.out.form (by omega)
              have e' : svc = some ⟨g, 0, none⟩ ∧ cc = cap := by
                simp only [Value.slice.injEq] at e
                exact ⟨e.1, e.2.2⟩
              obtain ⟨rfl, rfl⟩ := e'
              obtain ⟨m0, m1, m2, m3⟩ := flatM_at HCM.out
              have s0 := (hB.cell (p := ⟨g, i * 4, none⟩) hgl).trans ((HC2.out.cellAt (i * 4) (by omega)).trans m0)
              have s1 := (hB.cell (p := ⟨g, i * 4 + 1, none⟩) hgl).trans ((HC2.out.cellAt (i * 4 + 1) (by omega)).trans m1)
              rw [hout] at hown ⊢
              have lgr : g < wr.heap.size := by omega
              clear e m0 m1 m2 m3 bp hout
              go_upto_region 12 with fail
              have hS : (fun w' => Below w2.heap.size w2 w' ∧ p < w'.heap.size ∧ g < w'.heap.size ∧ w'.cell? ⟨g, i * 4, none⟩ = some (.int .i64 cm.x) ∧ w'.cell? ⟨g, i * 4 + 1, none⟩ = some (.int .i64 cm.y)) wr := ⟨hB, lpr, lgr, s0, s1⟩
              have HO1 := hide hown.out
              have q1 := qB
              obtain ⟨W1, hW1⟩ : ∃ W1, wr = W1 := ⟨_, rfl⟩
              rw [hW1] at hS HO1 q1 ⊢
              clear hW1 hown hB qB lpr lgr s0 s1 cp0 cp1 cp2 cp3 cp4 cp5 cp6
              have hkeep : ∀ u u' : World, Below w2.heap.size u u' → (Below w2.heap.size w2 u ∧ p < u.heap.size ∧ g < u.heap.size ∧ u.cell? ⟨g, i * 4, none⟩ = some (.int .i64 cm.x) ∧ u.cell? ⟨g, i * 4 + 1, none⟩ = some (.int .i64 cm.y)) → (Below w2.heap.size w2 u' ∧ p < u'.heap.size ∧ g < u'.heap.size ∧ u'.cell? ⟨g, i * 4, none⟩ = some (.int .i64 cm.x) ∧ u'.cell? ⟨g, i * 4 + 1, none⟩ = some (.int .i64 cm.y)) := by
                rintro u u' hb ⟨hB, l_p, l_g, k0, k1⟩
                exact ⟨hB.trans hb, Nat.lt_of_lt_of_le l_p hb.size, Nat.lt_of_lt_of_le l_g hb.size, (hb.cell (p := ⟨g, i * 4, none⟩) hgl).trans k0, (hb.cell (p := ⟨g, i * 4 + 1, none⟩) hgl).trans k1⟩
              (try dsimp only at hS)
              refine wp_region_held_drew (S := (fun w' => Below w2.heap.size w2 w' ∧ p < w'.heap.size ∧ g < w'.heap.size ∧ w'.cell? ⟨g, i * 4, none⟩ = some (.int .i64 cm.x) ∧ w'.cell? ⟨g, i * 4 + 1, none⟩ = some (.int .i64 cm.y))) (by kernel_rfl) ?_ (fun hHeld0 => ?_)
              · (try dsimp only); first | exact hkeep _ _ hg7 (by assumption) | exact hkeep _ _ (zbA (zbR _ _) (show w2.heap.size ≤ _ by simp; omega) _) (by assumption) | exact hkeep _ _ (zbD (zbR _ _)) hS | (first | (go_keep; done) | (go_split_ands; (repeat' apply And.intro) <;> first | (go_keep; done) | (simp [*, zcA, zcP, zfA, zfP]; done) | (simp [zcA, zcP] <;> rfl) | (simp [*, zsS, zsO, zsA]; done) | ((first | refine (hc _ _ ?_).trans ?_ | refine (hf _ _ ?_).trans ?_) <;> first | assumption | (simp; done) | (simp; omega) | omega | (go_keep; done) | (simp [*, zcA, zcP, zfA, zfP]; done) | (simp [zcA, zcP]; rfl)) | (repeat' first | exact zbR _ _ | assumption | refine zbD ?_ | refine zbA ?_ ?_ _ | refine zbS ?_ ?_ _ | refine zbT ?_ (by assumption) ?_ | (simp; done) | (simp; omega) | omega)))
              refine tL (v := ?_) 0 rfl (by kernel_rfl) (fun _ _ _ h => h) (Or.inl ⟨by rfl, ?_⟩) (by assumption) ?_; rotate_left
              · (intro w hSw; (try dsimp only at hSw); go_simp; try with_reducible rfl)
              try simp only [Act.put, zl, z0, z1]
              refine tL (v := ?_) 1 rfl (by kernel_rfl) (fun _ _ _ h => h) (Or.inl ⟨by rfl, ?_⟩) (by assumption) ?_; rotate_left
              · (intro w hSw; (try dsimp only at hSw); go_simp; try with_reducible rfl)
              try simp only [Act.put, zl, z0, z1]
              refine tL (v := ?_) 2 rfl (by kernel_rfl) (fun _ _ _ h => h) (Or.inl ⟨by rfl, ?_⟩) (by assumption) ?_; rotate_left
              · (intro w hSw; (try dsimp only at hSw); go_simp; try with_reducible rfl)
              try simp only [Act.put, zl, z0, z1]
              refine tL (v := ?_) 3 rfl (by kernel_rfl) (fun _ _ _ h => h) (Or.inl ⟨by rfl, ?_⟩) (by assumption) ?_; rotate_left
              · (intro w hSw; (try dsimp only at hSw); go_simp; try with_reducible rfl)
              try simp only [Act.put, zl, z0, z1]
              refine tL (v := ?_) 4 rfl (by kernel_rfl) (fun _ _ _ h => h) (Or.inl ⟨by rfl, ?_⟩) (by assumption) ?_; rotate_left
              · (intro w hSw; (try dsimp only at hSw); go_simp; try with_reducible rfl)
              try simp only [Act.put, zl, z0, z1]
              refine tL (v := ?_) 5 rfl (by kernel_rfl) (fun _ _ _ h => h) (Or.inl ⟨by rfl, ?_⟩) (by assumption) ?_; rotate_left
              · (intro w hSw; (try dsimp only at hSw); go_simp; try with_reducible rfl)
              try simp only [Act.put, zl, z0, z1]
              refine tL (v := ?_) 6 rfl (by kernel_rfl) (fun _ _ _ h => h) (Or.inl ⟨by rfl, ?_⟩) (by assumption) ?_; rotate_left
              · (intro w hSw; (try dsimp only at hSw); go_simp; try with_reducible rfl)
              try simp only [Act.put, zl, z0, z1]
              refine tL (v := ?_) 7 rfl (by kernel_rfl) (fun _ _ _ h => h) (Or.inl ⟨by rfl, ?_⟩) (by assumption) ?_; rotate_left
              · (intro w hSw; (try dsimp only at hSw); go_simp; try with_reducible rfl)
              try simp only [Act.put, zl, z0, z1]
              refine tL (v := ?_) 8 rfl (by kernel_rfl) (fun _ _ _ h => h) (Or.inl ⟨by rfl, ?_⟩) (by assumption) ?_; rotate_left
              · (intro w hSw; (try dsimp only at hSw); go_simp; try with_reducible rfl)
              try simp only [Act.put, zl, z0, z1]
              refine tL (v := ?_) 9 rfl (by kernel_rfl) (fun _ _ _ h => h) (Or.inl ⟨by rfl, ?_⟩) (by assumption) ?_; rotate_left
              · (intro w hSw; (try dsimp only at hSw); go_simp; try with_reducible rfl)
              try simp only [Act.put, zl, z0, z1]
              refine tL (v := ?_) 10 rfl (by kernel_rfl) (fun _ _ _ h => h) (Or.inl ⟨by rfl, ?_⟩) (by assumption) ?_; rotate_left
              · (intro w hSw; (try dsimp only at hSw); go_simp; try with_reducible rfl)
              try simp only [Act.put, zl, z0, z1]
              refine tL (v := ?_) 11 rfl (by kernel_rfl) (fun _ _ _ h => h) (Or.inl ⟨by rfl, ?_⟩) (by assumption) ?_; rotate_left
              · (intro w hSw; (try dsimp only at hSw); go_simp; try with_reducible rfl)
              try simp only [Act.put, zl, z0, z1]
              refine tL (v := ?_) 12 rfl (by kernel_rfl) (fun _ _ _ h => h) (Or.inl ⟨by rfl, ?_⟩) (by assumption) ?_; rotate_left
              · (intro w hSw; (try dsimp only at hSw); go_simp; try with_reducible rfl)
              try simp only [Act.put, zl, z0, z1]
              refine tL (v := ?_) 13 rfl (by kernel_rfl) (fun _ _ _ h => h) (Or.inl ⟨by rfl, ?_⟩) (by assumption) ?_; rotate_left
              · (intro w hSw; (try dsimp only at hSw); go_simp; try with_reducible rfl)
              try simp only [Act.put, zl, z0, z1]
              refine wpAnyH_ready (rs := [14]) (by kernel_rfl) (by simp) ?_
              refine consL 14 rfl (fun K hK => ?_) AllReadyH.nil
              go_simp
              refine hK.out _ _ ?_ (fun hHeld1 => ?_)
              · (try dsimp only); first | exact hkeep _ _ hg7 (by assumption) | exact hkeep _ _ (zbA (zbR _ _) (show w2.heap.size ≤ _ by simp; omega) _) (by assumption) | exact hkeep _ _ (zbD (zbR _ _)) hS | (first | (go_keep; done) | (go_split_ands; (repeat' apply And.intro) <;> first | (go_keep; done) | (simp [*, zcA, zcP, zfA, zfP]; done) | (simp [zcA, zcP] <;> rfl) | (simp [*, zsS, zsO, zsA]; done) | ((first | refine (hc _ _ ?_).trans ?_ | refine (hf _ _ ?_).trans ?_) <;> first | assumption | (simp; done) | (simp; omega) | omega | (go_keep; done) | (simp [*, zcA, zcP, zfA, zfP]; done) | (simp [zcA, zcP]; rfl)) | (repeat' first | exact zbR _ _ | assumption | refine zbD ?_ | refine zbA ?_ ?_ _ | refine zbS ?_ ?_ _ | refine zbT ?_ (by assumption) ?_ | (simp; done) | (simp; omega) | omega)))
              clear hK K hHeld0
              try simp only [Act.put, zl, z0, z1]
              refine wpAnyH_ready (rs := [15]) (by kernel_rfl) (by simp) ?_
              refine consL 15 rfl (fun K hK => ?_) AllReadyH.nil
              (refine step_app_marks rfl (.tmp 36) (.tmp 50) rfl w2.heap.size _ outl _ rfl (HO1.out.drew.alloc _) (some ⟨_, 0, none⟩) 1 1 [⟨cm.x, cm.y, v.hxl + (k : Int), v.hyl + (l : Int)⟩] rfl rfl (rdM_one (World.alloc_heap_new _ _)) (fun e => by cases e) (by omega) (by omega) (by simp; omega) _ rfl ?_; intro A2 c2 w7 hown2 hgrow; have hg7 := grown_below (B := w2.heap.size) hgrow (by simp; omega) (fun g hg => (HO1.out.lt g hg).1); have HO2 := hide hown2; clear hown2 hgrow)
              refine hK.out _ _ ?_ (fun hHeld2 => ?_)
              · (try dsimp only); first | exact hkeep _ _ hg7 (by assumption) | exact hkeep _ _ (zbA (zbR _ _) (show w2.heap.size ≤ _ by simp; omega) _) (by assumption) | exact hkeep _ _ (zbD (zbR _ _)) hS | (first | (go_keep; done) | (go_split_ands; (repeat' apply And.intro) <;> first | (go_keep; done) | (simp [*, zcA, zcP, zfA, zfP]; done) | (simp [zcA, zcP] <;> rfl) | (simp [*, zsS, zsO, zsA]; done) | ((first | refine (hc _ _ ?_).trans ?_ | refine (hf _ _ ?_).trans ?_) <;> first | assumption | (simp; done) | (simp; omega) | omega | (go_keep; done) | (simp [*, zcA, zcP, zfA, zfP]; done) | (simp [zcA, zcP]; rfl)) | (repeat' first | exact zbR _ _ | assumption | refine zbD ?_ | refine zbA ?_ ?_ _ | refine zbS ?_ ?_ _ | refine zbT ?_ (by assumption) ?_ | (simp; done) | (simp; omega) | omega)))
              clear hK K hHeld1
              try simp only [Act.put, zl, z0, z1]
              refine tL (v := ?_) 16 rfl (by kernel_rfl) (fun _ _ _ h => h) (Or.inl ⟨by rfl, ?_⟩) (by assumption) ?_; rotate_left
              · (intro w hSw; (try dsimp only at hSw); go_simp; try with_reducible rfl)
              try simp only [Act.put, zl, z0, z1]
              refine wpAnyH_done (by kernel_rfl) ?_ _
              all_goals
                have HB7 := hide (show Below w2.heap.size w2 w7 by go_split_ands; assumption)
                have HE := hide (show L.trC v (tc.take i) ++ L.trA v cm k ++ L.trB v cm (v.hxl + (k : Int)) (l + 1) = outl ++ [⟨cm.x, cm.y, v.hxl + (k : Int), v.hyl + (l : Int)⟩] by rw [L.trB_next, ← List.append_assoc, HOut.out])
                have HL := hide (show (L.trC v (tc.take i) ++ L.trA v cm k ++ L.trB v cm (v.hxl + (k : Int)) (l + 1)).length = outl.length + 1 by rw [HE.out, List.length_append]; rfl)
                clear hkeep hS HOut
                go_wp2_with fail
                go_roundw
                case rel => exact ⟨l + 1, by omega, by go_num, ⟨A2, c2, by rw [HL.out], hide (by rw [HL.out, HE.out]; exact HO2.out)⟩, HB7.out⟩
                case measure => simp [intOf]; omega
            · have hln : l = L.nB v := by omega
              subst hln
              have hgt : v.hyh < v.hyl + (L.nB v : Int) := by omega
              clear eb bp
              have HE := hide (show L.trC v (tc.take i) ++ L.trA v cm (k + 1) = L.trC v (tc.take i) ++ L.trA v cm k ++ L.trB v cm (v.hxl + (k : Int)) (L.nB v) by rw [L.trA_next, List.append_assoc])
              go_wp2_with fail
              go_roundw
              case rel => exact ⟨k + 1, by omega, by go_num, ⟨sv, c', by rw [HE.out], hide (by rw [HE.out]; exact hown.out)⟩, hB⟩
              case measure => simp [intOf]; omega
        · have hkn : k = L.nA v := by omega
          subst hkn
          have hgt : v.hxh < v.hxl + (L.nA v : Int) := by omega
          clear ea
          have HE := hide (L.trC_next v HCM.out)
          go_wp2_with fail
          go_roundw
          case rel => exact ⟨i + 1, by omega, by go_num, ⟨sv, c', by rw [HE.out], hide (by rw [HE.out]; exact hown.out)⟩, hB⟩
          case measure => simp [intOf]; omega
    · have hin : i = tc.length := by omega
      subst hin
      have HE := hide (show L.trC v (tc.take tc.length) = L.truths v by rw [List.take_of_length_le (Nat.le_refl _)]; exact HTr.out)
      go_wp2_with fail
      go_ret
      refine ⟨sv, c', ?_, ?_, ?_⟩
      · rw [← HE.out]; rfl
      · rw [← HE.out]; exact owns_mono hown.out GB2.out.size
      · exact GB2.out.trans (hB.mono GB2.out.size)

end Go.Proofs.Ytampfpnkkdihaaa

namespace Go.Proofs.Ytampfpnkkdihaaa
open Go.RowKit
attribute [local go_sem ↓] Go.wp_at_zero Go.wp_at_succ

theorem ret_int {k : IntKind} {a b : Int} (h : a = b) : Ending.returned (.int k a) = .returned (.int k b) := by rw [h]
theorem refFar_any (n lo hi : Int) (w : World) (h0 : 0 ≤ n) (h1 : n ≤ 40) (h2 : 0 ≤ lo) (h3 : lo ≤ 40) (h4 : 0 ≤ hi) (h5 : hi ≤ 40) :
    Calls Try.prog 56 #[.int .i64 n, .int .i64 lo, .int .i64 hi] w fun e w' => e = .returned (.int .i64 (L.far n lo hi)) ∧ w' = w := by
  go_enter Try.func56, Try.ntmps56
  go_wp2
  all_goals
    go_ret
    exact ⟨ret_int (by unfold L.far; (try simp only [Array.getD_eq_getD_getElem?]); omega), rfl⟩

set_option maxHeartbeats 1600000 in
theorem refTouch_any (m : L.Mk) (b : L.Bx) (w : World) (hb : L.BxOk b) (hm : L.MkOk m) :
    Calls Try.prog 21 #[.agg #[.int .i64 m.x, .int .i64 m.y, .int .i64 m.hx, .int .i64 m.hy], .agg #[.int .i64 b.l, .int .i64 b.r, .int .i64 b.b, .int .i64 b.t]] w fun e w' => e = .returned (.bool (L.touch m b)) ∧ Below w.heap.size w w' := by
  obtain ⟨l0, lr, r1, b0, bt, t1⟩ := hb
  obtain ⟨x0, x1, y0, y1, p0, p1, q0, q1⟩ := hm
  obtain ⟨r0, r2⟩ := L.far_bd (d := L.far m.x b.l b.r) rfl x0 x1 l0 lr r1
  obtain ⟨s0, s1⟩ := L.far_bd (d := L.far m.y b.b b.t) rfl y0 y1 b0 bt t1
  obtain ⟨a1, a2⟩ : 0 ≤ (L.far m.x b.l b.r) * (L.far m.x b.l b.r) ∧ (L.far m.x b.l b.r) * (L.far m.x b.l b.r) ≤ 1600 := L.mul_in r0 r2 r0 r2
  obtain ⟨a3, a4⟩ : 0 ≤ (L.far m.x b.l b.r) * (L.far m.x b.l b.r) * m.hy ∧ (L.far m.x b.l b.r) * (L.far m.x b.l b.r) * m.hy ≤ 14400 := L.mul_in a1 a2 (by omega) q1
  obtain ⟨a5, a6⟩ : 0 ≤ (L.far m.x b.l b.r) * (L.far m.x b.l b.r) * m.hy * m.hy ∧ (L.far m.x b.l b.r) * (L.far m.x b.l b.r) * m.hy * m.hy ≤ 129600 := L.mul_in a3 a4 (by omega) q1
  obtain ⟨c1, c2⟩ : 0 ≤ (L.far m.y b.b b.t) * (L.far m.y b.b b.t) ∧ (L.far m.y b.b b.t) * (L.far m.y b.b b.t) ≤ 1600 := L.mul_in s0 s1 s0 s1
  obtain ⟨c3, c4⟩ : 0 ≤ (L.far m.y b.b b.t) * (L.far m.y b.b b.t) * m.hx ∧ (L.far m.y b.b b.t) * (L.far m.y b.b b.t) * m.hx ≤ 14400 := L.mul_in c1 c2 (by omega) p1
  obtain ⟨c5, c6⟩ : 0 ≤ (L.far m.y b.b b.t) * (L.far m.y b.b b.t) * m.hx * m.hx ∧ (L.far m.y b.b b.t) * (L.far m.y b.b b.t) * m.hx * m.hx ≤ 129600 := L.mul_in c3 c4 (by omega) p1
  obtain ⟨e1, e2⟩ : 0 ≤ m.hx * m.hx ∧ m.hx * m.hx ≤ 81 := L.mul_in (by omega) p1 (by omega) p1
  obtain ⟨e3, e4⟩ : 0 ≤ m.hx * m.hx * m.hy ∧ m.hx * m.hx * m.hy ≤ 729 := L.mul_in e1 e2 (by omega) q1
  obtain ⟨e5, e6⟩ : 0 ≤ m.hx * m.hx * m.hy * m.hy ∧ m.hx * m.hx * m.hy * m.hy ≤ 6561 := L.mul_in e3 e4 (by omega) q1
  have HE := hide (show L.touch m b = decide ((L.far m.x b.l b.r) * (L.far m.x b.l b.r) * m.hy * m.hy + (L.far m.y b.b b.t) * (L.far m.y b.b b.t) * m.hx * m.hx ≤ m.hx * m.hx * m.hy * m.hy) by unfold L.touch; rw [L.sq_mul, L.sq_mul (L.far m.y b.b b.t), L.sq_mul m.hx, Int.mul_assoc ((L.far m.x b.l b.r) * (L.far m.x b.l b.r)), Int.mul_assoc ((L.far m.y b.b b.t) * (L.far m.y b.b b.t)), Int.mul_assoc (m.hx * m.hx)])
  go_enter Try.func21, Try.ntmps21
  go_upto_region 1 with fail
  go_quiet ((go_at_call 56; exact Calls.quiet_of_same (refFar_any _ _ _ _ (by omega) (by omega) (by omega) (by omega) (by omega) (by omega))))
  all_goals
    go_wp2
    go_ret
    exact ⟨by rw [HE.out]; rfl, below_drewN (by (repeat' first | exact zbR _ _ | assumption | refine zbD ?_ | refine zbA ?_ ?_ _ | refine zbS ?_ ?_ _ | refine zbT ?_ (by assumption) ?_ | (simp; done) | (simp; omega) | omega)) _⟩

end Go.Proofs.Ytampfpnkkdihaaa
