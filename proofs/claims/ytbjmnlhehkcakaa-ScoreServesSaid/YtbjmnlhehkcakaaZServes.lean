/-
  For every format, every first server and every slice of points the law ScoreServes returns true and leaves its arguments as they were. No condition.
-/
import Derived.Deep.CutRange
import Derived.Test.YtbjmnlhehkcakaaZB01
import Derived.Test.YtbjmnlhehkcakaaZB08
import Derived.Test.YtbjmnlhehkcakaaZB11
import Derived.Test.YtbjmnlhehkcakaaZB12
import Derived.Test.YtbjmnlhehkcakaaZB15
namespace Go.Proofs.Ytbjmnlhehkcakaa
open Go.RowKit
namespace M

theorem turned_turned (p : Int) : turned (turned p) = p := by
  unfold turned
  by_cases h : p < 0
  · rw [if_pos h, if_pos h]
  · rw [if_neg h, if_neg (by omega)]
    omega
theorem serverOf_rng (o : Int) (dbl : Bool) (g t : Int) : 0 ≤ serverOf o dbl g t ∧ serverOf o dbl g t ≤ 3 := by
  unfold serverOf
  split <;> omega
theorem winner_rng (f : Fm) (won : Pr) : -1 ≤ winner f won ∧ winner f won ≤ 1 := by
  unfold winner
  repeat' split
  all_goals omega
def GmOk (g : Gm) : Prop := (0 ≤ g.server ∧ g.server ≤ 3) ∧ (g.winner = 0 ∨ g.winner = 1)
theorem endSet_log (m : Mt) (s : Int) : (endSet m s).log = m.log ++ [gameOf m s] := by
  unfold endSet
  split <;> rfl
theorem begin_log (m : Mt) : (M.begin m).log = m.log := rfl
theorem endGame_log (m : Mt) (s : Int) : (endGame m s).log = m.log ++ [gameOf m s] := by
  rw [← endSet_log]
  unfold endGame
  dsimp only
  split
  · rfl
  · rw [begin_log]
    split <;> rfl
theorem point_log (m : Mt) (s : Int) : (point m s).log = m.log ∨ (point m s).log = m.log ++ [gameOf { m with pts := plus m.pts s } s] := by
  unfold point
  dsimp only
  split
  · exact .inr (endGame_log _ s)
  · split <;> exact .inl rfl
theorem playF_log : ∀ (xs : List Int) (m t : Mt), (∀ g ∈ m.log, GmOk g) → playF m xs = some t → ∀ g ∈ t.log, GmOk g
  | [], m, t, h, e => by
    rw [playF_nil] at e
    rw [← Option.some.inj e]
    exact h
  | p :: r, m, t, h, e => by
    rw [playF_cons] at e
    split at e
    · cases e
    · rename_i hc
      refine playF_log r _ t ?_ e
      intro g hg
      rcases point_log m p with hp | hp
      · rw [hp] at hg; exact h g hg
      · rw [hp, List.mem_append, List.mem_singleton] at hg
        rcases hg with hg | hg
        · exact h g hg
        · subst hg
          exact ⟨serverOf_rng _ _ _ _, by show p = 0 ∨ p = 1; omega⟩
theorem playF_pts : ∀ (xs : List Int) (m t : Mt), playF m xs = some t → ∀ x ∈ xs, x = 0 ∨ x = 1
  | [], _, _, _, x, hx => by cases hx
  | p :: r, m, t, e, x, hx => by
    rw [playF_cons] at e
    split at e
    · cases e
    · rename_i hc
      rcases List.mem_cons.1 hx with rfl | hx
      · omega
      · exact playF_pts r _ t e x hx
theorem playM_log {f : Fm} {first : Int} {xs : List Int} (h : playE f first xs = 0) : ∀ g ∈ (playM f first xs).log, GmOk g := by
  obtain ⟨hv, hf, hl, hp⟩ := playE_ok h
  exact playF_log xs _ _ (fun g hg => by cases hg) hp
theorem playE_pts {f : Fm} {first : Int} {xs : List Int} (h : playE f first xs = 0) : ∀ x ∈ xs, x = 0 ∨ x = 1 := by
  obtain ⟨hv, hf, hl, hp⟩ := playE_ok h
  exact playF_pts xs _ _ hp
theorem playM_srv {f : Fm} {first : Int} {xs : List Int} (h : playE f first xs = 0) : (-1 ≤ (playM f first xs).server ∧ (playM f first xs).server ≤ 3) ∧ (-1 ≤ (playM f first xs).winner ∧ (playM f first xs).winner ≤ 1) := by
  have hi := playM_inv h
  have h1 := winner_rng (playM f first xs).f (playM f first xs).won
  rw [← hi.win] at h1
  refine ⟨?_, h1⟩
  rw [hi.sv]
  split
  · omega
  · have := serverOf_rng (playM f first xs).opens (playM f first xs).f.doubles (playM f first xs).log.length (if rtied (playM f first xs).f (playM f first xs).sets (playM f first xs).games then ((playM f first xs).pts.A + (playM f first xs).pts.B + 1) / 2 else 0)
    omega
end M

theorem played_ok (f : M.Fm) (first : Int) (A : Option Addr) (n c : Nat) (xs : List Int) (m : M.Mt) (w : World) (he : M.playE f first xs = 0) (hm' : M.playM f first xs = m) (hn : xs.length = n) (hr : RdI w w.heap.size A xs) (hm : n ≤ 1000000) :
    Calls Try.prog 24 #[.agg #[.int .i64 f.sets, .int .i64 f.games, .bool f.noAd, .int .i64 f.tie, .int .i64 f.to, .int .i64 f.lastTie, .int .i64 f.lastTo, .int .i64 f.first, .int .i64 f.next, .bool f.doubles], .agg #[.int .i64 first, .slice A n c]] w fun e w' => ∃ B d G l, e = .returned (.tuple #[.agg #[.slice B m.sets.length d, .int .i64 m.games.A, .int .i64 m.games.B, .int .i64 m.pts.A, .int .i64 m.pts.B, .int .i64 m.server, .int .i64 m.ends, .int .i64 m.balls, .int .i64 m.winner], .slice G m.log.length l, .bool true]) ∧
      RdP w' w'.heap.size B m.sets ∧ RdG w' w'.heap.size G m.log ∧ Below w.heap.size w w' := by
  refine (played_any f first A n c xs w hn hr hm).mono ?_
  rintro e w' ⟨sv, gv, rfl, hsv, hgv, hb⟩
  obtain ⟨B, d, rfl⟩ := own_form hsv
  obtain ⟨G, l, rfl⟩ := own_form hgv
  refine ⟨B, d, G, l, by rw [he, hm']; rfl, ?_, ?_, hb⟩
  · rw [hm'] at hsv; exact owns_RdP hsv rfl
  · rw [hm'] at hgv; exact owns_RdG hgv rfl

end Go.Proofs.Ytbjmnlhehkcakaa

namespace Go.Proofs.Ytbjmnlhehkcakaa
open Go.RowKit
namespace M

theorem playF_app : ∀ (a : List Int) (m : Mt) (b : List Int), playF m (a ++ b) = (playF m a).bind fun n => playF n b
  | [], _, _ => rfl
  | q :: r, m, b => by
    rw [List.cons_append, playF_cons, playF_cons]
    split
    · rfl
    · exact playF_app r _ b
theorem playE_take {f : Fm} {first : Int} {xs : List Int} (h : playE f first xs = 0) (n : Nat) : playE f first (xs.take n) = 0 := by
  obtain ⟨hv, hf, hl, hp⟩ := playE_ok h
  have h1 : (xs.take n).length ≤ 600 := by rw [List.length_take]; omega
  rw [← List.take_append_drop n xs, playF_app] at hp
  unfold playE
  rw [if_pos hv, if_pos hf, if_neg (by omega)]
  cases hq : playF (start f first) (xs.take n) with
  | none => rw [hq] at hp; cases hp
  | some s => rfl
theorem take_snoc {xs : List Int} {n : Nat} {p : Int} (h : xs[n]? = some p) : xs.take (n + 1) = xs.take n ++ [p] := by
  rw [List.take_add_one, h]; rfl
theorem next_step {f : Fm} {first : Int} {xs : List Int} (h : playE f first xs = 0) {n : Nat} {p : Int} (hp : xs[n]? = some p) :
    Step (playM f first (xs.take n)) (playM f first (xs.take (n + 1))) p ∧ playM f first (xs.take (n + 1)) = point (playM f first (xs.take n)) p ∧ (p = 0 ∨ p = 1) ∧ (playM f first (xs.take n)).winner = -1 := by
  have h0 := playE_take h n
  have h1 := playE_take h (n + 1)
  rw [take_snoc hp] at h1 ⊢
  exact play_step h0 h1

theorem endSet_of (m : Mt) (s : Int) : (endSet m s).opens = m.opens ∧ (endSet m s).f = m.f := by
  unfold endSet
  split <;> exact ⟨rfl, rfl⟩
theorem endGame_opens (m : Mt) (s : Int) : (endGame m s).opens = m.opens ∧ (endGame m s).f = m.f := by
  obtain ⟨h1, h2⟩ := endSet_of m s
  unfold endGame
  dsimp only
  split
  · exact ⟨h1, h2⟩
  · split <;> exact ⟨h1, h2⟩
theorem point_opens (m : Mt) (s : Int) : (point m s).opens = m.opens ∧ (point m s).f = m.f := by
  unfold point
  dsimp only
  split
  · exact endGame_opens _ s
  · split <;> exact ⟨rfl, rfl⟩
def Turns (m : Mt) : Prop := ∀ (i : Nat) (g : Gm), m.log[i]? = some g → g.server = serverOf m.opens m.f.doubles i 0
theorem playF_turns : ∀ (xs : List Int) (m t : Mt), Turns m → playF m xs = some t → Turns t ∧ t.opens = m.opens ∧ t.f = m.f
  | [], m, t, h, e => by
    rw [playF_nil] at e
    rw [← Option.some.inj e]
    exact ⟨h, rfl, rfl⟩
  | p :: r, m, t, h, e => by
    rw [playF_cons] at e
    split at e
    · cases e
    · obtain ⟨h1, h2⟩ := point_opens m p
      have hn : Turns (point m p) := by
        intro i g hg
        rw [h1, h2]
        rcases point_log m p with hp | hp
        · rw [hp] at hg; exact h i g hg
        · rw [hp] at hg
          by_cases hi : i < m.log.length
          · rw [List.getElem?_append_left hi] at hg; exact h i g hg
          · rw [List.getElem?_append_right (by omega)] at hg
            have hi2 : i - m.log.length = 0 := by
              have := (List.getElem?_eq_some_iff.1 hg).1
              simp at this
              omega
            rw [hi2] at hg
            have hg2 : gameOf { m with pts := plus m.pts p } p = g := Option.some.inj hg
            rw [← hg2, show i = m.log.length by omega]
            rfl
      obtain ⟨a, b, c⟩ := playF_turns r _ t hn e
      exact ⟨a, b.trans h1, c.trans h2⟩
theorem playM_turns {f : Fm} {first : Int} {xs : List Int} (h : playE f first xs = 0) : Turns (playM f first xs) ∧ (playM f first xs).opens = first ∧ (playM f first xs).f = f := by
  obtain ⟨hv, hf, hl, hp⟩ := playE_ok h
  exact playF_turns xs _ _ (fun i g hg => by cases hg) hp

theorem serverOf_par (o : Int) (dbl : Bool) (g t : Int) : serverOf o dbl g t % 2 = (o + (g + t % 2)) % 2 := by
  unfold serverOf
  split <;> omega
theorem serverOf_dbl {o : Int} {dbl : Bool} {g t : Int} (h : 1 < serverOf o dbl g t) : dbl = true := by
  unfold serverOf at h
  cases dbl
  · simp at h; omega
  · rfl
theorem serverOf_four (o : Int) (dbl : Bool) (g : Int) : serverOf o dbl (g + 4) 0 = serverOf o dbl g 0 := by
  unfold serverOf
  have h1 : (g + 4 + 0 % 2) / 2 + 0 / 2 = (g + 0 % 2) / 2 + 0 / 2 + 2 := by omega
  have h2 : ((g + 0 % 2) / 2 + 0 / 2 + 2) % 2 = ((g + 0 % 2) / 2 + 0 / 2) % 2 := by omega
  rw [h1, h2]
  have h3 : (o + (g + 4 + 0 % 2)) % 2 = (o + (g + 0 % 2)) % 2 := by omega
  rw [h3]
def srow (tied : Bool) (k : Int) : Int := if tied then (if k = 0 ∨ k % 2 = 1 then 1 else 2) else k + 1
theorem srow_zero (tied : Bool) : srow tied 0 = 1 := by cases tied <;> rfl
theorem serve_now {f : Fm} {first : Int} {xs : List Int} (h : playE f first xs = 0) (hw : (playM f first xs).winner = -1) :
    (playM f first xs).server % 2 = (first + ((playM f first xs).log.length + (if rtied f (playM f first xs).sets (playM f first xs).games then ((playM f first xs).pts.A + (playM f first xs).pts.B + 1) / 2 else 0) % 2)) % 2 := by
  have hi := playM_inv h
  obtain ⟨_, ho, hf⟩ := playM_turns h
  have hs := hi.sv
  rw [if_neg (by omega), ho, hf] at hs
  rw [hs, serverOf_par]
theorem serve_next {f : Fm} {first : Int} {xs : List Int} (h : playE f first xs = 0) {n : Nat} {p : Int} (hp : xs[n]? = some p) {m t : Mt} (hm : playM f first (xs.take n) = m) (ht : playM f first (xs.take (n + 1)) = t) (hw : t.winner = -1) (hk : t.pts.A + t.pts.B ≠ 0) :
    rtied f t.sets t.games = rtied f m.sets m.games ∧ t.pts.A + t.pts.B = m.pts.A + m.pts.B + 1 ∧
      (if t.server % 2 = m.server % 2 then srow (rtied f m.sets m.games) (m.pts.A + m.pts.B) + 1 else 1) = srow (rtied f t.sets t.games) (t.pts.A + t.pts.B) := by
  obtain ⟨hst, _, hp01, hwm⟩ := next_step h hp
  have e0 := serve_now (playE_take h n)
  have e1 := serve_now (playE_take h (n + 1))
  have b0 := (playM_ok (playE_take h n)).pts
  rw [hm] at hst hwm e0 b0
  rw [ht] at hst e1
  replace e0 := e0 hwm
  replace e1 := e1 hw
  rcases hst.how with ⟨x1, x2, x3, x4, _, _⟩ | ⟨g, _, _, _, x4, _⟩
  · have hsum : t.pts.A + t.pts.B = m.pts.A + m.pts.B + 1 := by
      rw [x4]
      rcases hp01 with rfl | rfl
      · show m.pts.A + 1 + m.pts.B = _; omega
      · show m.pts.A + (m.pts.B + 1) = _; omega
    rw [x1, x2, x3, hsum] at e1
    rw [x2, x3, hsum]
    refine ⟨rfl, rfl, ?_⟩
    cases hT : rtied f m.sets m.games
    · rw [hT, if_neg (by decide)] at e0 e1
      rw [if_pos (by rw [e0, e1])]
      rfl
    · rw [hT, if_pos rfl] at e0 e1
      have hk0 : 0 ≤ m.pts.A + m.pts.B := by omega
      generalize m.pts.A + m.pts.B = k at *
      generalize (m.log.length : Int) = L at *
      unfold srow
      rw [if_pos rfl, if_pos rfl]
      by_cases hodd : k % 2 = 1
      · rw [if_pos (by rw [e0, e1]; omega), if_pos (.inr hodd), if_neg (by omega)]; rfl
      · rw [if_neg (by rw [e0, e1]; omega), if_pos (by omega)]
  · rw [x4] at hk
    exact absurd rfl hk

end M
end Go.Proofs.Ytbjmnlhehkcakaa

namespace Go.Proofs.Ytbjmnlhehkcakaa
open Go.RowKit
attribute [local go_sem ↓] Go.wp_at_zero Go.wp_at_succ run_eql_pair run_neq_pair

set_option maxHeartbeats 4000000 in
theorem sameSets_any (A1 A2 : Option Addr) (n1 n2 c1 c2 : Nat) (ps qs : List M.Pr) (w : World) (hn1 : ps.length = n1) (hn2 : qs.length = n2) (hr1 : RdP w w.heap.size A1 ps) (hr2 : RdP w w.heap.size A2 qs) (hm : n1 ≤ 1000000) (hm2 : n2 ≤ 1000000) :
    Calls Try.prog 25 #[.slice A1 n1 c1, .slice A2 n2 c2] w fun e w' => e = .returned (.bool (decide (ps = qs))) ∧ Below w.heap.size w w' := by
  have HN1 := hide hn1
  have HN2 := hide hn2
  have HR1 := hide hr1
  have HR2 := hide hr2
  clear hn1 hn2 hr1 hr2
  cases hl : ((n1 : Int) != (n2 : Int))
  · obtain rfl : n1 = n2 := by simp at hl; omega
    go_enter Try.func25, Try.ntmps25
    go_wp2_with fail
    go_loopw [5] (fun i wr => ∃ k : Nat, k ≤ n1 ∧ i = .int .i64 k ∧ Hid (ps.take k = qs.take k) ∧ Below w.heap.size w wr) (fun i _ => n1 - (intOf i).toNat)
    case atStart => exact ⟨0, by omega, rfl, hide rfl, by (repeat' first | exact zbR _ _ | assumption | refine zbD ?_ | refine zbA ?_ ?_ _ | refine zbS ?_ ?_ _ | refine zbT ?_ (by assumption) ?_ | (simp; done) | (simp; omega) | omega)⟩
    case round =>
      obtain ⟨k, hk, rfl, hno, hB⟩ := hrel
      by_cases hlt : k < n1
      · obtain ⟨p, hp'⟩ : ∃ q, ps[k]? = some q := ⟨_, List.getElem?_eq_getElem (by have := HN1.out; omega)⟩
        obtain ⟨q, hq'⟩ : ∃ q, qs[k]? = some q := ⟨_, List.getElem?_eq_getElem (by have := HN2.out; omega)⟩
        obtain ⟨b, o, hA, hbB, c0, c1'⟩ := (HR1.out.below hB) k p hp'
        obtain ⟨b2, o2, hA2, hbB2, d0, d1⟩ := (HR2.out.below hB) k q hq'
        subst hA hA2
        have HP := hide hp'
        have HQ := hide hq'
        clear hp' hq'
        have hlt' : (k : Int) < (n1 : Int) := by omega
        have hk0 : (0 : Int) ≤ (k : Int) := by omega
        cases he : (p.A == q.A && p.B == q.B)
        · have hne : ps ≠ qs := take_diff HP.out HQ.out (by rw [pr_eq] at he; simpa using he)
          have hd : decide (ps = qs) = false := decide_eq_false hne
          have HDD := hide hd
          clear hne hd
          go_wp2_with fail
          go_quiet (fail)
          go_wp2_with fail
          go_ret
          exact ⟨by rw [HDD.out]; rfl, below_drewN hB _⟩
        · have HT := hide (take_next hno.out HP.out HQ.out (by rw [pr_eq] at he; simpa using he))
          go_wp2_with fail
          go_quiet (fail)
          go_wp2_with fail
          go_roundw
          case rel => exact ⟨k + 1, by omega, by go_num, HT, below_drewN hB _⟩
          case measure => simp [intOf]; omega
      · have hkn : k = n1 := by omega
        have hall : ps = qs := by
          have := hno.out
          rwa [List.take_of_length_le (by have := HN1.out; omega), List.take_of_length_le (by have := HN2.out; omega)] at this
        have hd : decide (ps = qs) = true := decide_eq_true hall
        have HDD := hide hd
        clear hall hd
        subst hkn
        go_wp2_with fail
        go_ret
        exact ⟨by rw [HDD.out]; rfl, hB⟩
  · have ho : decide (ps = qs) = false := decide_eq_false (by rintro rfl; have h1 := HN1.out; have h2 := HN2.out; simp at hl; omega)
    rw [ho]; clear ho
    go_enter Try.func25, Try.ntmps25
    go_wp2_with fail
    go_ret
    exact ⟨rfl, by (repeat' first | exact zbR _ _ | assumption | refine zbD ?_ | refine zbA ?_ ?_ _ | refine zbS ?_ ?_ _ | refine zbT ?_ (by assumption) ?_ | (simp; done) | (simp; omega) | omega)⟩

end Go.Proofs.Ytbjmnlhehkcakaa

namespace Go.Proofs.Ytbjmnlhehkcakaa
open Go.RowKit

theorem run_app_more {w : World} (ty : TypeId) (base : Nat) (v : Value) (ps : List Int) (m0 : Nat) (hown : w.ownsRow base 3 1 v m0 (flatI ps))
    (A : Option Addr) (n c : Nat) (xs : List Int) (hn : xs.length = n) (hr : RdI w w.heap.size A xs) (hA : A = none → c = 0) (h1 : (m0 + n) * 8 ≤ 140737488355328) (hbase : base ≤ w.heap.size) :
    ∃ A' c' w', (Builtin.append_ #[24, 24] ty #[v, .slice A n c]).run Try.prog w = .ok (.slice A' (m0 + n) c') w' ∧ w'.ownsRow base 3 1 (.slice A' (m0 + n) c') (m0 + n) (flatI (ps ++ xs)) ∧ w.grownBy w' v.ownBlock := by
  obtain ⟨i, hi, hz0, hz1, hz2⟩ := info_parts int_info
  rcases A with _ | ad
  · have hx0 : xs = [] := hr.none
    subst hx0
    have hn0 : n = 0 := by simpa using hn.symm
    subst hn0
    have hc0 := hA rfl
    subst hc0
    obtain ⟨A', c', rfl⟩ := own_form hown
    have hrun := run_append_owned_none (P := Try.prog) (w := w) base 24 ty 3 i 1 Try.underlying24 hi (.slice A' m0 c') m0 (flatI ps) hown
    exact ⟨A', c', w, hrun, by simpa using hown, World.grownBy.refl w _⟩
  · obtain ⟨v', w', hrun, h2, h3, _, _⟩ := run_append_own_at (P := Try.prog) w base 24 ty 3 i _ 1 8 Try.underlying24 hi hz0 hz1 hz2 (by rfl) (by decide) v m0 (flatI ps) hown ad n c (flatI xs) (by rw [flatI_length]; omega) (by
      intro j u hj
      obtain ⟨y, hk⟩ : ∃ y, xs[j]? = some y := by
        have hjl : j < (flatI xs).length := (List.getElem?_eq_some_iff.1 hj).1
        rw [flatI_length] at hjl
        exact ⟨_, List.getElem?_eq_getElem hjl⟩
      rw [flatI_at hk] at hj
      have hj' := Option.some.inj hj
      subst hj'
      obtain ⟨b, o2, e, _, c0⟩ := hr j y hk
      have e' := Option.some.inj e
      subst e'
      rw [add_plain]
      exact c0) (flatI_one xs) (by unfold maxLen; omega) h1 hbase
    obtain ⟨A', c', rfl⟩ := own_form h2
    exact ⟨A', c', w', hrun, by rw [flatI_app]; exact h2, h3⟩
theorem step_app_more {w : World} {ops : Array Oper} {o : Oper} {a : Act} {K : Act → World → Prop} {Q : Exit → Act → World → Prop} {E : Prop} (hgd : o.guard = none) (s x : Operand)
    (ho : o.op = .call { callee := .builtin .append, args := #[s, x], argTypes := #[24, 24] }) (base : Nat) (v : Value) (ps : List Int) (m0 : Nat) (hs : a.eval s = v) (hown : w.ownsRow base 3 1 v m0 (flatI ps))
    (A : Option Addr) (n c : Nat) (xs : List Int) (hx : a.eval x = .slice A n c) (hn : xs.length = n) (hr : RdI w w.heap.size A xs) (hA : A = none → c = 0) (N : Nat) (hN : m0 + n = N) (h1 : N * 8 ≤ 140737488355328) (hbase : base ≤ w.heap.size)
    (h : ∀ A' c' w', w'.ownsRow base 3 1 (.slice A' N c') N (flatI (ps ++ xs)) → w.grownBy w' v.ownBlock → K (a.put o.dst (.slice A' N c')) w') :
    if Region.wanted o (yielded ops a.tmps) = true then Oper.wp Try.prog o a w K Q else E := by
  subst hN
  have hw : Region.wanted o (yielded ops a.tmps) = true := by simp [Region.wanted, hgd]
  rw [if_pos hw]
  obtain ⟨A', c', w', hr', h2, h3⟩ := run_app_more o.type base v ps m0 hown A n c xs hn hr hA h1 hbase
  unfold Oper.wp execOp
  simp only [ho, resolve, invoke, builtin, Sem.run_bind, Sem.run_pure, Result.andThen_ok, List.map_toArray, List.map_cons, List.map_nil, hs, hx, hr']
  exact h A' c' w' h2 h3
theorem step_store_row {P : Program} {w : World} {ops : Array Oper} {o : Oper} {a : Act} {K : Act → World → Prop} {Q : Exit → Act → World → Prop} {E : Prop} (hgd : o.guard = none) (ty : TypeId) (x y : Operand) (ho : o.op = .store ty x y)
    (g : Nat) (cells : Array Value) (hx : a.eval x = .pointer (some ⟨g, 0, none⟩)) (hy : a.eval y = .agg cells)
    (t : TypeId) (old : Array Value) (hg : w.heap[g]? = some (.cells old t (0, 0))) (hi : (P.info? ty).map (·.size) = some cells.size)
    (hold : old.size = cells.size) (h1 : cells.all (·.oneCell') = true)
    (h : K (a.put o.dst undef) (w.setRow g cells)) : if Region.wanted o (yielded ops a.tmps) = true then Oper.wp P o a w K Q else E := by
  have hw : Region.wanted o (yielded ops a.tmps) = true := by simp [Region.wanted, hgd]
  rw [if_pos hw]
  exact wp_store_row ty x y ho g cells hx hy t old hg hi hold h1 h
theorem owns_none_int {w : World} {q B : Nat} (hq : w.heap[q]? = some (.cells #[] 3 (0, 0))) (h : B ≤ q) : w.ownsRow B 3 1 (.slice (some ⟨q, 0, none⟩) 0 0) 0 (flatI []) :=
  ⟨rfl, .inr ⟨q, 0, #[], rfl, h, hq, Nat.le_refl _, Nat.zero_le _, rfl, rfl⟩⟩
theorem rdI_blk {w : World} {q : Nat} {x : Int} (hq : w.heap[q]? = some (.cells #[.int .i64 x] 3 (0, 0))) : RdI w w.heap.size (some ⟨q, 0, none⟩) [x] := by
  intro k y hk
  match k, hk with
  | 0, hk =>
    have hy : x = y := Option.some.inj hk
    subst hy
    exact ⟨_, 0, rfl, blk_lt hq, (cell_of_row _ _ _ _ _ _ hq).trans rfl⟩
  | k + 1, hk => cases hk
theorem pointsRow : (Try.prog.info? 26).map (·.size) = some 2 := by kernel_rfl

theorem played_as (f : M.Fm) (first : Int) (A : Option Addr) (n c : Nat) (xs : List Int) (ss : List M.Pr) (gl : List M.Gm) (s1 n1 : Nat) (g p : M.Pr) (sv en ba wi : Int) (w : World) (he : M.playE f first xs = 0) (hs1 : ss.length = s1) (hn1 : gl.length = n1) (h1 : (M.playM f first xs).sets = ss) (h2 : (M.playM f first xs).log = gl) (h3 : (M.playM f first xs).games = g) (h4 : (M.playM f first xs).pts = p) (h5 : (M.playM f first xs).server = sv) (h6 : (M.playM f first xs).ends = en) (h7 : (M.playM f first xs).balls = ba) (h8 : (M.playM f first xs).winner = wi) (hn : xs.length = n) (hr : RdI w w.heap.size A xs) (hm : n ≤ 1000000) :
    Calls Try.prog 24 #[.agg #[.int .i64 f.sets, .int .i64 f.games, .bool f.noAd, .int .i64 f.tie, .int .i64 f.to, .int .i64 f.lastTie, .int .i64 f.lastTo, .int .i64 f.first, .int .i64 f.next, .bool f.doubles], .agg #[.int .i64 first, .slice A n c]] w fun e w' => ∃ B d G l, e = .returned (.tuple #[.agg #[.slice B s1 d, .int .i64 g.A, .int .i64 g.B, .int .i64 p.A, .int .i64 p.B, .int .i64 sv, .int .i64 en, .int .i64 ba, .int .i64 wi], .slice G n1 l, .bool true]) ∧
      s1 ≤ d ∧ d ≤ maxLen ∧ RdP w' w'.heap.size B ss ∧ RdG w' w'.heap.size G gl ∧ Below w.heap.size w w' := by
  subst h1 h2 h3 h4 h5 h6 h7 h8 hs1 hn1
  refine (played_any f first A n c xs w hn hr hm).mono ?_
  rintro e w' ⟨sv, gv, rfl, hsv, hgv, hb⟩
  obtain ⟨B, d, rfl⟩ := own_form hsv
  obtain ⟨G, l, rfl⟩ := own_form hgv
  have hd : (M.playM f first xs).sets.length ≤ d ∧ d ≤ maxLen := by
    rcases hsv.2 with ⟨e, h0⟩ | ⟨g, cap, cur, e, _, _, h1, h2, _⟩
    · simp only [Value.slice.injEq] at e; omega
    · simp only [Value.slice.injEq] at e; omega
  exact ⟨B, d, G, l, by rw [he]; rfl, hd.1, hd.2, owns_RdP hsv rfl, owns_RdG hgv rfl, hb⟩
theorem sum_val (a b s : Int) (w : World) (hs : a + b = s) (h : -1000000000 ≤ a ∧ a ≤ 1000000000 ∧ -1000000000 ≤ b ∧ b ≤ 1000000000) :
    Calls Try.prog 26 #[.agg #[.int .i64 a, .int .i64 b]] w fun e w' => e = .returned (.int .i64 s) ∧ Below w.heap.size w w' := by
  subst hs; exact sum_any ⟨a, b⟩ w h
theorem sameSets_same (A1 A2 : Option Addr) (n1 n2 c1 c2 : Nat) (ps : List M.Pr) (w : World) (hn1 : ps.length = n1) (hn2 : ps.length = n2) (hr1 : RdP w w.heap.size A1 ps) (hr2 : RdP w w.heap.size A2 ps) (hm : n1 ≤ 1000000) :
    Calls Try.prog 25 #[.slice A1 n1 c1, .slice A2 n2 c2] w fun e w' => e = .returned (.bool true) ∧ Below w.heap.size w w' := by
  have := sameSets_any A1 A2 n1 n2 c1 c2 ps ps w hn1 hn2 hr1 hr2 hm (by omega)
  rwa [decide_eq_true rfl] at this
theorem tV {P : Program} {md : Region.Mode} {l rest : List Oper} {Q : Exit → Act → World → Prop} {S : World → Prop} {oi : Oper} {fuel : Nat} {listed : Array Bool} {a : Act} {w : World} (v : Value) (i : Nat) (hi : l.drop i = oi :: rest)
    (hb : (Region.noSelect l.toArray && Region.free md l.toArray listed i && (Region.ready md l.toArray listed).contains i) = true)
    (hQ : ∀ c a w, Q (.panic c) (a.put oi.dst v) w → Q (.panic c) a w) (hw : Region.wanted oi (yielded l.toArray a.tmps) = true) (hS : S w) (hy : ∀ w, S w → (execOp a.eval oi).run P w = .ok (.value v) w)
    (h : wpAnyH P md l.toArray Q S fuel (listed.setIfInBounds i true) (a.put oi.dst v) w) : wpAnyH P md l.toArray Q S (fuel + 1) listed a w := tL i hi hb hQ (.inl ⟨hw, hy⟩) hS h
theorem kc {w w' : World} {B b o : Nat} {v : Option Value} (hb : Below B w w') (h : b < B) (k : w.cell? ⟨b, o, none⟩ = v) : w'.cell? ⟨b, o, none⟩ = v := (hb.cell (p := ⟨b, o, none⟩) h).trans k
theorem kl {w w' : World} {b : Nat} (h : b < w.heap.size) (hb : Below w.heap.size w w') : b < w'.heap.size := Nat.lt_of_lt_of_le h hb.size
theorem keep_of {S : World → Prop} (w : World) (hs : S w) (h : ∀ u u' : World, Below u.heap.size u u' → S u → S u') : (∀ u u' : World, Below u.heap.size u u' → S u → S u') ∧ S w := ⟨h, hs⟩
theorem M.plus_sum {p : M.Pr} {s : Int} (hs : s = 0 ∨ s = 1) : (M.plus p s).A + (M.plus p s).B = p.A + p.B + 1 := by
  rcases hs with rfl | rfl
  · show p.A + 1 + p.B = _; omega
  · show p.A + (p.B + 1) = _; omega

end Go.Proofs.Ytbjmnlhehkcakaa

namespace Go.Proofs.Ytbjmnlhehkcakaa
open Go.RowKit
attribute [local go_sem ↓] Go.wp_at_zero Go.wp_at_succ run_eql_pair run_neq_pair

def M.ServeSt (f : M.Fm) (first : Int) (xs : List Int) (k : Nat) (row last total : Int) : Prop :=
  (k = 0 ∧ row = 0 ∧ last = -1 ∧ total = 0) ∨ (∃ k', k = k' + 1 ∧ (M.playM f first (xs.take k')).winner = -1 ∧ row = M.srow (M.rtied f (M.playM f first (xs.take k')).sets (M.playM f first (xs.take k')).games) ((M.playM f first (xs.take k')).pts.A + (M.playM f first (xs.take k')).pts.B) ∧ last = (M.playM f first (xs.take k')).server % 2 ∧ total = (M.playM f first (xs.take k')).pts.A + (M.playM f first (xs.take k')).pts.B + 1)
theorem wpList_app_at {w : World} {ops : Array Oper} {rest : List Oper} {o : Oper} {a : Act} {Q : Exit → Act → World → Prop} (hgd : o.guard = none) (s x : Operand)
    (ho : o.op = .call { callee := .builtin .append, args := #[s, x], argTypes := #[24, 24] }) (base : Nat) (v : Value) (ps : List Int) (m0 : Nat) (hs : a.eval s = v) (hown : w.ownsRow base 3 1 v m0 (flatI ps))
    (A : Option Addr) (n c : Nat) (xs : List Int) (hx : a.eval x = .slice A n c) (hn : xs.length = n) (hr : RdI w w.heap.size A xs) (hA : A = none → c = 0) (h0 : m0 ≤ 1000) (h1 : n ≤ 1000) (hbase : base ≤ w.heap.size)
    (h : ∀ A' c' w', w'.ownsRow base 3 1 (.slice A' (m0 + n) c') (m0 + n) (flatI (ps ++ xs)) → w.grownBy w' v.ownBlock → wpList Try.prog ops Q rest (a.put o.dst (.slice A' (m0 + n) c')) w') :
    wpList Try.prog ops Q (o :: rest) a w := by
  refine wpList_plain hgd fun K hK => ?_
  obtain ⟨A', c', w', hr', h2, h3⟩ := run_app_ints o.type base v ps m0 hown A n c xs hn hr hA h0 h1 hbase
  unfold Oper.wp execOp
  simp only [ho, resolve, invoke, builtin, Sem.run_bind, Sem.run_pure, Result.andThen_ok, List.map_toArray, List.map_cons, List.map_nil, hs, hx, hr']
  exact hK _ _ (h A' c' w' h2 h3)


theorem M.srv_now {f : M.Fm} {first : Int} {xs : List Int} (h : M.playE f first xs = 0) (hw : (M.playM f first xs).winner = -1) : 0 ≤ (M.playM f first xs).server := by
  have hs := (M.playM_inv h).sv
  rw [if_neg (by omega)] at hs
  rw [hs]
  exact (M.serverOf_rng _ _ _ _).1
theorem M.tie_case (f : M.Fm) (ss : List M.Pr) (g : M.Pr) (tie : Int) (h : (if M.lastB f (M.wonR M.zero ss) = true then f.lastTie else f.tie) = tie) :
    (M.rtied f ss g = true ∧ 0 ≤ tie ∧ (g.A == tie && g.B == tie) = true) ∨ (M.rtied f ss g = false ∧ tie < 0) ∨ (M.rtied f ss g = false ∧ 0 ≤ tie ∧ (g.A == tie && g.B == tie) = false) := by
  have ht : (M.ofSet f (M.wonR M.zero ss)).tie = tie := by
    rw [← h]
    unfold M.ofSet
    split <;> rfl
  unfold M.rtied
  rw [ht]
  by_cases h0 : 0 ≤ tie
  · cases hg : (g.A == tie && g.B == tie)
    · exact .inr (.inr ⟨by rw [Bool.and_assoc, hg, Bool.and_false], h0, rfl⟩)
    · exact .inl ⟨by rw [Bool.and_assoc, hg, decide_eq_true h0]; rfl, h0, rfl⟩
  · exact .inr (.inl ⟨by rw [decide_eq_false h0]; rfl, by omega⟩)
theorem M.srow_bd (tied : Bool) {k : Int} (h : 0 ≤ k ∧ k ≤ 2000) : 0 ≤ M.srow tied k ∧ M.srow tied k ≤ 2001 := by
  unfold M.srow
  split
  · split <;> omega
  · omega
theorem M.playM_nil {f : M.Fm} {first : Int} (h : M.playE f first [] = 0) : (M.playM f first []).pts = M.zero := by
  obtain ⟨_, _, _, hp⟩ := M.playE_ok h
  rw [M.playF_nil] at hp
  rw [← Option.some.inj hp]
  rfl
theorem M.serve_row {f : M.Fm} {first : Int} {xs : List Int} {k : Nat} {row last total : Int} {m : M.Mt} (h : M.playE f first xs = 0) (hm : M.playM f first (xs.take k) = m) (hek : M.playE f first (xs.take k) = 0) (hw : m.winner = -1) (hz : ¬ m.pts.A + m.pts.B = 0) (hk : k ≤ xs.length) (hs : M.ServeSt f first xs k row last total) :
    (if m.server % 2 = last then row + 1 else 1) = M.srow (M.rtied f m.sets m.games) (m.pts.A + m.pts.B) ∧ total = m.pts.A + m.pts.B := by
  rcases hs with ⟨rfl, _, _, _⟩ | ⟨k', rfl, h1, h2, h3, h4⟩
  · exfalso
    apply hz
    rw [← hm, List.take_zero, M.playM_nil (by rw [List.take_zero] at hek; exact hek)]
    rfl
  · obtain ⟨p, hp⟩ : ∃ p, xs[k']? = some p := ⟨_, List.getElem?_eq_getElem (by omega)⟩
    obtain ⟨a, b, c⟩ := M.serve_next h hp rfl hm hw hz
    rw [h2, h3, h4]
    exact ⟨c, b.symm⟩

set_option maxHeartbeats 2000000 in
set_option maxRecDepth 100000 in
theorem servesLaw_long (f : M.Fm) (first : Int) (A : Option Addr) (n c : Nat) (w : World) (h : 150 < n) :
    Calls Try.prog 7 #[.agg #[.int .i64 f.sets, .int .i64 f.games, .bool f.noAd, .int .i64 f.tie, .int .i64 f.to, .int .i64 f.lastTie, .int .i64 f.lastTo, .int .i64 f.first, .int .i64 f.next, .bool f.doubles], .agg #[.int .i64 first, .slice A n c]] w fun e w' => e = .returned (.bool true) ∧ Below w.heap.size w w' := by
  have hl : (150 : Int) < (n : Int) := by omega
  go_enter Try.func7, Try.ntmps7
  go_wp2_with (first | (go_at_call 10; refine (works_any _).mono ?_; rintro e w2 ⟨rfl, hb2⟩))
  go_ret
  exact ⟨rfl, by (repeat' first | exact zbR _ _ | assumption | refine zbD ?_ | refine zbA ?_ ?_ _ | refine zbS ?_ ?_ _ | refine zbT ?_ (by assumption) ?_ | (simp; done) | (simp; omega) | omega)⟩

set_option maxHeartbeats 2000000 in
set_option maxRecDepth 100000 in
theorem servesLaw_not (f : M.Fm) (first : Int) (A : Option Addr) (n c : Nat) (xs : List Int) (w : World) (hn : xs.length = n) (hr : RdI w w.heap.size A xs) (hm : n ≤ 150) (h : (M.playE f first xs == 0) = false) :
    Calls Try.prog 7 #[.agg #[.int .i64 f.sets, .int .i64 f.games, .bool f.noAd, .int .i64 f.tie, .int .i64 f.to, .int .i64 f.lastTie, .int .i64 f.lastTo, .int .i64 f.first, .int .i64 f.next, .bool f.doubles], .agg #[.int .i64 first, .slice A n c]] w fun e w' => e = .returned (.bool true) ∧ Below w.heap.size w w' := by
  have hl : (n : Int) ≤ 150 := by omega
  have hm2 : n ≤ maxLen := by unfold maxLen; omega
  have HN := hide hn
  have HR := hide hr
  have HM := hide hm2
  have HE := hide h
  clear hn hr hm hm2 h
  go_enter Try.func7, Try.ntmps7
  go_wp2_with (first | (go_at_call 23; refine (ready_any f first A n c xs _ HN.out ((HR.out.below (by (repeat' first | exact zbR _ _ | assumption | refine zbD ?_ | refine zbA ?_ ?_ _ | refine zbS ?_ ?_ _ | refine zbT ?_ (by assumption) ?_ | (simp; done) | (simp; omega) | omega))).mono (by simp; omega)) HM.out).mono ?_; rintro e w1 ⟨rfl, hb1⟩; rw [HE.out]; have hz1 := hb1.size; (try simp at hz1)) | (go_at_call 10; refine (works_any _).mono ?_; rintro e w2 ⟨rfl, hb2⟩))
  go_ret
  exact ⟨rfl, by (repeat' first | exact zbR _ _ | assumption | refine zbD ?_ | refine zbA ?_ ?_ _ | refine zbS ?_ ?_ _ | refine zbT ?_ (by assumption) ?_ | (simp; done) | (simp; omega) | omega)⟩

set_option maxHeartbeats 8000000 in
set_option maxRecDepth 100000 in
theorem servesLaw_ok (f : M.Fm) (first : Int) (A : Option Addr) (n c : Nat) (xs : List Int) (w : World) (hn : xs.length = n) (hr : RdI w w.heap.size A xs) (hnc : n ≤ c) (hcm : c ≤ maxLen) (hm : n ≤ 150) (h : M.playE f first xs = 0) :
    Calls Try.prog 7 #[.agg #[.int .i64 f.sets, .int .i64 f.games, .bool f.noAd, .int .i64 f.tie, .int .i64 f.to, .int .i64 f.lastTie, .int .i64 f.lastTo, .int .i64 f.first, .int .i64 f.next, .bool f.doubles], .agg #[.int .i64 first, .slice A n c]] w fun e w' => e = .returned (.bool true) ∧ Below w.heap.size w w' := by
  obtain ⟨hv, hfi, _, _⟩ := M.playE_ok h
  have hf2 : first = 0 ∨ first = 1 := by simp [M.within] at hfi; omega
  have hl : (n : Int) ≤ 150 := by omega
  have HM2 : Hid (n ≤ maxLen) := hide (by unfold maxLen; omega)
  have hm6 : n ≤ 1000000 := by omega
  have hc6 : (c : Int) ≤ 9223372036854775807 := by unfold maxLen at hcm; omega
  have HV := hide ((M.validB_iff f).1 hv)
  obtain ⟨m0, hm0⟩ : ∃ m, M.playM f first xs = m := ⟨_, rfl⟩
  have hlen := M.playM_len f first xs
  have HT := hide (M.playM_turns h)
  rw [hm0] at hlen HT
  have HE := hide h
  have HE2 := hide (show (M.playE f first xs == 0) = true from by rw [h]; rfl)
  have HM0 := hide hm0
  have HN := hide hn
  have HR := hide hr
  clear hn hr h hm0 hfi hv hcm
  go_enter Try.func7, Try.ntmps7
  go_upto_region 3 with (first | (go_at_call 23; refine (ready_any f first A n c xs _ HN.out ((HR.out.below (by (repeat' first | exact zbR _ _ | assumption | refine zbD ?_ | refine zbA ?_ ?_ _ | refine zbS ?_ ?_ _ | refine zbT ?_ (by assumption) ?_ | (simp; done) | (simp; omega) | omega))).mono (by simp; omega)) HM2.out).mono ?_; rintro e w1 ⟨rfl, hb⟩; rw [HE2.out]; have HX0 := hide ((hb.block w.heap.size (by simp; omega)).trans (heap_alloc2_old w _ _)); have HX1 := hide ((hb.block (w.heap.size + 1) (by simp)).trans (heap_alloc2_new w _ _)); have HB := hide (show Below w.heap.size w w1 from Below.trans (by (repeat' first | exact zbR _ _ | assumption | refine zbD ?_ | refine zbA ?_ ?_ _ | refine zbS ?_ ?_ _ | refine zbT ?_ (by assumption) ?_ | (simp; done) | (simp; omega) | omega)) (hb.mono (by simp; omega))); clear hb))
  have hc0 := fun i => cell_of_row w1 w.heap.size i _ _ _ HX0.out
  have hc1 := fun i => cell_of_row w1 (w.heap.size + 1) i _ _ _ HX1.out
  go_upto_region 4 with (first | (go_at_call 24; refine (played_ok f first A n c xs m0 _ HE.out HM0.out HN.out ((HR.out.below HB.out).mono HB.out.size) hm6).mono ?_; rintro e w3 ⟨B1, d1, G1, g1, rfl, hs, hg, hb⟩; clear hc0 hc1; replace HX0 := hide (blk_keep HX0.out hb); replace HX1 := hide (blk_keep HX1.out hb); replace HB := hide (HB.out.trans (hb.mono HB.out.size)); have HG1 := hide hg; clear hs hg hb))
  have hb := (Below.refl w3.heap.size w3).alloc (Nat.le_refl _) (.cells #[.slice B1 m0.sets.length d1, .int .i64 m0.games.A, .int .i64 m0.games.B, .int .i64 m0.pts.A, .int .i64 m0.pts.B, .int .i64 m0.server, .int .i64 m0.ends, .int .i64 m0.balls, .int .i64 m0.winner] 36 (0, 0))
  replace HX0 := hide (blk_keep HX0.out hb)
  replace HX1 := hide (blk_keep HX1.out hb)
  replace HB := hide (HB.out.trans (hb.mono HB.out.size))
  replace HG1 := hide ((HG1.out.below hb).mono hb.size)
  clear hb
  generalize w3.alloc (.cells #[.slice B1 m0.sets.length d1, .int .i64 m0.games.A, .int .i64 m0.games.B, .int .i64 m0.pts.A, .int .i64 m0.pts.B, .int .i64 m0.server, .int .i64 m0.ends, .int .i64 m0.balls, .int .i64 m0.winner] 36 (0, 0)) = w4 at *
  obtain ⟨hs6, hl6⟩ := hlen
  have hx0z : w.heap.size < w4.heap.size := blk_lt HX0.out
  have hx1z : w.heap.size + 1 < w4.heap.size := blk_lt HX1.out
  go_wp2_with fail
  go_loopw [8] (fun i wl => ∃ j : Nat, j ≤ m0.log.length ∧ i = .int .i64 j ∧ Hid (Below w4.heap.size w4 wl)) (fun i _ => m0.log.length - (intOf i).toNat)
  case atStart => exact ⟨0, by omega, rfl, hide (Below.refl _ _)⟩
  case round =>
    obtain ⟨j, hj, rfl, HBj⟩ := hrel
    by_cases hlt : j < m0.log.length
    · as_aux_lemma =>
      obtain ⟨g, hg⟩ : ∃ g, m0.log[j]? = some g := ⟨_, List.getElem?_eq_getElem hlt⟩
      obtain ⟨b1, o1, hA1, hbB1, p0, p1, p2, p3, p4, p5, p6⟩ := (HG1.out.below HBj.out) j g hg
      have hT := HT.out
      have hsv := hT.1 j g hg
      rw [hT.2.1, hT.2.2] at hsv
      have hsr := M.serverOf_rng first f.doubles j 0
      have hsp := M.serverOf_par first f.doubles j 0
      have hsd : 1 < M.serverOf first f.doubles j 0 → f.doubles = true := M.serverOf_dbl
      have hc0 := fun i => cell_of_row wr w.heap.size i _ _ _ (blk_keep HX0.out HBj.out)
      have hc1 := fun i => cell_of_row wr (w.heap.size + 1) i _ _ _ (blk_keep HX1.out HBj.out)
      have hlt' : (j : Int) < (m0.log.length : Int) := by omega
      have hj0 : (0 : Int) ≤ (j : Int) := by omega
      have hwa : IntKind.i64.wrap (first + (j : Int)) = first + (j : Int) := IntWalk.i64_in _ (by omega)
      obtain ⟨q, hq⟩ : ∃ q, M.serverOf first f.doubles j 0 % 2 = q := ⟨_, rfl⟩
      have hm1 : (M.serverOf first f.doubles j 0).tmod 2 = q := by rw [Int.tmod_eq_emod_of_nonneg hsr.1]; exact hq
      have hm2 : (first + (j : Int)).tmod 2 = q := by rw [Int.tmod_eq_emod_of_nonneg (by omega)]; omega
      have hwq : IntKind.i64.wrap q = q := IntWalk.i64_in _ (by omega)
      by_cases h4 : 4 ≤ j
      · obtain ⟨g', hg'⟩ : ∃ g, m0.log[j - 4]? = some g := ⟨_, List.getElem?_eq_getElem (by omega)⟩
        obtain ⟨b1', o1', hA1', hbB1', r0, r1, r2, r3, r4, r5, r6⟩ := (HG1.out.below HBj.out) (j - 4) g' hg'
        have hsv' := hT.1 (j - 4) g' hg'
        rw [hT.2.1, hT.2.2] at hsv'
        have h44 : M.serverOf first f.doubles ((j - 4 : Nat) : Int) 0 = M.serverOf first f.doubles j 0 := by
          have h5 := M.serverOf_four first f.doubles ((j - 4 : Nat) : Int)
          rw [show ((j - 4 : Nat) : Int) + 4 = (j : Int) by omega] at h5
          exact h5.symm
        subst hA1
        injection hA1' with hA1'
        injection hA1' with e1 e2
        subst e1 e2
        rw [hsv', h44] at r2
        rw [hsv] at p2
        have hw4 : IntKind.i64.wrap ((j : Int) - 4) = ((j - 4 : Nat) : Int) := by rw [IntWalk.i64_in _ (by omega)]; omega
        have h4i : (4 : Int) ≤ (j : Int) := by omega
        have hlt4 : ((j - 4 : Nat) : Int) < (m0.log.length : Int) := by omega
        have hj40 : (0 : Int) ≤ ((j - 4 : Nat) : Int) := by omega
        generalize M.serverOf first f.doubles j 0 = sv at *
        clear hsp hT hg hg' hsv hsv' h44 h4 HT
        obtain ⟨hs0, hs3⟩ := hsr
        by_cases hs1 : 1 < sv
        · have hdb := hsd hs1
          clear hsd
          go_wp2_with fail
          go_quiet (fail)
          go_wp2_with fail
          go_quiet (fail)
          go_wp2_with fail
          go_roundw
          case rel => first | exact ⟨j + 1, by omega, by go_num, hide (below_drewN HBj.out _)⟩ | exact ⟨j + 1, by omega, by go_num, hide (below_drewN (below_drewN HBj.out _) _)⟩ | ((repeat apply Exists.intro); exact ⟨⟨j + 1, by omega, by go_num, hide (below_drewN HBj.out _)⟩, by first | rfl | (rw [hdb]; rfl)⟩)
          case measure => simp [intOf]; omega
        · have hsb : decide (1 < sv) = false := decide_eq_false hs1
          clear hsd hs1
          go_wp2_with fail
          go_quiet (fail)
          go_wp2_with fail
          go_quiet (fail)
          go_wp2_with fail
          go_roundw
          case rel => first | exact ⟨j + 1, by omega, by go_num, hide (below_drewN HBj.out _)⟩ | exact ⟨j + 1, by omega, by go_num, hide (below_drewN (below_drewN HBj.out _) _)⟩ | ((repeat apply Exists.intro); exact ⟨⟨j + 1, by omega, by go_num, hide (below_drewN HBj.out _)⟩, by first | rfl | (rw [hdb]; rfl)⟩)
          case measure => simp [intOf]; omega
      · subst hA1
        rw [hsv] at p2
        have hjb : decide ((4 : Int) ≤ (j : Int)) = false := decide_eq_false (by omega)
        generalize M.serverOf first f.doubles j 0 = sv at *
        clear hsp hT hg hsv h4 HT
        obtain ⟨hs0, hs3⟩ := hsr
        by_cases hs1 : 1 < sv
        · have hdb := hsd hs1
          clear hsd
          go_wp2_with fail
          go_quiet (fail)
          go_wp2_with fail
          go_quiet (fail)
          go_wp2_with fail
          go_roundw
          case rel => first | exact ⟨j + 1, by omega, by go_num, hide (below_drewN HBj.out _)⟩ | exact ⟨j + 1, by omega, by go_num, hide (below_drewN (below_drewN HBj.out _) _)⟩ | ((repeat apply Exists.intro); exact ⟨⟨j + 1, by omega, by go_num, hide (below_drewN HBj.out _)⟩, by first | rfl | (rw [hdb]; rfl)⟩)
          case measure => simp [intOf]; omega
        · have hsb : decide (1 < sv) = false := decide_eq_false hs1
          clear hsd hs1
          go_wp2_with fail
          go_quiet (fail)
          go_wp2_with fail
          go_quiet (fail)
          go_wp2_with fail
          go_roundw
          case rel => first | exact ⟨j + 1, by omega, by go_num, hide (below_drewN HBj.out _)⟩ | exact ⟨j + 1, by omega, by go_num, hide (below_drewN (below_drewN HBj.out _) _)⟩ | ((repeat apply Exists.intro); exact ⟨⟨j + 1, by omega, by go_num, hide (below_drewN HBj.out _)⟩, by first | rfl | (rw [hdb]; rfl)⟩)
          case measure => simp [intOf]; omega
    · have hjn : m0.log.length = j := by omega
      subst hjn
      clear hlt hj HG1 HT hl6 hs6
      go_wp2_with fail
      go_loopw [9, 10, 11, 12, 13] (fun sr sl st ss i wl => ∃ (k : Nat) (row last total : Int) (Av : Option Addr) (lv cv : Nat) (zs : List Int), k ≤ n + 1 ∧ sr = .int .i64 row ∧ sl = .int .i64 last ∧ st = .int .i64 total ∧ ss = .slice Av lv cv ∧ i = .int .i64 k ∧ Hid (lv ≤ k ∧ zs.length = lv) ∧ Hid (Below w4.heap.size w4 wl) ∧ Hid (wl.ownsRow w4.heap.size 3 1 (.slice Av lv cv) lv (flatI zs)) ∧ Hid (M.ServeSt f first xs k row last total)) (fun _ _ _ _ i _ => n + 1 - (intOf i).toNat)
      case atStart => exact ⟨0, 0, -1, 0, none, 0, 0, [], by omega, rfl, rfl, rfl, rfl, rfl, hide ⟨Nat.le_refl _, rfl⟩, HBj, hide ⟨rfl, .inl ⟨rfl, rfl⟩⟩, hide (.inl ⟨rfl, rfl, rfl, rfl⟩)⟩
      case round =>
        obtain ⟨k, row, last, total, Av, lv, cv, zs, hk, rfl, rfl, rfl, rfl, rfl, HLV, HBk, HOk, HSk⟩ := hrel
        have HX0w := hide (blk_keep HX0.out HBk.out)
        have HX1w := hide (blk_keep HX1.out HBk.out)
        have hc1 := fun i => cell_of_row wr (w.heap.size + 1) i _ _ _ HX1w.out
        by_cases hlt : k ≤ n
        · obtain ⟨m, hm⟩ : ∃ m, M.playM f first (xs.take k) = m := ⟨_, rfl⟩
          have hek := M.playE_take HE.out k
          have hok := M.playM_ok hek
          have hsr := M.playM_srv hek
          rw [hm] at hok hsr
          have HM := hide hm
          have HEK := hide hek
          have HOKM := hide hok
          have HSR := hide hsr
          have HNk : Hid ((xs.take k).length = k) := hide (by rw [List.length_take]; have := HN.out; omega)
          have HRk : Hid (RdI wr wr.heap.size A (xs.take k)) := hide (fun j x hj => by
            have hjk : j < k := by have h := (List.getElem?_eq_some_iff.1 hj).1; rw [HNk.out] at h; exact h
            rw [List.getElem?_take_of_lt hjk] at hj
            exact (((HR.out.below HB.out).mono HB.out.size).below HBk.out).mono HBk.out.size j x hj)
          have hkn : (k : Int) ≤ (n : Int) := by omega
          have hk0 : (0 : Int) ≤ (k : Int) := by omega
          have hkc : (k : Int) ≤ (c : Int) := by omega
          clear hm hek hok hsr
          go_upto_region 18 with fail
          clear hc1
          go_cut [14, 15] from 101 to 197 (fun v14 v15 wx => ∃ (q : Nat) (B : Option Addr) (d : Nat), v14 = .pointer (some ⟨q, 0, none⟩) ∧ v15 = .int .i64 0 ∧ Hid (Below wr.heap.size wr wx) ∧ Hid (wx.heap[q]? = some (.cells #[.slice B m.sets.length d, .int .i64 m.games.A, .int .i64 m.games.B, .int .i64 m.pts.A, .int .i64 m.pts.B, .int .i64 m.server, .int .i64 m.ends, .int .i64 m.balls, .int .i64 m.winner] 36 (0, 0))) ∧ Hid (wx.ownsRow wr.heap.size 32 2 (.slice B m.sets.length d) m.sets.length (flatP m.sets)))
          case first =>
            have hcf := fun i => cell_of_row wr w.heap.size i _ _ _ HX0w.out
            have hcx := fun i => cell_of_row wr (w.heap.size + 1) i _ _ _ HX1w.out
            have hSof : ∀ u : World, Below wr.heap.size wr u → (fun w' => w'.cell? ⟨w.heap.size, 0, none⟩ = some (.int .i64 f.sets) ∧ w'.cell? ⟨w.heap.size, 1, none⟩ = some (.int .i64 f.games) ∧ w'.cell? ⟨w.heap.size, 2, none⟩ = some (.bool f.noAd) ∧ w'.cell? ⟨w.heap.size, 3, none⟩ = some (.int .i64 f.tie) ∧ w'.cell? ⟨w.heap.size, 4, none⟩ = some (.int .i64 f.to) ∧ w'.cell? ⟨w.heap.size, 5, none⟩ = some (.int .i64 f.lastTie) ∧ w'.cell? ⟨w.heap.size, 6, none⟩ = some (.int .i64 f.lastTo) ∧ w'.cell? ⟨w.heap.size, 7, none⟩ = some (.int .i64 f.first) ∧ w'.cell? ⟨w.heap.size, 8, none⟩ = some (.int .i64 f.next) ∧ w'.cell? ⟨w.heap.size, 9, none⟩ = some (.bool f.doubles) ∧ w'.cell? ⟨w.heap.size + 1, 0, none⟩ = some (.int .i64 first) ∧ w'.cell? ⟨w.heap.size + 1, 1, none⟩ = some (.slice A n c)) u := fun u hb => ⟨kc hb (blk_lt HX0w.out) ((hcf 0).trans rfl), kc hb (blk_lt HX0w.out) ((hcf 1).trans rfl), kc hb (blk_lt HX0w.out) ((hcf 2).trans rfl), kc hb (blk_lt HX0w.out) ((hcf 3).trans rfl), kc hb (blk_lt HX0w.out) ((hcf 4).trans rfl), kc hb (blk_lt HX0w.out) ((hcf 5).trans rfl), kc hb (blk_lt HX0w.out) ((hcf 6).trans rfl), kc hb (blk_lt HX0w.out) ((hcf 7).trans rfl), kc hb (blk_lt HX0w.out) ((hcf 8).trans rfl), kc hb (blk_lt HX0w.out) ((hcf 9).trans rfl), kc hb (blk_lt HX1w.out) ((hcx 0).trans rfl), kc hb (blk_lt HX1w.out) ((hcx 1).trans rfl)⟩
            (try dsimp only at hSof)
            clear hcf hcx
            refine wp_region_held_drew (S := (fun w' => w'.cell? ⟨w.heap.size, 0, none⟩ = some (.int .i64 f.sets) ∧ w'.cell? ⟨w.heap.size, 1, none⟩ = some (.int .i64 f.games) ∧ w'.cell? ⟨w.heap.size, 2, none⟩ = some (.bool f.noAd) ∧ w'.cell? ⟨w.heap.size, 3, none⟩ = some (.int .i64 f.tie) ∧ w'.cell? ⟨w.heap.size, 4, none⟩ = some (.int .i64 f.to) ∧ w'.cell? ⟨w.heap.size, 5, none⟩ = some (.int .i64 f.lastTie) ∧ w'.cell? ⟨w.heap.size, 6, none⟩ = some (.int .i64 f.lastTo) ∧ w'.cell? ⟨w.heap.size, 7, none⟩ = some (.int .i64 f.first) ∧ w'.cell? ⟨w.heap.size, 8, none⟩ = some (.int .i64 f.next) ∧ w'.cell? ⟨w.heap.size, 9, none⟩ = some (.bool f.doubles) ∧ w'.cell? ⟨w.heap.size + 1, 0, none⟩ = some (.int .i64 first) ∧ w'.cell? ⟨w.heap.size + 1, 1, none⟩ = some (.slice A n c))) (by kernel_rfl) ?_ (fun hHeld => ?_)
            · exact hSof _ (zbD (zbR _ _))
            refine tL (v := ?_) 0 rfl (by kernel_rfl) (fun _ _ _ h => h) (Or.inl ⟨by rfl, ?_⟩) (by assumption) ?_; rotate_left
            · (intro w hSw; (try dsimp only at hSw); go_simp; try with_reducible rfl)
            try simp only [Act.put, zl, z0, z1]
            refine tL (v := ?_) 1 rfl (by kernel_rfl) (fun _ _ _ h => h) (Or.inl ⟨by rfl, ?_⟩) (by assumption) ?_; rotate_left
            · (intro w hSw; (try dsimp only at hSw); go_simp; try with_reducible rfl)
            try simp only [Act.put, zl, z0, z1]
            refine tL (v := ?_) 2 rfl (by kernel_rfl) (fun _ _ _ h => h) (Or.inl ⟨by rfl, ?_⟩) (by assumption) ?_; rotate_left
            · (intro w hSw; (try dsimp only at hSw); go_simp; try with_reducible rfl)
            try simp only [Act.put, zl, z0, z1]
            refine tL (v := ?_) 3 rfl (by kernel_rfl) (fun _ _ _ h => h) (Or.inl ⟨by rfl, ?_⟩) (by assumption) ?_; rotate_left
            · (intro w hSw; (try dsimp only at hSw); go_simp; try with_reducible rfl)
            try simp only [Act.put, zl, z0, z1]
            refine tL (v := ?_) 4 rfl (by kernel_rfl) (fun _ _ _ h => h) (Or.inl ⟨by rfl, ?_⟩) (by assumption) ?_; rotate_left
            · (intro w hSw; (try dsimp only at hSw); go_simp; try with_reducible rfl)
            try simp only [Act.put, zl, z0, z1]
            refine tL (v := ?_) 5 rfl (by kernel_rfl) (fun _ _ _ h => h) (Or.inl ⟨by rfl, ?_⟩) (by assumption) ?_; rotate_left
            · (intro w hSw; (try dsimp only at hSw); go_simp; try with_reducible rfl)
            try simp only [Act.put, zl, z0, z1]
            refine tL (v := ?_) 6 rfl (by kernel_rfl) (fun _ _ _ h => h) (Or.inl ⟨by rfl, ?_⟩) (by assumption) ?_; rotate_left
            · (intro w hSw; (try dsimp only at hSw); go_simp; try with_reducible rfl)
            try simp only [Act.put, zl, z0, z1]
            have HBu := hide (zbD (zbR wr.heap.size wr))
            generalize wr.drew = u at *
            refine wpAnyH_ready (rs := [7, 11]) (by kernel_rfl) (by simp) (consL 7 rfl (fun K hK => ?_) (consL 11 rfl (fun K hK => ?_) AllReadyH.nil))
            · as_aux_lemma =>
              go_simp
              go_at_call 13
              refine (Play_any f first A k c (xs.take k) _ HNk.out ((HRk.out.below HBu.out).mono HBu.out.size) (by omega)).mono ?_
              rintro e v ⟨sv, rfl, hsv, hb⟩
              obtain ⟨B, d, rfl⟩ := own_form hsv
              rw [HM.out, HEK.out]
              rw [HM.out] at hsv
              have hOz := HBu.out.size
              have hBn := HBu.out.trans (hb.mono HBu.out.size)
              refine hK.out _ _ (hSof _ hBn) (fun hHeldn => ?_)
              clear hK K hHeld
              try simp only [Act.put, zl, z0, z1]
              (try replace HQ := hide (blk_keep HQ.out hb))
              have HO := hide hsv
              replace HBu := hide hBn
              have hHeld := hHeldn
              clear hBn hHeldn hsv hb
              rename World => u
              refine tL (v := ?_) 8 rfl (by kernel_rfl) (fun _ _ _ h => h) (Or.inl ⟨by rfl, ?_⟩) (by assumption) ?_; rotate_left
              · (intro w hSw; (try dsimp only at hSw); go_simp; try with_reducible rfl)
              try simp only [Act.put, zl, z0, z1]
              refine tL (v := ?_) 9 rfl (by kernel_rfl) (fun _ _ _ h => h) (Or.inl ⟨by rfl, ?_⟩) (by assumption) ?_; rotate_left
              · (intro w hSw; (try dsimp only at hSw); go_simp; try with_reducible rfl)
              try simp only [Act.put, zl, z0, z1]
              refine tL (v := ?_) 10 rfl (by kernel_rfl) (fun _ _ _ h => h) (Or.inl ⟨by rfl, ?_⟩) (by assumption) ?_; rotate_left
              · (intro w hSw; (try dsimp only at hSw); go_simp; try with_reducible rfl)
              try simp only [Act.put, zl, z0, z1]
              refine wpAnyH_ready (rs := [11]) (by kernel_rfl) (by simp) (consL 11 rfl (fun K hK => ?_) AllReadyH.nil)
              go_simp
              have hbk := zbA (zbR u.heap.size u) (Nat.le_refl _) (.cells #[.slice none 0 0, .int .i64 0, .int .i64 0, .int .i64 0, .int .i64 0, .int .i64 0, .int .i64 0, .int .i64 0, .int .i64 0] 36 (0, 0))
              have hBn := HBu.out.trans (hbk.mono HBu.out.size)
              refine hK.out _ _ (hSof _ hBn) (fun hHeldn => ?_)
              clear hK K hHeld
              try simp only [Act.put, zl, z0, z1]
              (try replace HO := hide (owns_below HO.out hbk))
              have HQ := hide (heap_alloc_new u (.cells #[.slice none 0 0, .int .i64 0, .int .i64 0, .int .i64 0, .int .i64 0, .int .i64 0, .int .i64 0, .int .i64 0, .int .i64 0] 36 (0, 0)))
              have hqz := HBu.out.size
              replace HBu := hide hBn
              have hHeld := hHeldn
              clear hbk hBn hHeldn
              generalize u.alloc (.cells #[.slice none 0 0, .int .i64 0, .int .i64 0, .int .i64 0, .int .i64 0, .int .i64 0, .int .i64 0, .int .i64 0, .int .i64 0] 36 (0, 0)) = v at *
              generalize u.heap.size = q at *
              rename World => u
              refine wpAnyH_ready (rs := [12]) (by kernel_rfl) (by simp) (consL 12 rfl (fun K hK => ?_) AllReadyH.nil)
              refine step_store_row rfl 36 (.tmp 14) (.tmp 117) rfl q #[.slice B m.sets.length d, .int .i64 m.games.A, .int .i64 m.games.B, .int .i64 m.pts.A, .int .i64 m.pts.B, .int .i64 m.server, .int .i64 m.ends, .int .i64 m.balls, .int .i64 m.winner] rfl rfl 36 _ HQ.out scoreRow rfl (by simp [Value.oneCell']) ?_
              refine hK.out _ _ (hSof _ (below_row HBu.out hqz _)) (fun hHeldn => ?_)
              clear hK K hHeld
              try simp only [Act.put, zl, z0, z1]
              have hg : u.grownBy (u.setRow q #[.slice B m.sets.length d, .int .i64 m.games.A, .int .i64 m.games.B, .int .i64 m.pts.A, .int .i64 m.pts.B, .int .i64 m.server, .int .i64 m.ends, .int .i64 m.balls, .int .i64 m.winner]) (some q) := ⟨rfl, rfl, rfl, by simp, fun k _ hk => setRow_other u _ k _ (fun e => hk (by rw [e]))⟩
              have hR := owns_mono (base' := wr.heap.size) (HO.out.kept hg (.inr (row_ne HO.out HQ.out (by decide)))) hOz
              have hE := setRow_heap _ _ _ #[.slice B m.sets.length d, .int .i64 m.games.A, .int .i64 m.games.B, .int .i64 m.pts.A, .int .i64 m.pts.B, .int .i64 m.server, .int .i64 m.ends, .int .i64 m.balls, .int .i64 m.winner] _ _ HQ.out
              have hBz := below_row HBu.out hqz #[.slice B m.sets.length d, .int .i64 m.games.A, .int .i64 m.games.B, .int .i64 m.pts.A, .int .i64 m.pts.B, .int .i64 m.server, .int .i64 m.ends, .int .i64 m.balls, .int .i64 m.winner]
              refine tL (v := ?_) 13 rfl (by kernel_rfl) (fun _ _ _ h => h) (Or.inl ⟨by rfl, ?_⟩) (by assumption) ?_; rotate_left
              · (intro w hSw; (try dsimp only at hSw); go_simp; try with_reducible rfl)
              try simp only [Act.put, zl, z0, z1]
              refine wpAnyH_done (by kernel_rfl) ?_ _
              go_wp2_with fail
              go_meet
              exact ⟨q, B, d, rfl, rfl, hide hBz, hide hE, hide hR⟩
            · as_aux_lemma =>
              go_simp
              have hbk := zbA (zbR u.heap.size u) (Nat.le_refl _) (.cells #[.slice none 0 0, .int .i64 0, .int .i64 0, .int .i64 0, .int .i64 0, .int .i64 0, .int .i64 0, .int .i64 0, .int .i64 0] 36 (0, 0))
              have hBn := HBu.out.trans (hbk.mono HBu.out.size)
              refine hK.out _ _ (hSof _ hBn) (fun hHeldn => ?_)
              clear hK K hHeld
              try simp only [Act.put, zl, z0, z1]
              (try replace HO := hide (owns_below HO.out hbk))
              have HQ := hide (heap_alloc_new u (.cells #[.slice none 0 0, .int .i64 0, .int .i64 0, .int .i64 0, .int .i64 0, .int .i64 0, .int .i64 0, .int .i64 0, .int .i64 0] 36 (0, 0)))
              have hqz := HBu.out.size
              replace HBu := hide hBn
              have hHeld := hHeldn
              clear hbk hBn hHeldn
              generalize u.alloc (.cells #[.slice none 0 0, .int .i64 0, .int .i64 0, .int .i64 0, .int .i64 0, .int .i64 0, .int .i64 0, .int .i64 0, .int .i64 0] 36 (0, 0)) = v at *
              generalize u.heap.size = q at *
              rename World => u
              refine wpAnyH_ready (rs := [7]) (by kernel_rfl) (by simp) (consL 7 rfl (fun K hK => ?_) AllReadyH.nil)
              go_simp
              go_at_call 13
              refine (Play_any f first A k c (xs.take k) _ HNk.out ((HRk.out.below HBu.out).mono HBu.out.size) (by omega)).mono ?_
              rintro e v ⟨sv, rfl, hsv, hb⟩
              obtain ⟨B, d, rfl⟩ := own_form hsv
              rw [HM.out, HEK.out]
              rw [HM.out] at hsv
              have hOz := HBu.out.size
              have hBn := HBu.out.trans (hb.mono HBu.out.size)
              refine hK.out _ _ (hSof _ hBn) (fun hHeldn => ?_)
              clear hK K hHeld
              try simp only [Act.put, zl, z0, z1]
              (try replace HQ := hide (blk_keep HQ.out hb))
              have HO := hide hsv
              replace HBu := hide hBn
              have hHeld := hHeldn
              clear hBn hHeldn hsv hb
              rename World => u
              refine tL (v := ?_) 8 rfl (by kernel_rfl) (fun _ _ _ h => h) (Or.inl ⟨by rfl, ?_⟩) (by assumption) ?_; rotate_left
              · (intro w hSw; (try dsimp only at hSw); go_simp; try with_reducible rfl)
              try simp only [Act.put, zl, z0, z1]
              refine tL (v := ?_) 9 rfl (by kernel_rfl) (fun _ _ _ h => h) (Or.inl ⟨by rfl, ?_⟩) (by assumption) ?_; rotate_left
              · (intro w hSw; (try dsimp only at hSw); go_simp; try with_reducible rfl)
              try simp only [Act.put, zl, z0, z1]
              refine tL (v := ?_) 10 rfl (by kernel_rfl) (fun _ _ _ h => h) (Or.inl ⟨by rfl, ?_⟩) (by assumption) ?_; rotate_left
              · (intro w hSw; (try dsimp only at hSw); go_simp; try with_reducible rfl)
              try simp only [Act.put, zl, z0, z1]
              refine wpAnyH_ready (rs := [12]) (by kernel_rfl) (by simp) (consL 12 rfl (fun K hK => ?_) AllReadyH.nil)
              refine step_store_row rfl 36 (.tmp 14) (.tmp 117) rfl q #[.slice B m.sets.length d, .int .i64 m.games.A, .int .i64 m.games.B, .int .i64 m.pts.A, .int .i64 m.pts.B, .int .i64 m.server, .int .i64 m.ends, .int .i64 m.balls, .int .i64 m.winner] rfl rfl 36 _ HQ.out scoreRow rfl (by simp [Value.oneCell']) ?_
              refine hK.out _ _ (hSof _ (below_row HBu.out hqz _)) (fun hHeldn => ?_)
              clear hK K hHeld
              try simp only [Act.put, zl, z0, z1]
              have hg : u.grownBy (u.setRow q #[.slice B m.sets.length d, .int .i64 m.games.A, .int .i64 m.games.B, .int .i64 m.pts.A, .int .i64 m.pts.B, .int .i64 m.server, .int .i64 m.ends, .int .i64 m.balls, .int .i64 m.winner]) (some q) := ⟨rfl, rfl, rfl, by simp, fun k _ hk => setRow_other u _ k _ (fun e => hk (by rw [e]))⟩
              have hR := owns_mono (base' := wr.heap.size) (HO.out.kept hg (.inr (row_ne HO.out HQ.out (by decide)))) hOz
              have hE := setRow_heap _ _ _ #[.slice B m.sets.length d, .int .i64 m.games.A, .int .i64 m.games.B, .int .i64 m.pts.A, .int .i64 m.pts.B, .int .i64 m.server, .int .i64 m.ends, .int .i64 m.balls, .int .i64 m.winner] _ _ HQ.out
              have hBz := below_row HBu.out hqz #[.slice B m.sets.length d, .int .i64 m.games.A, .int .i64 m.games.B, .int .i64 m.pts.A, .int .i64 m.pts.B, .int .i64 m.server, .int .i64 m.ends, .int .i64 m.balls, .int .i64 m.winner]
              refine tL (v := ?_) 13 rfl (by kernel_rfl) (fun _ _ _ h => h) (Or.inl ⟨by rfl, ?_⟩) (by assumption) ?_; rotate_left
              · (intro w hSw; (try dsimp only at hSw); go_simp; try with_reducible rfl)
              try simp only [Act.put, zl, z0, z1]
              refine wpAnyH_done (by kernel_rfl) ?_ _
              go_wp2_with fail
              go_meet
              exact ⟨q, B, d, rfl, rfl, hide hBz, hide hE, hide hR⟩
          case rest =>
            obtain ⟨q, B, d, rfl, rfl, HBc, HQc, HRc⟩ := hcut
            replace HX0w := hide (blk_keep HX0w.out HBc.out)
            replace HX1w := hide (blk_keep HX1w.out HBc.out)
            replace HOk := hide (owns_below HOk.out HBc.out)
            have HSo := hide (owns_mono (base' := w4.heap.size) HRc.out HBk.out.size)
            replace HBk := hide (HBk.out.trans (HBc.out.mono HBk.out.size))
            have hcq := fun i => cell_of_row wc q i _ _ _ HQc.out
            clear HBc HRc HRk HNk
            by_cases hw : m.winner = -1
            · have HW := hide hw
              have hw0 : m.winner < 0 := by omega
              have hsrv := M.srv_now HEK.out (by rw [HM.out]; exact hw)
              rw [HM.out] at hsrv
              obtain ⟨sp, hsp⟩ : ∃ sp, m.server % 2 = sp := ⟨_, rfl⟩
              have hsm : m.server.tmod 2 = sp := by rw [Int.tmod_eq_emod_of_nonneg hsrv]; exact hsp
              have hwsp : IntKind.i64.wrap sp = sp := IntWalk.i64_in _ (by omega)
              have hsp1 : (sp == (-1)) = false := by simp; omega
              have HSP := hide hsp
              obtain ⟨tie, hti⟩ : ∃ tie, (if M.lastB f (M.wonR M.zero m.sets) = true then f.lastTie else f.tie) = tie := ⟨_, rfl⟩
              have HTI := hide hti
              have HCASE := hide (M.tie_case f m.sets m.games tie hti)
              have hk1 : IntKind.i64.wrap ((k : Int) + 1) = (k : Int) + 1 := IntWalk.i64_in _ (by omega)
              clear hw hsp hti hsrv
              by_cases hz : m.pts.A + m.pts.B = 0
              · as_aux_lemma =>
                have HZ := hide hz
                have HN0 : ∀ u : World, u.ownsRow w4.heap.size 3 1 (.slice none 0 0) 0 (flatI []) := fun u => ⟨rfl, .inl ⟨rfl, rfl⟩⟩
                have hz1 : IntKind.i64.wrap (0 + 1) = 1 := rfl
                rename World => u
                go_upto_region 29 with (first | (go_at_call 26; refine (sum_val _ _ _ _ rfl (by have h := HOKM.out.pts; omega)).mono ?_; rintro e v ⟨rfl, hb⟩; replace HX0w := hide (blk_keep HX0w.out hb); replace HX1w := hide (blk_keep HX1w.out hb); replace HQc := hide (blk_keep HQc.out hb); replace HSo := hide (owns_below HSo.out hb); replace HOk := hide (owns_below HOk.out hb); replace HBk := hide (HBk.out.trans (hb.mono HBk.out.size)); clear hcq; have hcq := fun i => cell_of_row v q i _ _ _ HQc.out; clear hb; rename World => u) | (refine wpList_app_at rfl (.tmp 130) (.tmp 134) rfl w4.heap.size (.slice none 0 0) [] 0 rfl (owns_below (HN0 u) (zbA (zbR u.heap.size u) (Nat.le_refl _) (.cells #[.int .i64 sp] 3 (0, 0)))) (some ⟨u.heap.size, 0, none⟩) 1 1 [sp] rfl rfl (rdI_one u sp) (fun e => by cases e) (by have := HLV.out; omega) (by omega) (by simp; have := HBk.out.size; omega) ?_; intro A' c' v hown hgrow; have hba := zbA (zbR u.heap.size u) (Nat.le_refl _) (.cells #[.int .i64 sp] 3 (0, 0)); have hw0 := owns_below (HN0 u) hba; have hlo := fun g hg => (hw0.lt g hg).1; have f0 := (hgrow.block w.heap.size (blk_lt (blk_keep HX0w.out hba)) (fun e => by have := hlo _ e.symm; omega)).trans (blk_keep HX0w.out hba); have f1 := (hgrow.block (w.heap.size + 1) (blk_lt (blk_keep HX1w.out hba)) (fun e => by have := hlo _ e.symm; omega)).trans (blk_keep HX1w.out hba); have f2 := (hgrow.block q (blk_lt (blk_keep HQc.out hba)) (Ne.symm (row_ne hw0 (blk_keep HQc.out hba) (by decide)))).trans (blk_keep HQc.out hba); have f3 := (owns_below HSo.out hba).kept hgrow (rows_ne (owns_below HSo.out hba) hw0 (by decide)); have f4 := (HBk.out.trans (hba.mono HBk.out.size)).grown hgrow (by simp; have := HBk.out.size; omega) hlo; replace HX0w := hide f0; replace HX1w := hide f1; replace HQc := hide f2; replace HSo := hide f3; replace HBk := hide f4; replace HOk := hide hown; clear f0 f1 f2 f3 f4 hown hgrow hba hw0 hlo hcq; have hcq := fun i => cell_of_row v q i _ _ _ HQc.out; rename World => u))
                go_quiet (fail)
                rename_i nq
                have hb := below_drewN (zbR u.heap.size u) nq
                replace HX0w := hide (blk_keep HX0w.out hb)
                replace HX1w := hide (blk_keep HX1w.out hb)
                replace HQc := hide (blk_keep HQc.out hb)
                replace HSo := hide (owns_below HSo.out hb)
                replace HOk := hide (owns_below HOk.out hb)
                replace HBk := hide (HBk.out.trans (hb.mono HBk.out.size))
                clear hcq hb
                generalize u.drewN nq = v at *
                rename World => u
                have hcq := fun i => cell_of_row u q i _ _ _ HQc.out
                go_upto_region 30 with fail
                obtain ⟨hkeep, hS⟩ := keep_of (S := (fun w' => Below u.heap.size u w' ∧ w.heap.size < w'.heap.size ∧ q < w'.heap.size ∧ w'.cell? ⟨w.heap.size, 0, none⟩ = some (.int .i64 f.sets) ∧ w'.cell? ⟨w.heap.size, 1, none⟩ = some (.int .i64 f.games) ∧ w'.cell? ⟨w.heap.size, 2, none⟩ = some (.bool f.noAd) ∧ w'.cell? ⟨w.heap.size, 3, none⟩ = some (.int .i64 f.tie) ∧ w'.cell? ⟨w.heap.size, 4, none⟩ = some (.int .i64 f.to) ∧ w'.cell? ⟨w.heap.size, 5, none⟩ = some (.int .i64 f.lastTie) ∧ w'.cell? ⟨w.heap.size, 6, none⟩ = some (.int .i64 f.lastTo) ∧ w'.cell? ⟨w.heap.size, 7, none⟩ = some (.int .i64 f.first) ∧ w'.cell? ⟨w.heap.size, 8, none⟩ = some (.int .i64 f.next) ∧ w'.cell? ⟨w.heap.size, 9, none⟩ = some (.bool f.doubles) ∧ w'.cell? ⟨q, 0, none⟩ = some (.slice B m.sets.length d))) u ⟨zbR _ _, blk_lt HX0w.out, blk_lt HQc.out, (cell_of_row _ _ _ _ _ _ HX0w.out).trans rfl, (cell_of_row _ _ _ _ _ _ HX0w.out).trans rfl, (cell_of_row _ _ _ _ _ _ HX0w.out).trans rfl, (cell_of_row _ _ _ _ _ _ HX0w.out).trans rfl, (cell_of_row _ _ _ _ _ _ HX0w.out).trans rfl, (cell_of_row _ _ _ _ _ _ HX0w.out).trans rfl, (cell_of_row _ _ _ _ _ _ HX0w.out).trans rfl, (cell_of_row _ _ _ _ _ _ HX0w.out).trans rfl, (cell_of_row _ _ _ _ _ _ HX0w.out).trans rfl, (cell_of_row _ _ _ _ _ _ HX0w.out).trans rfl, (cell_of_row _ _ _ _ _ _ HQc.out).trans rfl⟩ (by
                  rintro u u' hb ⟨hB, l0, l1, k0, k1, k2, k3, k4, k5, k6, k7, k8, k9, k10⟩
                  exact ⟨hB.trans (hb.mono hB.size), kl l0 hb, kl l1 hb, kc hb l0 k0, kc hb l0 k1, kc hb l0 k2, kc hb l0 k3, kc hb l0 k4, kc hb l0 k5, kc hb l0 k6, kc hb l0 k7, kc hb l0 k8, kc hb l0 k9, kc hb l1 k10⟩)
                (try dsimp only at hkeep hS)
                clear hcq
                refine wp_region_held_drew (S := (fun w' => Below u.heap.size u w' ∧ w.heap.size < w'.heap.size ∧ q < w'.heap.size ∧ w'.cell? ⟨w.heap.size, 0, none⟩ = some (.int .i64 f.sets) ∧ w'.cell? ⟨w.heap.size, 1, none⟩ = some (.int .i64 f.games) ∧ w'.cell? ⟨w.heap.size, 2, none⟩ = some (.bool f.noAd) ∧ w'.cell? ⟨w.heap.size, 3, none⟩ = some (.int .i64 f.tie) ∧ w'.cell? ⟨w.heap.size, 4, none⟩ = some (.int .i64 f.to) ∧ w'.cell? ⟨w.heap.size, 5, none⟩ = some (.int .i64 f.lastTie) ∧ w'.cell? ⟨w.heap.size, 6, none⟩ = some (.int .i64 f.lastTo) ∧ w'.cell? ⟨w.heap.size, 7, none⟩ = some (.int .i64 f.first) ∧ w'.cell? ⟨w.heap.size, 8, none⟩ = some (.int .i64 f.next) ∧ w'.cell? ⟨w.heap.size, 9, none⟩ = some (.bool f.doubles) ∧ w'.cell? ⟨q, 0, none⟩ = some (.slice B m.sets.length d))) (by kernel_rfl) ?_ (fun hHeld0 => ?_)
                · (try dsimp only); (first | (go_keep; done) | (go_split_ands; (repeat' apply And.intro) <;> first | (go_keep; done) | (simp [*, zcA, zcP, zfA, zfP]; done) | (simp [zcA, zcP] <;> rfl) | (simp [*, zsS, zsO, zsA]; done) | ((first | refine (hc _ _ ?_).trans ?_ | refine (hf _ _ ?_).trans ?_) <;> first | assumption | (simp; done) | (simp; omega) | omega | (go_keep; done) | (simp [*, zcA, zcP, zfA, zfP]; done) | (simp [zcA, zcP]; rfl)) | (repeat' first | exact zbR _ _ | assumption | refine zbD ?_ | refine zbA ?_ ?_ _ | refine zbS ?_ ?_ _ | refine zbT ?_ (by assumption) ?_ | (simp; done) | (simp; omega) | omega)))
                refine tL (v := ?_) 0 rfl (by kernel_rfl) (fun _ _ _ h => h) (Or.inl ⟨by rfl, ?_⟩) (by assumption) ?_; rotate_left
                · (intro w hSw; (try dsimp only at hSw); go_simp; try with_reducible rfl)
                try simp only [Act.put, zl, z0, z1]
                refine tL (v := ?_) 1 rfl (by kernel_rfl) (fun _ _ _ h => h) (Or.inl ⟨by rfl, ?_⟩) (by assumption) ?_; rotate_left
                · (intro w hSw; (try dsimp only at hSw); go_simp; try with_reducible rfl)
                try simp only [Act.put, zl, z0, z1]
                refine tL (v := ?_) 2 rfl (by kernel_rfl) (fun _ _ _ h => h) (Or.inl ⟨by rfl, ?_⟩) (by assumption) ?_; rotate_left
                · (intro w hSw; (try dsimp only at hSw); go_simp; try with_reducible rfl)
                try simp only [Act.put, zl, z0, z1]
                refine tL (v := ?_) 3 rfl (by kernel_rfl) (fun _ _ _ h => h) (Or.inl ⟨by rfl, ?_⟩) (by assumption) ?_; rotate_left
                · (intro w hSw; (try dsimp only at hSw); go_simp; try with_reducible rfl)
                try simp only [Act.put, zl, z0, z1]
                refine tL (v := ?_) 4 rfl (by kernel_rfl) (fun _ _ _ h => h) (Or.inl ⟨by rfl, ?_⟩) (by assumption) ?_; rotate_left
                · (intro w hSw; (try dsimp only at hSw); go_simp; try with_reducible rfl)
                try simp only [Act.put, zl, z0, z1]
                refine wpAnyH_ready (rs := [5]) (by kernel_rfl) (by simp) ?_
                refine consL 5 rfl (fun K hK => ?_) AllReadyH.nil
                go_simp
                (go_at_call 31; refine (refWon_any B _ d m.sets _ rfl (((owns_RdP HSo.out rfl).below (zbD (zbR _ _))).mono (Nat.le_refl _)) (by have := HOKM.out.sets; omega)).mono ?_; rintro e w9 ⟨rfl, hb⟩; have hSn := hkeep _ _ hb (by assumption); (try clear hS); have hS := hSn; clear hSn)
                refine hK.out _ _ ?_ (fun hHeld1 => ?_)
                · (try dsimp only); exact hS
                clear hK K hHeld0
                try simp only [Act.put, zl, z0, z1]
                refine wpAnyH_ready (rs := [6]) (by kernel_rfl) (by simp) ?_
                refine consL 6 rfl (fun K hK => ?_) AllReadyH.nil
                go_simp
                (go_at_call 30; refine (refIsLast_any f (M.wonR M.zero m.sets) _ (by have := HV.out.s0; omega) (by have := HV.out.s1; omega)).mono ?_; rintro e w9 ⟨rfl, hb⟩; have hSn := hkeep _ _ hb (by assumption); (try clear hS); have hS := hSn; clear hSn)
                refine hK.out _ _ ?_ (fun hHeld2 => ?_)
                · (try dsimp only); exact hS
                clear hK K hHeld1
                try simp only [Act.put, zl, z0, z1]
                refine wpAnyH_ready (rs := [7]) (by kernel_rfl) (by simp) ?_
                refine consL 7 rfl (fun K hK => ?_) AllReadyH.nil
                go_simp
                (go_at_call 29; refine (refRule_any f (M.lastB f (M.wonR M.zero m.sets)) _).mono ?_; rintro e w9 ⟨rfl, hb⟩; have hSn := hkeep _ _ hb (by assumption); (try clear hS); have hS := hSn; clear hSn; rw [HTI.out])
                refine hK.out _ _ ?_ (fun hHeld3 => ?_)
                · (try dsimp only); exact hS
                clear hK K hHeld2
                try simp only [Act.put, zl, z0, z1]
                refine tL (v := ?_) 8 rfl (by kernel_rfl) (fun _ _ _ h => h) (Or.inl ⟨by rfl, ?_⟩) (by assumption) ?_; rotate_left
                · (intro w hSw; (try dsimp only at hSw); go_simp; try with_reducible rfl)
                try simp only [Act.put, zl, z0, z1]
                refine tL (v := ?_) 9 rfl (by kernel_rfl) (fun _ _ _ h => h) (Or.inl ⟨by rfl, ?_⟩) (by assumption) ?_; rotate_left
                · (intro w hSw; (try dsimp only at hSw); go_simp; try with_reducible rfl)
                try simp only [Act.put, zl, z0, z1]
                refine tL (v := ?_) 10 rfl (by kernel_rfl) (fun _ _ _ h => h) (Or.inl ⟨by rfl, ?_⟩) (by assumption) ?_; rotate_left
                · (intro w hSw; (try dsimp only at hSw); go_simp; try with_reducible rfl)
                try simp only [Act.put, zl, z0, z1]
                refine tL (v := ?_) 11 rfl (by kernel_rfl) (fun _ _ _ h => h) (Or.inl ⟨by rfl, ?_⟩) (by assumption) ?_; rotate_left
                · (intro w hSw; (try dsimp only at hSw); go_simp; try with_reducible rfl)
                try simp only [Act.put, zl, z0, z1]
                refine tL (v := ?_) 12 rfl (by kernel_rfl) (fun _ _ _ h => h) (Or.inl ⟨by rfl, ?_⟩) (by assumption) ?_; rotate_left
                · (intro w hSw; (try dsimp only at hSw); go_simp; try with_reducible rfl)
                try simp only [Act.put, zl, z0, z1]
                refine wpAnyH_done (by kernel_rfl) ?_ _
                have hb := hS.1
                replace HX0w := hide (blk_keep HX0w.out hb)
                replace HX1w := hide (blk_keep HX1w.out hb)
                replace HQc := hide (blk_keep HQc.out hb)
                replace HOk := hide (owns_below HOk.out hb)
                replace HBk := hide (HBk.out.trans (hb.mono HBk.out.size))
                have hcq := fun i => cell_of_row w9 q i _ _ _ HQc.out
                clear hb hS hkeep
                have HNX : Hid (M.ServeSt f first xs (k + 1) 1 sp 1) := hide (.inr ⟨k, rfl, by rw [HM.out]; exact HW.out, by rw [HM.out]; exact (by rw [HZ.out, M.srow_zero]), by rw [HM.out]; exact HSP.out.symm, by rw [HM.out]; exact (by rw [HZ.out]; rfl)⟩)
                have HLV2 : Hid ((0 + 1) ≤ k + 1 ∧ ([] ++ [sp]).length = (0 + 1)) := hide (by have h := HLV.out; constructor <;> simp <;> omega)
                rcases HCASE.out with ⟨hT, ht0, hgb⟩ | ⟨hT, ht0⟩ | ⟨hT, ht0, hgb⟩
                · as_aux_lemma =>
                    have hrT := hide (show 1 = M.srow (M.rtied f m.sets m.games) (m.pts.A + m.pts.B) from (by rw [HZ.out, M.srow_zero]))
                    have hr2 : 1 ≤ 2 ∧ (1 = 2 → 1 = 1) := by
                      have h1 := hrT.out
                      have h2 : 1 = m.pts.A + m.pts.B + 1 := (by rw [HZ.out]; rfl)
                      rw [hT] at h1
                      unfold M.srow at h1
                      rw [if_pos rfl] at h1
                      split at h1 <;> omega
                    clear hrT
                    obtain ⟨hr2a, hr2b⟩ := hr2
                    clear hT hr2b
                    go_wp2_with fail
                    go_roundw
                    case rel => first | exact ⟨k + 1, 1, sp, 1, _, _, _, [] ++ [sp], by omega, rfl, rfl, rfl, rfl, by go_num, HLV2, HBk, HOk, HNX⟩ | ((repeat apply Exists.intro); exact ⟨⟨k + 1, 1, sp, 1, _, _, _, [] ++ [sp], by omega, rfl, rfl, rfl, rfl, by go_num, HLV2, HBk, HOk, HNX⟩, rfl⟩)
                    case measure => simp [intOf]; omega
                · as_aux_lemma =>
                    have herb : ((1 : Int) == 1) = true := rfl
                    clear hT
                    go_wp2_with fail
                    go_roundw
                    case rel => first | exact ⟨k + 1, 1, sp, 1, _, _, _, [] ++ [sp], by omega, rfl, rfl, rfl, rfl, by go_num, HLV2, HBk, HOk, HNX⟩ | ((repeat apply Exists.intro); exact ⟨⟨k + 1, 1, sp, 1, _, _, _, [] ++ [sp], by omega, rfl, rfl, rfl, rfl, by go_num, HLV2, HBk, HOk, HNX⟩, rfl⟩)
                    case measure => simp [intOf]; omega
                · as_aux_lemma =>
                    have herb : ((1 : Int) == 1) = true := rfl
                    clear hT
                    go_wp2_with fail
                    go_roundw
                    case rel => first | exact ⟨k + 1, 1, sp, 1, _, _, _, [] ++ [sp], by omega, rfl, rfl, rfl, rfl, by go_num, HLV2, HBk, HOk, HNX⟩ | ((repeat apply Exists.intro); exact ⟨⟨k + 1, 1, sp, 1, _, _, _, [] ++ [sp], by omega, rfl, rfl, rfl, rfl, by go_num, HLV2, HBk, HOk, HNX⟩, rfl⟩)
                    case measure => simp [intOf]; omega
              · have hzb : (m.pts.A + m.pts.B == 0) = false := by simp [hz]
                obtain ⟨hrow, htot⟩ := M.serve_row HE.out HM.out HEK.out HW.out hz (by rw [HN.out]; exact hlt) HSk.out
                have hb6 := HOKM.out.pts
                obtain ⟨t', ht'⟩ : ∃ t', total + 1 = t' := ⟨_, rfl⟩
                have hwt : IntKind.i64.wrap (total + 1) = t' := by rw [IntWalk.i64_in _ (by omega)]; exact ht'
                have HTOT : Hid (t' = m.pts.A + m.pts.B + 1) := hide (by omega)
                rw [HSP.out] at hrow
                by_cases heq : sp = last
                · as_aux_lemma =>
                  have heb : (sp == last) = true := by simp [heq]
                  have HEQ := hide heq
                  rw [if_pos heq] at hrow
                  have hrb6 := M.srow_bd (M.rtied f m.sets m.games) (k := m.pts.A + m.pts.B) (by omega)
                  obtain ⟨r', hr'⟩ : ∃ r', row + 1 = r' := ⟨_, rfl⟩
                  rw [hr'] at hrow
                  have hwr' : IntKind.i64.wrap (row + 1) = r' := by rw [hr', IntWalk.i64_in _ (by omega)]
                  have HROW := hide hrow
                  clear hrow htot hb6 heq hz hrb6 hr' ht'
                  rename World => u
                  go_upto_region 30 with (first | (go_at_call 26; refine (sum_val _ _ _ _ rfl (by have h := HOKM.out.pts; omega)).mono ?_; rintro e v ⟨rfl, hb⟩; replace HX0w := hide (blk_keep HX0w.out hb); replace HX1w := hide (blk_keep HX1w.out hb); replace HQc := hide (blk_keep HQc.out hb); replace HSo := hide (owns_below HSo.out hb); replace HOk := hide (owns_below HOk.out hb); replace HBk := hide (HBk.out.trans (hb.mono HBk.out.size)); clear hcq; have hcq := fun i => cell_of_row v q i _ _ _ HQc.out; clear hb; rename World => u) | (refine wpList_app_at rfl (.tmp 130) (.tmp 134) rfl w4.heap.size (.slice Av lv cv) zs lv rfl (owns_below (HOk.out) (zbA (zbR u.heap.size u) (Nat.le_refl _) (.cells #[.int .i64 sp] 3 (0, 0)))) (some ⟨u.heap.size, 0, none⟩) 1 1 [sp] rfl rfl (rdI_one u sp) (fun e => by cases e) (by have := HLV.out; omega) (by omega) (by simp; have := HBk.out.size; omega) ?_; intro A' c' v hown hgrow; have hba := zbA (zbR u.heap.size u) (Nat.le_refl _) (.cells #[.int .i64 sp] 3 (0, 0)); have hw0 := owns_below (HOk.out) hba; have hlo := fun g hg => (hw0.lt g hg).1; have f0 := (hgrow.block w.heap.size (blk_lt (blk_keep HX0w.out hba)) (fun e => by have := hlo _ e.symm; omega)).trans (blk_keep HX0w.out hba); have f1 := (hgrow.block (w.heap.size + 1) (blk_lt (blk_keep HX1w.out hba)) (fun e => by have := hlo _ e.symm; omega)).trans (blk_keep HX1w.out hba); have f2 := (hgrow.block q (blk_lt (blk_keep HQc.out hba)) (Ne.symm (row_ne hw0 (blk_keep HQc.out hba) (by decide)))).trans (blk_keep HQc.out hba); have f3 := (owns_below HSo.out hba).kept hgrow (rows_ne (owns_below HSo.out hba) hw0 (by decide)); have f4 := (HBk.out.trans (hba.mono HBk.out.size)).grown hgrow (by simp; have := HBk.out.size; omega) hlo; replace HX0w := hide f0; replace HX1w := hide f1; replace HQc := hide f2; replace HSo := hide f3; replace HBk := hide f4; replace HOk := hide hown; clear f0 f1 f2 f3 f4 hown hgrow hba hw0 hlo hcq; have hcq := fun i => cell_of_row v q i _ _ _ HQc.out; rename World => u))
                  obtain ⟨hkeep, hS⟩ := keep_of (S := (fun w' => Below u.heap.size u w' ∧ w.heap.size < w'.heap.size ∧ q < w'.heap.size ∧ w'.cell? ⟨w.heap.size, 0, none⟩ = some (.int .i64 f.sets) ∧ w'.cell? ⟨w.heap.size, 1, none⟩ = some (.int .i64 f.games) ∧ w'.cell? ⟨w.heap.size, 2, none⟩ = some (.bool f.noAd) ∧ w'.cell? ⟨w.heap.size, 3, none⟩ = some (.int .i64 f.tie) ∧ w'.cell? ⟨w.heap.size, 4, none⟩ = some (.int .i64 f.to) ∧ w'.cell? ⟨w.heap.size, 5, none⟩ = some (.int .i64 f.lastTie) ∧ w'.cell? ⟨w.heap.size, 6, none⟩ = some (.int .i64 f.lastTo) ∧ w'.cell? ⟨w.heap.size, 7, none⟩ = some (.int .i64 f.first) ∧ w'.cell? ⟨w.heap.size, 8, none⟩ = some (.int .i64 f.next) ∧ w'.cell? ⟨w.heap.size, 9, none⟩ = some (.bool f.doubles) ∧ w'.cell? ⟨q, 0, none⟩ = some (.slice B m.sets.length d))) u ⟨zbR _ _, blk_lt HX0w.out, blk_lt HQc.out, (cell_of_row _ _ _ _ _ _ HX0w.out).trans rfl, (cell_of_row _ _ _ _ _ _ HX0w.out).trans rfl, (cell_of_row _ _ _ _ _ _ HX0w.out).trans rfl, (cell_of_row _ _ _ _ _ _ HX0w.out).trans rfl, (cell_of_row _ _ _ _ _ _ HX0w.out).trans rfl, (cell_of_row _ _ _ _ _ _ HX0w.out).trans rfl, (cell_of_row _ _ _ _ _ _ HX0w.out).trans rfl, (cell_of_row _ _ _ _ _ _ HX0w.out).trans rfl, (cell_of_row _ _ _ _ _ _ HX0w.out).trans rfl, (cell_of_row _ _ _ _ _ _ HX0w.out).trans rfl, (cell_of_row _ _ _ _ _ _ HQc.out).trans rfl⟩ (by
                    rintro u u' hb ⟨hB, l0, l1, k0, k1, k2, k3, k4, k5, k6, k7, k8, k9, k10⟩
                    exact ⟨hB.trans (hb.mono hB.size), kl l0 hb, kl l1 hb, kc hb l0 k0, kc hb l0 k1, kc hb l0 k2, kc hb l0 k3, kc hb l0 k4, kc hb l0 k5, kc hb l0 k6, kc hb l0 k7, kc hb l0 k8, kc hb l0 k9, kc hb l1 k10⟩)
                  (try dsimp only at hkeep hS)
                  clear hcq
                  refine wp_region_held_drew (S := (fun w' => Below u.heap.size u w' ∧ w.heap.size < w'.heap.size ∧ q < w'.heap.size ∧ w'.cell? ⟨w.heap.size, 0, none⟩ = some (.int .i64 f.sets) ∧ w'.cell? ⟨w.heap.size, 1, none⟩ = some (.int .i64 f.games) ∧ w'.cell? ⟨w.heap.size, 2, none⟩ = some (.bool f.noAd) ∧ w'.cell? ⟨w.heap.size, 3, none⟩ = some (.int .i64 f.tie) ∧ w'.cell? ⟨w.heap.size, 4, none⟩ = some (.int .i64 f.to) ∧ w'.cell? ⟨w.heap.size, 5, none⟩ = some (.int .i64 f.lastTie) ∧ w'.cell? ⟨w.heap.size, 6, none⟩ = some (.int .i64 f.lastTo) ∧ w'.cell? ⟨w.heap.size, 7, none⟩ = some (.int .i64 f.first) ∧ w'.cell? ⟨w.heap.size, 8, none⟩ = some (.int .i64 f.next) ∧ w'.cell? ⟨w.heap.size, 9, none⟩ = some (.bool f.doubles) ∧ w'.cell? ⟨q, 0, none⟩ = some (.slice B m.sets.length d))) (by kernel_rfl) ?_ (fun hHeld0 => ?_)
                  · (try dsimp only); (first | (go_keep; done) | (go_split_ands; (repeat' apply And.intro) <;> first | (go_keep; done) | (simp [*, zcA, zcP, zfA, zfP]; done) | (simp [zcA, zcP] <;> rfl) | (simp [*, zsS, zsO, zsA]; done) | ((first | refine (hc _ _ ?_).trans ?_ | refine (hf _ _ ?_).trans ?_) <;> first | assumption | (simp; done) | (simp; omega) | omega | (go_keep; done) | (simp [*, zcA, zcP, zfA, zfP]; done) | (simp [zcA, zcP]; rfl)) | (repeat' first | exact zbR _ _ | assumption | refine zbD ?_ | refine zbA ?_ ?_ _ | refine zbS ?_ ?_ _ | refine zbT ?_ (by assumption) ?_ | (simp; done) | (simp; omega) | omega)))
                  refine tL (v := ?_) 0 rfl (by kernel_rfl) (fun _ _ _ h => h) (Or.inl ⟨by rfl, ?_⟩) (by assumption) ?_; rotate_left
                  · (intro w hSw; (try dsimp only at hSw); go_simp; try with_reducible rfl)
                  try simp only [Act.put, zl, z0, z1]
                  refine tL (v := ?_) 1 rfl (by kernel_rfl) (fun _ _ _ h => h) (Or.inl ⟨by rfl, ?_⟩) (by assumption) ?_; rotate_left
                  · (intro w hSw; (try dsimp only at hSw); go_simp; try with_reducible rfl)
                  try simp only [Act.put, zl, z0, z1]
                  refine tL (v := ?_) 2 rfl (by kernel_rfl) (fun _ _ _ h => h) (Or.inl ⟨by rfl, ?_⟩) (by assumption) ?_; rotate_left
                  · (intro w hSw; (try dsimp only at hSw); go_simp; try with_reducible rfl)
                  try simp only [Act.put, zl, z0, z1]
                  refine tL (v := ?_) 3 rfl (by kernel_rfl) (fun _ _ _ h => h) (Or.inl ⟨by rfl, ?_⟩) (by assumption) ?_; rotate_left
                  · (intro w hSw; (try dsimp only at hSw); go_simp; try with_reducible rfl)
                  try simp only [Act.put, zl, z0, z1]
                  refine tL (v := ?_) 4 rfl (by kernel_rfl) (fun _ _ _ h => h) (Or.inl ⟨by rfl, ?_⟩) (by assumption) ?_; rotate_left
                  · (intro w hSw; (try dsimp only at hSw); go_simp; try with_reducible rfl)
                  try simp only [Act.put, zl, z0, z1]
                  refine wpAnyH_ready (rs := [5]) (by kernel_rfl) (by simp) ?_
                  refine consL 5 rfl (fun K hK => ?_) AllReadyH.nil
                  go_simp
                  (go_at_call 31; refine (refWon_any B _ d m.sets _ rfl (((owns_RdP HSo.out rfl).below (zbD (zbR _ _))).mono (Nat.le_refl _)) (by have := HOKM.out.sets; omega)).mono ?_; rintro e w9 ⟨rfl, hb⟩; have hSn := hkeep _ _ hb (by assumption); (try clear hS); have hS := hSn; clear hSn)
                  refine hK.out _ _ ?_ (fun hHeld1 => ?_)
                  · (try dsimp only); exact hS
                  clear hK K hHeld0
                  try simp only [Act.put, zl, z0, z1]
                  refine wpAnyH_ready (rs := [6]) (by kernel_rfl) (by simp) ?_
                  refine consL 6 rfl (fun K hK => ?_) AllReadyH.nil
                  go_simp
                  (go_at_call 30; refine (refIsLast_any f (M.wonR M.zero m.sets) _ (by have := HV.out.s0; omega) (by have := HV.out.s1; omega)).mono ?_; rintro e w9 ⟨rfl, hb⟩; have hSn := hkeep _ _ hb (by assumption); (try clear hS); have hS := hSn; clear hSn)
                  refine hK.out _ _ ?_ (fun hHeld2 => ?_)
                  · (try dsimp only); exact hS
                  clear hK K hHeld1
                  try simp only [Act.put, zl, z0, z1]
                  refine wpAnyH_ready (rs := [7]) (by kernel_rfl) (by simp) ?_
                  refine consL 7 rfl (fun K hK => ?_) AllReadyH.nil
                  go_simp
                  (go_at_call 29; refine (refRule_any f (M.lastB f (M.wonR M.zero m.sets)) _).mono ?_; rintro e w9 ⟨rfl, hb⟩; have hSn := hkeep _ _ hb (by assumption); (try clear hS); have hS := hSn; clear hSn; rw [HTI.out])
                  refine hK.out _ _ ?_ (fun hHeld3 => ?_)
                  · (try dsimp only); exact hS
                  clear hK K hHeld2
                  try simp only [Act.put, zl, z0, z1]
                  refine tL (v := ?_) 8 rfl (by kernel_rfl) (fun _ _ _ h => h) (Or.inl ⟨by rfl, ?_⟩) (by assumption) ?_; rotate_left
                  · (intro w hSw; (try dsimp only at hSw); go_simp; try with_reducible rfl)
                  try simp only [Act.put, zl, z0, z1]
                  refine tL (v := ?_) 9 rfl (by kernel_rfl) (fun _ _ _ h => h) (Or.inl ⟨by rfl, ?_⟩) (by assumption) ?_; rotate_left
                  · (intro w hSw; (try dsimp only at hSw); go_simp; try with_reducible rfl)
                  try simp only [Act.put, zl, z0, z1]
                  refine tL (v := ?_) 10 rfl (by kernel_rfl) (fun _ _ _ h => h) (Or.inl ⟨by rfl, ?_⟩) (by assumption) ?_; rotate_left
                  · (intro w hSw; (try dsimp only at hSw); go_simp; try with_reducible rfl)
                  try simp only [Act.put, zl, z0, z1]
                  refine tL (v := ?_) 11 rfl (by kernel_rfl) (fun _ _ _ h => h) (Or.inl ⟨by rfl, ?_⟩) (by assumption) ?_; rotate_left
                  · (intro w hSw; (try dsimp only at hSw); go_simp; try with_reducible rfl)
                  try simp only [Act.put, zl, z0, z1]
                  refine tL (v := ?_) 12 rfl (by kernel_rfl) (fun _ _ _ h => h) (Or.inl ⟨by rfl, ?_⟩) (by assumption) ?_; rotate_left
                  · (intro w hSw; (try dsimp only at hSw); go_simp; try with_reducible rfl)
                  try simp only [Act.put, zl, z0, z1]
                  refine wpAnyH_done (by kernel_rfl) ?_ _
                  have hb := hS.1
                  replace HX0w := hide (blk_keep HX0w.out hb)
                  replace HX1w := hide (blk_keep HX1w.out hb)
                  replace HQc := hide (blk_keep HQc.out hb)
                  replace HOk := hide (owns_below HOk.out hb)
                  replace HBk := hide (HBk.out.trans (hb.mono HBk.out.size))
                  have hcq := fun i => cell_of_row w9 q i _ _ _ HQc.out
                  clear hb hS hkeep
                  have HNX : Hid (M.ServeSt f first xs (k + 1) r' last t') := hide (.inr ⟨k, rfl, by rw [HM.out]; exact HW.out, by rw [HM.out]; exact HROW.out, by rw [HM.out]; exact (HEQ.out.symm.trans HSP.out.symm), by rw [HM.out]; exact HTOT.out⟩)
                  have HLV2 : Hid ((lv + 1) ≤ k + 1 ∧ (zs ++ [sp]).length = (lv + 1)) := hide (by have h := HLV.out; constructor <;> simp <;> omega)
                  rcases HCASE.out with ⟨hT, ht0, hgb⟩ | ⟨hT, ht0⟩ | ⟨hT, ht0, hgb⟩
                  · as_aux_lemma =>
                      have hrT := hide (show r' = M.srow (M.rtied f m.sets m.games) (m.pts.A + m.pts.B) from HROW.out)
                      have hr2 : r' ≤ 2 ∧ (t' = 2 → r' = 1) := by
                        have h1 := hrT.out
                        have h2 : t' = m.pts.A + m.pts.B + 1 := HTOT.out
                        rw [hT] at h1
                        unfold M.srow at h1
                        rw [if_pos rfl] at h1
                        split at h1 <;> omega
                      clear hrT
                      obtain ⟨hr2a, hr2b⟩ := hr2
                      by_cases h2t : t' = 2
                      · have hr1 := hr2b h2t
                        have htb : (t' == 2) = true := by simp [h2t]
                        have hrb : (r' == 1) = true := by simp [hr1]
                        have hrn : (r' != 1) = false := by simp [hr1]
                        clear hT hr2b h2t hr1
                        go_wp2_with fail
                        go_roundw
                        case rel => first | exact ⟨k + 1, r', last, t', _, _, _, zs ++ [sp], by omega, rfl, rfl, rfl, rfl, by go_num, HLV2, HBk, HOk, HNX⟩ | ((repeat apply Exists.intro); exact ⟨⟨k + 1, r', last, t', _, _, _, zs ++ [sp], by omega, rfl, rfl, rfl, rfl, by go_num, HLV2, HBk, HOk, HNX⟩, rfl⟩)
                        case measure => simp [intOf]; omega
                      · have htb : (t' == 2) = false := by simp [h2t]
                        clear hT hr2b h2t
                        go_wp2_with fail
                        go_roundw
                        case rel => first | exact ⟨k + 1, r', last, t', _, _, _, zs ++ [sp], by omega, rfl, rfl, rfl, rfl, by go_num, HLV2, HBk, HOk, HNX⟩ | ((repeat apply Exists.intro); exact ⟨⟨k + 1, r', last, t', _, _, _, zs ++ [sp], by omega, rfl, rfl, rfl, rfl, by go_num, HLV2, HBk, HOk, HNX⟩, rfl⟩)
                        case measure => simp [intOf]; omega
                  · as_aux_lemma =>
                      have heqr : r' = t' := by
                        have h1 : r' = M.srow (M.rtied f m.sets m.games) (m.pts.A + m.pts.B) := HROW.out
                        have h2 : t' = m.pts.A + m.pts.B + 1 := HTOT.out
                        rw [hT] at h1
                        rw [h1, h2]
                        rfl
                      have herb : (r' == t') = true := by simp [heqr]
                      clear hT heqr
                      go_wp2_with fail
                      go_roundw
                      case rel => first | exact ⟨k + 1, r', last, t', _, _, _, zs ++ [sp], by omega, rfl, rfl, rfl, rfl, by go_num, HLV2, HBk, HOk, HNX⟩ | ((repeat apply Exists.intro); exact ⟨⟨k + 1, r', last, t', _, _, _, zs ++ [sp], by omega, rfl, rfl, rfl, rfl, by go_num, HLV2, HBk, HOk, HNX⟩, rfl⟩)
                      case measure => simp [intOf]; omega
                  · as_aux_lemma =>
                      have heqr : r' = t' := by
                        have h1 : r' = M.srow (M.rtied f m.sets m.games) (m.pts.A + m.pts.B) := HROW.out
                        have h2 : t' = m.pts.A + m.pts.B + 1 := HTOT.out
                        rw [hT] at h1
                        rw [h1, h2]
                        rfl
                      have herb : (r' == t') = true := by simp [heqr]
                      clear hT heqr
                      go_wp2_with fail
                      go_roundw
                      case rel => first | exact ⟨k + 1, r', last, t', _, _, _, zs ++ [sp], by omega, rfl, rfl, rfl, rfl, by go_num, HLV2, HBk, HOk, HNX⟩ | ((repeat apply Exists.intro); exact ⟨⟨k + 1, r', last, t', _, _, _, zs ++ [sp], by omega, rfl, rfl, rfl, rfl, by go_num, HLV2, HBk, HOk, HNX⟩, rfl⟩)
                      case measure => simp [intOf]; omega
                · as_aux_lemma =>
                  have heb : (sp == last) = false := by simp [heq]
                  rw [if_neg heq] at hrow
                  have HROW := hide hrow
                  clear hrow htot hb6 heq hz ht'
                  rename World => u
                  go_upto_region 29 with (first | (go_at_call 26; refine (sum_val _ _ _ _ rfl (by have h := HOKM.out.pts; omega)).mono ?_; rintro e v ⟨rfl, hb⟩; replace HX0w := hide (blk_keep HX0w.out hb); replace HX1w := hide (blk_keep HX1w.out hb); replace HQc := hide (blk_keep HQc.out hb); replace HSo := hide (owns_below HSo.out hb); replace HOk := hide (owns_below HOk.out hb); replace HBk := hide (HBk.out.trans (hb.mono HBk.out.size)); clear hcq; have hcq := fun i => cell_of_row v q i _ _ _ HQc.out; clear hb; rename World => u) | (refine wpList_app_at rfl (.tmp 130) (.tmp 134) rfl w4.heap.size (.slice Av lv cv) zs lv rfl (owns_below (HOk.out) (zbA (zbR u.heap.size u) (Nat.le_refl _) (.cells #[.int .i64 sp] 3 (0, 0)))) (some ⟨u.heap.size, 0, none⟩) 1 1 [sp] rfl rfl (rdI_one u sp) (fun e => by cases e) (by have := HLV.out; omega) (by omega) (by simp; have := HBk.out.size; omega) ?_; intro A' c' v hown hgrow; have hba := zbA (zbR u.heap.size u) (Nat.le_refl _) (.cells #[.int .i64 sp] 3 (0, 0)); have hw0 := owns_below (HOk.out) hba; have hlo := fun g hg => (hw0.lt g hg).1; have f0 := (hgrow.block w.heap.size (blk_lt (blk_keep HX0w.out hba)) (fun e => by have := hlo _ e.symm; omega)).trans (blk_keep HX0w.out hba); have f1 := (hgrow.block (w.heap.size + 1) (blk_lt (blk_keep HX1w.out hba)) (fun e => by have := hlo _ e.symm; omega)).trans (blk_keep HX1w.out hba); have f2 := (hgrow.block q (blk_lt (blk_keep HQc.out hba)) (Ne.symm (row_ne hw0 (blk_keep HQc.out hba) (by decide)))).trans (blk_keep HQc.out hba); have f3 := (owns_below HSo.out hba).kept hgrow (rows_ne (owns_below HSo.out hba) hw0 (by decide)); have f4 := (HBk.out.trans (hba.mono HBk.out.size)).grown hgrow (by simp; have := HBk.out.size; omega) hlo; replace HX0w := hide f0; replace HX1w := hide f1; replace HQc := hide f2; replace HSo := hide f3; replace HBk := hide f4; replace HOk := hide hown; clear f0 f1 f2 f3 f4 hown hgrow hba hw0 hlo hcq; have hcq := fun i => cell_of_row v q i _ _ _ HQc.out; rename World => u))
                  go_quiet (fail)
                  rename_i nq
                  have hb := below_drewN (zbR u.heap.size u) nq
                  replace HX0w := hide (blk_keep HX0w.out hb)
                  replace HX1w := hide (blk_keep HX1w.out hb)
                  replace HQc := hide (blk_keep HQc.out hb)
                  replace HSo := hide (owns_below HSo.out hb)
                  replace HOk := hide (owns_below HOk.out hb)
                  replace HBk := hide (HBk.out.trans (hb.mono HBk.out.size))
                  clear hcq hb
                  generalize u.drewN nq = v at *
                  rename World => u
                  have hcq := fun i => cell_of_row u q i _ _ _ HQc.out
                  go_upto_region 30 with fail
                  obtain ⟨hkeep, hS⟩ := keep_of (S := (fun w' => Below u.heap.size u w' ∧ w.heap.size < w'.heap.size ∧ q < w'.heap.size ∧ w'.cell? ⟨w.heap.size, 0, none⟩ = some (.int .i64 f.sets) ∧ w'.cell? ⟨w.heap.size, 1, none⟩ = some (.int .i64 f.games) ∧ w'.cell? ⟨w.heap.size, 2, none⟩ = some (.bool f.noAd) ∧ w'.cell? ⟨w.heap.size, 3, none⟩ = some (.int .i64 f.tie) ∧ w'.cell? ⟨w.heap.size, 4, none⟩ = some (.int .i64 f.to) ∧ w'.cell? ⟨w.heap.size, 5, none⟩ = some (.int .i64 f.lastTie) ∧ w'.cell? ⟨w.heap.size, 6, none⟩ = some (.int .i64 f.lastTo) ∧ w'.cell? ⟨w.heap.size, 7, none⟩ = some (.int .i64 f.first) ∧ w'.cell? ⟨w.heap.size, 8, none⟩ = some (.int .i64 f.next) ∧ w'.cell? ⟨w.heap.size, 9, none⟩ = some (.bool f.doubles) ∧ w'.cell? ⟨q, 0, none⟩ = some (.slice B m.sets.length d))) u ⟨zbR _ _, blk_lt HX0w.out, blk_lt HQc.out, (cell_of_row _ _ _ _ _ _ HX0w.out).trans rfl, (cell_of_row _ _ _ _ _ _ HX0w.out).trans rfl, (cell_of_row _ _ _ _ _ _ HX0w.out).trans rfl, (cell_of_row _ _ _ _ _ _ HX0w.out).trans rfl, (cell_of_row _ _ _ _ _ _ HX0w.out).trans rfl, (cell_of_row _ _ _ _ _ _ HX0w.out).trans rfl, (cell_of_row _ _ _ _ _ _ HX0w.out).trans rfl, (cell_of_row _ _ _ _ _ _ HX0w.out).trans rfl, (cell_of_row _ _ _ _ _ _ HX0w.out).trans rfl, (cell_of_row _ _ _ _ _ _ HX0w.out).trans rfl, (cell_of_row _ _ _ _ _ _ HQc.out).trans rfl⟩ (by
                    rintro u u' hb ⟨hB, l0, l1, k0, k1, k2, k3, k4, k5, k6, k7, k8, k9, k10⟩
                    exact ⟨hB.trans (hb.mono hB.size), kl l0 hb, kl l1 hb, kc hb l0 k0, kc hb l0 k1, kc hb l0 k2, kc hb l0 k3, kc hb l0 k4, kc hb l0 k5, kc hb l0 k6, kc hb l0 k7, kc hb l0 k8, kc hb l0 k9, kc hb l1 k10⟩)
                  (try dsimp only at hkeep hS)
                  clear hcq
                  refine wp_region_held_drew (S := (fun w' => Below u.heap.size u w' ∧ w.heap.size < w'.heap.size ∧ q < w'.heap.size ∧ w'.cell? ⟨w.heap.size, 0, none⟩ = some (.int .i64 f.sets) ∧ w'.cell? ⟨w.heap.size, 1, none⟩ = some (.int .i64 f.games) ∧ w'.cell? ⟨w.heap.size, 2, none⟩ = some (.bool f.noAd) ∧ w'.cell? ⟨w.heap.size, 3, none⟩ = some (.int .i64 f.tie) ∧ w'.cell? ⟨w.heap.size, 4, none⟩ = some (.int .i64 f.to) ∧ w'.cell? ⟨w.heap.size, 5, none⟩ = some (.int .i64 f.lastTie) ∧ w'.cell? ⟨w.heap.size, 6, none⟩ = some (.int .i64 f.lastTo) ∧ w'.cell? ⟨w.heap.size, 7, none⟩ = some (.int .i64 f.first) ∧ w'.cell? ⟨w.heap.size, 8, none⟩ = some (.int .i64 f.next) ∧ w'.cell? ⟨w.heap.size, 9, none⟩ = some (.bool f.doubles) ∧ w'.cell? ⟨q, 0, none⟩ = some (.slice B m.sets.length d))) (by kernel_rfl) ?_ (fun hHeld0 => ?_)
                  · (try dsimp only); (first | (go_keep; done) | (go_split_ands; (repeat' apply And.intro) <;> first | (go_keep; done) | (simp [*, zcA, zcP, zfA, zfP]; done) | (simp [zcA, zcP] <;> rfl) | (simp [*, zsS, zsO, zsA]; done) | ((first | refine (hc _ _ ?_).trans ?_ | refine (hf _ _ ?_).trans ?_) <;> first | assumption | (simp; done) | (simp; omega) | omega | (go_keep; done) | (simp [*, zcA, zcP, zfA, zfP]; done) | (simp [zcA, zcP]; rfl)) | (repeat' first | exact zbR _ _ | assumption | refine zbD ?_ | refine zbA ?_ ?_ _ | refine zbS ?_ ?_ _ | refine zbT ?_ (by assumption) ?_ | (simp; done) | (simp; omega) | omega)))
                  refine tL (v := ?_) 0 rfl (by kernel_rfl) (fun _ _ _ h => h) (Or.inl ⟨by rfl, ?_⟩) (by assumption) ?_; rotate_left
                  · (intro w hSw; (try dsimp only at hSw); go_simp; try with_reducible rfl)
                  try simp only [Act.put, zl, z0, z1]
                  refine tL (v := ?_) 1 rfl (by kernel_rfl) (fun _ _ _ h => h) (Or.inl ⟨by rfl, ?_⟩) (by assumption) ?_; rotate_left
                  · (intro w hSw; (try dsimp only at hSw); go_simp; try with_reducible rfl)
                  try simp only [Act.put, zl, z0, z1]
                  refine tL (v := ?_) 2 rfl (by kernel_rfl) (fun _ _ _ h => h) (Or.inl ⟨by rfl, ?_⟩) (by assumption) ?_; rotate_left
                  · (intro w hSw; (try dsimp only at hSw); go_simp; try with_reducible rfl)
                  try simp only [Act.put, zl, z0, z1]
                  refine tL (v := ?_) 3 rfl (by kernel_rfl) (fun _ _ _ h => h) (Or.inl ⟨by rfl, ?_⟩) (by assumption) ?_; rotate_left
                  · (intro w hSw; (try dsimp only at hSw); go_simp; try with_reducible rfl)
                  try simp only [Act.put, zl, z0, z1]
                  refine tL (v := ?_) 4 rfl (by kernel_rfl) (fun _ _ _ h => h) (Or.inl ⟨by rfl, ?_⟩) (by assumption) ?_; rotate_left
                  · (intro w hSw; (try dsimp only at hSw); go_simp; try with_reducible rfl)
                  try simp only [Act.put, zl, z0, z1]
                  refine wpAnyH_ready (rs := [5]) (by kernel_rfl) (by simp) ?_
                  refine consL 5 rfl (fun K hK => ?_) AllReadyH.nil
                  go_simp
                  (go_at_call 31; refine (refWon_any B _ d m.sets _ rfl (((owns_RdP HSo.out rfl).below (zbD (zbR _ _))).mono (Nat.le_refl _)) (by have := HOKM.out.sets; omega)).mono ?_; rintro e w9 ⟨rfl, hb⟩; have hSn := hkeep _ _ hb (by assumption); (try clear hS); have hS := hSn; clear hSn)
                  refine hK.out _ _ ?_ (fun hHeld1 => ?_)
                  · (try dsimp only); exact hS
                  clear hK K hHeld0
                  try simp only [Act.put, zl, z0, z1]
                  refine wpAnyH_ready (rs := [6]) (by kernel_rfl) (by simp) ?_
                  refine consL 6 rfl (fun K hK => ?_) AllReadyH.nil
                  go_simp
                  (go_at_call 30; refine (refIsLast_any f (M.wonR M.zero m.sets) _ (by have := HV.out.s0; omega) (by have := HV.out.s1; omega)).mono ?_; rintro e w9 ⟨rfl, hb⟩; have hSn := hkeep _ _ hb (by assumption); (try clear hS); have hS := hSn; clear hSn)
                  refine hK.out _ _ ?_ (fun hHeld2 => ?_)
                  · (try dsimp only); exact hS
                  clear hK K hHeld1
                  try simp only [Act.put, zl, z0, z1]
                  refine wpAnyH_ready (rs := [7]) (by kernel_rfl) (by simp) ?_
                  refine consL 7 rfl (fun K hK => ?_) AllReadyH.nil
                  go_simp
                  (go_at_call 29; refine (refRule_any f (M.lastB f (M.wonR M.zero m.sets)) _).mono ?_; rintro e w9 ⟨rfl, hb⟩; have hSn := hkeep _ _ hb (by assumption); (try clear hS); have hS := hSn; clear hSn; rw [HTI.out])
                  refine hK.out _ _ ?_ (fun hHeld3 => ?_)
                  · (try dsimp only); exact hS
                  clear hK K hHeld2
                  try simp only [Act.put, zl, z0, z1]
                  refine tL (v := ?_) 8 rfl (by kernel_rfl) (fun _ _ _ h => h) (Or.inl ⟨by rfl, ?_⟩) (by assumption) ?_; rotate_left
                  · (intro w hSw; (try dsimp only at hSw); go_simp; try with_reducible rfl)
                  try simp only [Act.put, zl, z0, z1]
                  refine tL (v := ?_) 9 rfl (by kernel_rfl) (fun _ _ _ h => h) (Or.inl ⟨by rfl, ?_⟩) (by assumption) ?_; rotate_left
                  · (intro w hSw; (try dsimp only at hSw); go_simp; try with_reducible rfl)
                  try simp only [Act.put, zl, z0, z1]
                  refine tL (v := ?_) 10 rfl (by kernel_rfl) (fun _ _ _ h => h) (Or.inl ⟨by rfl, ?_⟩) (by assumption) ?_; rotate_left
                  · (intro w hSw; (try dsimp only at hSw); go_simp; try with_reducible rfl)
                  try simp only [Act.put, zl, z0, z1]
                  refine tL (v := ?_) 11 rfl (by kernel_rfl) (fun _ _ _ h => h) (Or.inl ⟨by rfl, ?_⟩) (by assumption) ?_; rotate_left
                  · (intro w hSw; (try dsimp only at hSw); go_simp; try with_reducible rfl)
                  try simp only [Act.put, zl, z0, z1]
                  refine tL (v := ?_) 12 rfl (by kernel_rfl) (fun _ _ _ h => h) (Or.inl ⟨by rfl, ?_⟩) (by assumption) ?_; rotate_left
                  · (intro w hSw; (try dsimp only at hSw); go_simp; try with_reducible rfl)
                  try simp only [Act.put, zl, z0, z1]
                  refine wpAnyH_done (by kernel_rfl) ?_ _
                  have hb := hS.1
                  replace HX0w := hide (blk_keep HX0w.out hb)
                  replace HX1w := hide (blk_keep HX1w.out hb)
                  replace HQc := hide (blk_keep HQc.out hb)
                  replace HOk := hide (owns_below HOk.out hb)
                  replace HBk := hide (HBk.out.trans (hb.mono HBk.out.size))
                  have hcq := fun i => cell_of_row w9 q i _ _ _ HQc.out
                  clear hb hS hkeep
                  have HNX : Hid (M.ServeSt f first xs (k + 1) 1 sp t') := hide (.inr ⟨k, rfl, by rw [HM.out]; exact HW.out, by rw [HM.out]; exact HROW.out, by rw [HM.out]; exact HSP.out.symm, by rw [HM.out]; exact HTOT.out⟩)
                  have HLV2 : Hid ((lv + 1) ≤ k + 1 ∧ (zs ++ [sp]).length = (lv + 1)) := hide (by have h := HLV.out; constructor <;> simp <;> omega)
                  rcases HCASE.out with ⟨hT, ht0, hgb⟩ | ⟨hT, ht0⟩ | ⟨hT, ht0, hgb⟩
                  · as_aux_lemma =>
                      have hrT := hide (show 1 = M.srow (M.rtied f m.sets m.games) (m.pts.A + m.pts.B) from HROW.out)
                      have hr2 : 1 ≤ 2 ∧ (t' = 2 → 1 = 1) := by
                        have h1 := hrT.out
                        have h2 : t' = m.pts.A + m.pts.B + 1 := HTOT.out
                        rw [hT] at h1
                        unfold M.srow at h1
                        rw [if_pos rfl] at h1
                        split at h1 <;> omega
                      clear hrT
                      obtain ⟨hr2a, hr2b⟩ := hr2
                      by_cases h2t : t' = 2
                      · have hr1 := hr2b h2t
                        have htb : (t' == 2) = true := by simp [h2t]
                        have hrb : (1 == 1) = true := by simp [hr1]
                        have hrn : (1 != 1) = false := by simp [hr1]
                        clear hT hr2b h2t hr1
                        go_wp2_with fail
                        go_roundw
                        case rel => first | exact ⟨k + 1, 1, sp, t', _, _, _, zs ++ [sp], by omega, rfl, rfl, rfl, rfl, by go_num, HLV2, HBk, HOk, HNX⟩ | ((repeat apply Exists.intro); exact ⟨⟨k + 1, 1, sp, t', _, _, _, zs ++ [sp], by omega, rfl, rfl, rfl, rfl, by go_num, HLV2, HBk, HOk, HNX⟩, rfl⟩)
                        case measure => simp [intOf]; omega
                      · have htb : (t' == 2) = false := by simp [h2t]
                        clear hT hr2b h2t
                        go_wp2_with fail
                        go_roundw
                        case rel => first | exact ⟨k + 1, 1, sp, t', _, _, _, zs ++ [sp], by omega, rfl, rfl, rfl, rfl, by go_num, HLV2, HBk, HOk, HNX⟩ | ((repeat apply Exists.intro); exact ⟨⟨k + 1, 1, sp, t', _, _, _, zs ++ [sp], by omega, rfl, rfl, rfl, rfl, by go_num, HLV2, HBk, HOk, HNX⟩, rfl⟩)
                        case measure => simp [intOf]; omega
                  · as_aux_lemma =>
                      have heqr : 1 = t' := by
                        have h1 : 1 = M.srow (M.rtied f m.sets m.games) (m.pts.A + m.pts.B) := HROW.out
                        have h2 : t' = m.pts.A + m.pts.B + 1 := HTOT.out
                        rw [hT] at h1
                        rw [h1, h2]
                        rfl
                      have herb : (1 == t') = true := by simp [heqr]
                      clear hT heqr
                      go_wp2_with fail
                      go_roundw
                      case rel => first | exact ⟨k + 1, 1, sp, t', _, _, _, zs ++ [sp], by omega, rfl, rfl, rfl, rfl, by go_num, HLV2, HBk, HOk, HNX⟩ | ((repeat apply Exists.intro); exact ⟨⟨k + 1, 1, sp, t', _, _, _, zs ++ [sp], by omega, rfl, rfl, rfl, rfl, by go_num, HLV2, HBk, HOk, HNX⟩, rfl⟩)
                      case measure => simp [intOf]; omega
                  · as_aux_lemma =>
                      have heqr : 1 = t' := by
                        have h1 : 1 = M.srow (M.rtied f m.sets m.games) (m.pts.A + m.pts.B) := HROW.out
                        have h2 : t' = m.pts.A + m.pts.B + 1 := HTOT.out
                        rw [hT] at h1
                        rw [h1, h2]
                        rfl
                      have herb : (1 == t') = true := by simp [heqr]
                      clear hT heqr
                      go_wp2_with fail
                      go_roundw
                      case rel => first | exact ⟨k + 1, 1, sp, t', _, _, _, zs ++ [sp], by omega, rfl, rfl, rfl, rfl, by go_num, HLV2, HBk, HOk, HNX⟩ | ((repeat apply Exists.intro); exact ⟨⟨k + 1, 1, sp, t', _, _, _, zs ++ [sp], by omega, rfl, rfl, rfl, rfl, by go_num, HLV2, HBk, HOk, HNX⟩, rfl⟩)
                      case measure => simp [intOf]; omega
            · have hsr := HSR.out
              have hw0 : (0 : Int) ≤ m.winner := by omega
              clear hw hsr
              go_wp2_with (first | (go_at_call 10; refine (works_any _).mono ?_; rintro e w20 ⟨rfl, hb20⟩))
              go_ret
              have hBB := HB.out.trans (HBk.out.mono HB.out.size)
              exact ⟨rfl, hBB.trans (hb20.mono hBB.size)⟩
        · have hkn : n + 1 = k := by omega
          subst hkn
          have HBB := hide (HB.out.trans (HBk.out.mono HB.out.size))
          clear hlt hk HSk HLV HOk
          go_wp2_with (first | (go_at_call 10; refine (works_any _).mono ?_; rintro e w20 ⟨rfl, hb20⟩))
          go_ret
          exact ⟨rfl, HBB.out.trans (hb20.mono HBB.out.size)⟩

end Go.Proofs.Ytbjmnlhehkcakaa

namespace Go.Proofs.Ytbjmnlhehkcakaa
open Go.RowKit

theorem servesLaw_any (f : M.Fm) (first : Int) (A : Option Addr) (n c : Nat) (xs : List Int) (w : World) (hn : xs.length = n) (hr : RdI w w.heap.size A xs) (hnc : n ≤ c) (hcm : c ≤ maxLen) :
    Calls Try.prog 7 #[.agg #[.int .i64 f.sets, .int .i64 f.games, .bool f.noAd, .int .i64 f.tie, .int .i64 f.to, .int .i64 f.lastTie, .int .i64 f.lastTo, .int .i64 f.first, .int .i64 f.next, .bool f.doubles], .agg #[.int .i64 first, .slice A n c]] w fun e w' => e = .returned (.bool true) ∧ Below w.heap.size w w' := by
  by_cases hm : n ≤ 150
  · cases h : (M.playE f first xs == 0)
    · exact servesLaw_not f first A n c xs w hn hr hm h
    · exact servesLaw_ok f first A n c xs w hn hr hnc hcm hm (by simpa using h)
  · exact servesLaw_long f first A n c w (by omega)

end Go.Proofs.Ytbjmnlhehkcakaa

namespace Go.Proofs.Ytbjmnlhehkcakaa
open Go.ChangeShapes Go.WideShapes Go.ChangeAt Go.RowKit Go.Deep Go.Joins

theorem Try.ownScoreServes : ownKnob Try.prog.godebug = none := by kernel_rfl

set_option maxRecDepth 100000 in
theorem scoreServes_call (H : Type) (enc : TypeId × Value → H) (W : World) (base : Nat) (args : Array Value) (ds : List (DataW H)) (p : List MemPlace) (hval : ∀ (j : Nat) t v, Try.f7.params[j]? = some t → args[j]? = some v → Value.okWide Try.prog W .any base t v)
    (hA : DataW.TrodAll enc Try.prog W 0 (fun _ => true) true Try.f7.params.toList args.toList ds p) : Calls Try.prog 7 args W fun e W' => e = .returned (.bool true) ∧ Below W.heap.size W W' := by
  rw [Try.params7] at hA hval
  obtain ⟨v0, v1, d0, d1, p0, p1, rfl, rfl, rfl, h0, h1⟩ := trodAll_two hA
  obtain ⟨f, rfl⟩ := open_fmt (hval 0 23 v0 rfl rfl) h0
  obtain ⟨first, A, n, c, xs, rfl, hwf, hnc, hcm, hn, hr, hxw, hA0⟩ := open_points (hval 1 26 v1 rfl rfl) h1
  exact servesLaw_any f first A n c xs W hn hr hnc hcm

set_option maxRecDepth 100000 in
theorem ScoreServes_holds : Rows.ScoreServesSaid :=
  OpenClaim.holds_of_wide (p := Try.pinned) (s := Rows.scoreServesSpec) (c := Rows.scoreServesRow) 7 Try.f7 rfl rfl rfl rfl rfl rfl rfl ⟨rfl, rfl, rfl, rfl, rfl⟩ rfl rfl rfl rfl rfl (by kernel_rfl) Try.func7 (by kernel_rfl)
    (of_decide_eq_true (by kernel_rfl)) (by unfold Func.isWrapper; first | (rw [if_pos (by decide +kernel)]; kernel_rfl) | (rw [if_neg (by decide +kernel)]; exact ⟨rfl, rfl⟩))
    (fun os started H enc _ => law_lift (C := Try.checked) (F := 7) (fn := Try.f7) (s := Rows.scoreServesSpec) (bt := 4) started Try.ownScoreServes (by kernel_rfl) Try.func7 (by kernel_rfl) Try.underlying4 rfl laidOut (of_decide_eq_true (by kernel_rfl))
      (fun ds hds => match ds, hds with | [_, _], _ => rfl)
      (ChangeSpec.witness6 (enc := enc) (C := Try.checked) false ⟨#[], #[.agg #[.int .i64 0, .int .i64 0, .bool false, .int .i64 0, .int .i64 0, .int .i64 0, .int .i64 0, .int .i64 0, .int .i64 0, .bool false], .agg #[.int .i64 0, .slice none 0 0]], []⟩ 8 (by kernel_rfl) (by kernel_rfl) (by kernel_rfl) (by kernel_rfl))
      (fun W base args ds p hval hA _ => scoreServes_call H enc W base args ds p hval hA) _ _ _)

end Go.Proofs.Ytbjmnlhehkcakaa
