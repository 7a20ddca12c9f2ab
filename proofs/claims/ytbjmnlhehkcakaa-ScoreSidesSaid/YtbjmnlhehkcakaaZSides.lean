/-
  For every format, every first server and every slice of points the law ScoreSides returns true and leaves its arguments as they were. No condition.
-/
import Derived.Test.YtbjmnlhehkcakaaZB04
import Derived.Test.YtbjmnlhehkcakaaZB11
import Derived.Test.YtbjmnlhehkcakaaZB12
import Derived.Test.YtbjmnlhehkcakaaZB15
namespace Go.Proofs.Ytbjmnlhehkcakaa
open Go.RowKit
namespace M

def mirG (g : Gm) : Gm := { g with server := turned g.server, winner := 1 - g.winner, pts := swap g.pts }
def mir (m : Mt) : Mt := { m with sets := m.sets.map swap, games := swap m.games, pts := swap m.pts, server := turned m.server, winner := turned m.winner, opens := 1 - m.opens, won := swap m.won, log := m.log.map mirG }

theorem plus_mir {s : Int} (hs : s = 0 ∨ s = 1) (p : Pr) : plus (swap p) (1 - s) = swap (plus p s) := by
  rcases hs with rfl | rfl <;> rfl
theorem of_mir {s : Int} (hs : s = 0 ∨ s = 1) (p : Pr) : of (swap p) (1 - s) = of p s ∧ of (swap p) (1 - (1 - s)) = of p (1 - s) := by
  rcases hs with rfl | rfl <;> exact ⟨rfl, rfl⟩
theorem isTie_mir (s : Fm) (g : Pr) : isTie s (swap g) = isTie s g := Bool.and_comm _ _
theorem lastB_mir (f : Fm) (won : Pr) : lastB f (swap won) = lastB f won := Bool.and_comm _ _
theorem ofSet_mir (f : Fm) (won : Pr) : ofSet f (swap won) = ofSet f won := by unfold ofSet; rw [lastB_mir]
theorem near_mir (g : Pr) : near (swap g) = near g := by
  rw [Bool.eq_iff_iff, nearOf, nearOf]
  show -2 < g.B - g.A ∧ g.B - g.A < 2 ↔ _
  omega
theorem endsGame_mir {s : Int} (hs : s = 0 ∨ s = 1) (f : Fm) (tie : Bool) (p : Pr) : endsGame f tie (swap p) (1 - s) = endsGame f tie p s := by
  unfold endsGame
  rw [(of_mir hs p).1, (of_mir hs p).2]
theorem endsSet_mir {s : Int} (hs : s = 0 ∨ s = 1) (f : Fm) (g : Pr) : endsSet f (swap g) (1 - s) = endsSet f g s := by
  unfold endsSet
  rw [isTie_mir, plus_mir hs, (of_mir hs _).1, near_mir]
theorem winner_mir {f : Fm} {won : Pr} (h : ¬ (won.A = f.sets ∧ won.B = f.sets)) : winner f (swap won) = turned (winner f won) := by
  by_cases h1 : won.A = f.sets
  · have h2 : ¬ won.B = f.sets := fun hc => h ⟨h1, hc⟩
    exact ((if_neg h2).trans (if_pos h1)).trans (by rw [show winner f won = 0 from if_pos h1]; rfl)
  · by_cases h2 : won.B = f.sets
    · exact (if_pos h2).trans (by rw [show winner f won = 1 from (if_neg h1).trans (if_pos h2)]; rfl)
    · exact ((if_neg h2).trans (if_neg h1)).trans (by rw [winner_none h1 h2]; rfl)
theorem serverOf_mir {o : Int} (dbl : Bool) (g t : Int) : serverOf (1 - o) dbl g t = turned (serverOf o dbl g t) := by
  unfold serverOf turned
  split
  · rw [if_neg (by omega)]; omega
  · rw [if_neg (by omega)]; omega
theorem tieAt_mir (l : List Gm) (k : Nat) : tieAt (l.map mirG) k = tieAt l k := by
  unfold tieAt
  rw [List.getElem?_map]
  cases l[k]? <;> rfl
theorem changesB_mir (m : Mt) : changesB (mir m) = changesB m := by
  show ((decide (2 ≤ (m.log.map mirG).length) && tieAt (m.log.map mirG) ((m.log.map mirG).length - 2) && dueB m.f.first m.f.next (((m.log.map mirG).length : Int) - 2)) ||
    (dueB m.f.first m.f.next (m.log.map mirG).length && !isTie (ofSet m.f (swap m.won)) (swap m.games))) = _
  rw [List.length_map, tieAt_mir, ofSet_mir, isTie_mir]; rfl
theorem begin_mir (m : Mt) : M.begin (mir m) = mir (M.begin m) := by
  show ({ mir m with server := serverOf (1 - m.opens) m.f.doubles (m.log.map mirG).length 0, fresh := changesB (mir m), balls := if changesB (mir m) then m.balls + 1 else m.balls } : Mt) = _
  rw [changesB_mir, serverOf_mir, List.length_map]; rfl
theorem gameOf_mir {s : Int} (m : Mt) : gameOf (mir m) (1 - s) = mirG (gameOf m s) := by
  show ({ set := (m.sets.map swap).length, tie := isTie (ofSet m.f (swap m.won)) (swap m.games), server := serverOf (1 - m.opens) m.f.doubles (m.log.map mirG).length 0, winner := 1 - s, pts := swap m.pts, fresh := m.fresh } : Gm) = _
  rw [serverOf_mir, List.length_map, List.length_map, ofSet_mir, isTie_mir]; rfl
theorem endSet_mir {s : Int} (hs : s = 0 ∨ s = 1) (m : Mt) : endSet (mir m) (1 - s) = mir (endSet m s) := by
  have e : endsSet (ofSet (mir m).f (mir m).won) (mir m).games (1 - s) = endsSet (ofSet m.f m.won) m.games s := by
    show endsSet (ofSet m.f (swap m.won)) (swap m.games) (1 - s) = _
    rw [ofSet_mir, endsSet_mir hs]
  cases hE : endsSet (ofSet m.f m.won) m.games s
  · have e1 : endSet m s = { m with log := m.log ++ [gameOf m s], games := plus m.games s, pts := zero } := if_neg (by rw [hE]; decide)
    have e2 : endSet (mir m) (1 - s) = { mir m with log := (mir m).log ++ [gameOf (mir m) (1 - s)], games := plus (mir m).games (1 - s), pts := zero } := if_neg (by rw [e, hE]; decide)
    rw [e1, e2, gameOf_mir]
    show ({ mir m with log := m.log.map mirG ++ [mirG (gameOf m s)], games := plus (swap m.games) (1 - s), pts := zero } : Mt) = { mir m with log := (m.log ++ [gameOf m s]).map mirG, games := swap (plus m.games s), pts := swap zero }
    rw [plus_mir hs, List.map_append]; rfl
  · have e1 : endSet m s = { m with log := m.log ++ [gameOf m s], sets := m.sets ++ [plus m.games s], games := zero, pts := zero, won := plus m.won s } := if_pos hE
    have e2 : endSet (mir m) (1 - s) = { mir m with log := (mir m).log ++ [gameOf (mir m) (1 - s)], sets := (mir m).sets ++ [plus (mir m).games (1 - s)], games := zero, pts := zero, won := plus (mir m).won (1 - s) } := if_pos (by rw [e, hE])
    rw [e1, e2, gameOf_mir]
    show ({ mir m with log := m.log.map mirG ++ [mirG (gameOf m s)], sets := m.sets.map swap ++ [plus (swap m.games) (1 - s)], games := zero, pts := zero, won := plus (swap m.won) (1 - s) } : Mt) = { mir m with log := (m.log ++ [gameOf m s]).map mirG, sets := (m.sets ++ [plus m.games s]).map swap, games := swap zero, pts := swap zero, won := swap (plus m.won s) }
    rw [plus_mir hs, plus_mir hs, List.map_append, List.map_append]; rfl
theorem endSet_f (m : Mt) (s : Int) : (endSet m s).f = m.f := by unfold endSet; split <;> rfl
theorem endGame_mir {s : Int} (hs : s = 0 ∨ s = 1) (m : Mt) (hw : winner m.f m.won = -1) : endGame (mir m) (1 - s) = mir (endGame m s) := by
  have hb : ¬ ((endSet m s).won.A = m.f.sets ∧ (endSet m s).won.B = m.f.sets) := by
    obtain ⟨h1, h2⟩ := winner_open hw
    unfold endSet
    split
    · rcases hs with rfl | rfl
      · exact fun hc => h2 hc.2
      · exact fun hc => h1 hc.1
    · exact fun hc => h1 hc.1
  have hwi : winner (mir m).f (endSet (mir m) (1 - s)).won = turned (winner m.f (endSet m s).won) := by
    rw [endSet_mir hs]
    exact winner_mir hb
  have hgs : (plus (mir m).games (1 - s)).A + (plus (mir m).games (1 - s)).B = (plus m.games s).A + (plus m.games s).B := by
    show (plus (swap m.games) (1 - s)).A + (plus (swap m.games) (1 - s)).B = _
    rw [plus_mir hs]
    show (plus m.games s).B + (plus m.games s).A = _
    omega
  unfold endGame
  dsimp only
  rw [hwi, hgs, endSet_mir hs]
  rcases winner_cases m.f (endSet m s).won with h0 | h0 | h0
  · rw [h0, if_pos (by decide), if_pos (by decide)]; rfl
  · rw [h0, if_pos (by decide), if_pos (by decide)]; rfl
  · rw [h0, if_neg (show ¬ turned (-1) ≠ -1 by decide), if_neg (show ¬ ((-1 : Int) ≠ -1) by decide), ← begin_mir]
    split <;> rfl
theorem point_mir {s : Int} (hs : s = 0 ∨ s = 1) (m : Mt) (hw : winner m.f m.won = -1) : point (mir m) (1 - s) = mir (point m s) := by
  have hp : plus (mir m).pts (1 - s) = swap (plus m.pts s) := plus_mir hs m.pts
  have hT2 : isTie (ofSet (mir m).f (mir m).won) (mir m).games = isTie (ofSet m.f m.won) m.games := by
    show isTie (ofSet m.f (swap m.won)) (swap m.games) = _
    rw [ofSet_mir, isTie_mir]
  have he2 : endsGame (ofSet (mir m).f (mir m).won) (isTie (ofSet (mir m).f (mir m).won) (mir m).games) (plus (mir m).pts (1 - s)) (1 - s) = endsGame (ofSet m.f m.won) (isTie (ofSet m.f m.won) m.games) (plus m.pts s) s := by
    rw [hT2, hp, endsGame_mir hs]
    show endsGame (ofSet m.f (swap m.won)) _ _ _ = _
    rw [ofSet_mir]
  cases he : endsGame (ofSet m.f m.won) (isTie (ofSet m.f m.won) m.games) (plus m.pts s) s
  · cases hT : isTie (ofSet m.f m.won) m.games
    · rw [point_not he hT, point_not (he2.trans he) (hT2.trans hT), hp]; rfl
    · rw [point_tie he hT, point_tie (he2.trans he) (hT2.trans hT), hp]
      have h6 : (swap (plus m.pts s)).A + (swap (plus m.pts s)).B = (plus m.pts s).A + (plus m.pts s).B := Int.add_comm _ _
      rw [h6]
      show ({ mir m with pts := swap (plus m.pts s), ends := _, server := serverOf (1 - m.opens) m.f.doubles (m.log.map mirG).length _ } : Mt) = _
      rw [serverOf_mir, List.length_map]; rfl
  · rw [point_end he, point_end (he2.trans he), hp]
    exact endGame_mir hs { m with pts := plus m.pts s } hw
theorem start_mir {f : Fm} {first : Int} (hf : first = 0 ∨ first = 1) : mir (start f first) = start f (1 - first) := by
  rcases hf with rfl | rfl <;> rfl
theorem playF_mir : ∀ (xs : List Int) (m : Mt), Inv m → playF (mir m) (xs.map (1 - ·)) = (playF m xs).map mir
  | [], _, _ => rfl
  | p :: r, m, h => by
    rw [List.map_cons, playF_cons, playF_cons]
    by_cases hc : (p ≠ 0 ∧ p ≠ 1) ∨ m.winner ≠ -1
    · rw [if_pos hc, if_pos (hc.imp (by omega) (fun hne => by
        show turned m.winner ≠ -1
        rcases winner_of h with e | e | e
        · rw [e]; decide
        · rw [e]; decide
        · exact absurd e hne))]
      rfl
    · have hn : m.winner = -1 := by omega
      have hs : p = 0 ∨ p = 1 := by omega
      rw [if_neg hc, if_neg (by
        rintro (h1 | h1)
        · omega
        · exact h1 (by show turned m.winner = -1; rw [hn]; rfl))]
      rw [point_mir hs m (by rw [← h.win]; exact hn)]
      exact playF_mir r _ (rpoint_st h hn hs).2
theorem playM_mir {f : Fm} {first : Int} {xs : List Int} (h : playE f first xs = 0) : playE f (1 - first) (xs.map (1 - ·)) = 0 ∧ playM f (1 - first) (xs.map (1 - ·)) = mir (playM f first xs) := by
  obtain ⟨hv, hf, hl, hp⟩ := playE_ok h
  have hf2 : first = 0 ∨ first = 1 := by simp [within] at hf; omega
  have hf3 : within (1 - first) 0 1 = true := by rcases hf2 with rfl | rfl <;> rfl
  have hq := playF_mir xs _ (start_inv ((validB_iff f).1 hv) (by omega : 0 ≤ first ∧ first ≤ 1))
  rw [hp, start_mir hf2] at hq
  unfold playE
  refine ⟨?_, ?_⟩
  · rw [if_pos hv, if_pos hf3, if_neg (by rw [List.length_map]; omega), hq]; rfl
  · show (if validB f then (if within (1 - first) 0 1 then (if 600 < (xs.map (1 - ·)).length then noM else (playF (start f (1 - first)) (xs.map (1 - ·))).getD noM) else noM) else noM) = _
    rw [if_pos hv, if_pos hf3, if_neg (by rw [List.length_map]; omega), hq]; rfl

end M
end Go.Proofs.Ytbjmnlhehkcakaa

namespace Go.Proofs.Ytbjmnlhehkcakaa
open Go.RowKit
namespace M

theorem turned_turned (p : Int) : turned (turned p) = p := by
  unfold turned
  by_cases h : p < 0
  · rw [if_pos h, if_pos h]
  · rw [if_neg h, if_neg (by omega)]
    omega
theorem serverOf_rng (o : Int) (dbl : Bool) (g t : Int) : 0 ≤ serverOf o dbl g t ∧ serverOf o dbl g t ≤ 3 := by
  unfold serverOf
  split <;> omega
theorem winner_rng (f : Fm) (won : Pr) : -1 ≤ winner f won ∧ winner f won ≤ 1 := by
  unfold winner
  repeat' split
  all_goals omega
def GmOk (g : Gm) : Prop := (0 ≤ g.server ∧ g.server ≤ 3) ∧ (g.winner = 0 ∨ g.winner = 1)
theorem endSet_log (m : Mt) (s : Int) : (endSet m s).log = m.log ++ [gameOf m s] := by
  unfold endSet
  split <;> rfl
theorem begin_log (m : Mt) : (M.begin m).log = m.log := rfl
theorem endGame_log (m : Mt) (s : Int) : (endGame m s).log = m.log ++ [gameOf m s] := by
  rw [← endSet_log]
  unfold endGame
  dsimp only
  split
  · rfl
  · rw [begin_log]
    split <;> rfl
theorem point_log (m : Mt) (s : Int) : (point m s).log = m.log ∨ (point m s).log = m.log ++ [gameOf { m with pts := plus m.pts s } s] := by
  unfold point
  dsimp only
  split
  · exact .inr (endGame_log _ s)
  · split <;> exact .inl rfl
theorem playF_log : ∀ (xs : List Int) (m t : Mt), (∀ g ∈ m.log, GmOk g) → playF m xs = some t → ∀ g ∈ t.log, GmOk g
  | [], m, t, h, e => by
    rw [playF_nil] at e
    rw [← Option.some.inj e]
    exact h
  | p :: r, m, t, h, e => by
    rw [playF_cons] at e
    split at e
    · cases e
    · rename_i hc
      refine playF_log r _ t ?_ e
      intro g hg
      rcases point_log m p with hp | hp
      · rw [hp] at hg; exact h g hg
      · rw [hp, List.mem_append, List.mem_singleton] at hg
        rcases hg with hg | hg
        · exact h g hg
        · subst hg
          exact ⟨serverOf_rng _ _ _ _, by show p = 0 ∨ p = 1; omega⟩
theorem playF_pts : ∀ (xs : List Int) (m t : Mt), playF m xs = some t → ∀ x ∈ xs, x = 0 ∨ x = 1
  | [], _, _, _, x, hx => by cases hx
  | p :: r, m, t, e, x, hx => by
    rw [playF_cons] at e
    split at e
    · cases e
    · rename_i hc
      rcases List.mem_cons.1 hx with rfl | hx
      · omega
      · exact playF_pts r _ t e x hx
theorem playM_log {f : Fm} {first : Int} {xs : List Int} (h : playE f first xs = 0) : ∀ g ∈ (playM f first xs).log, GmOk g := by
  obtain ⟨hv, hf, hl, hp⟩ := playE_ok h
  exact playF_log xs _ _ (fun g hg => by cases hg) hp
theorem playE_pts {f : Fm} {first : Int} {xs : List Int} (h : playE f first xs = 0) : ∀ x ∈ xs, x = 0 ∨ x = 1 := by
  obtain ⟨hv, hf, hl, hp⟩ := playE_ok h
  exact playF_pts xs _ _ hp
theorem playM_srv {f : Fm} {first : Int} {xs : List Int} (h : playE f first xs = 0) : (-1 ≤ (playM f first xs).server ∧ (playM f first xs).server ≤ 3) ∧ (-1 ≤ (playM f first xs).winner ∧ (playM f first xs).winner ≤ 1) := by
  have hi := playM_inv h
  have h1 := winner_rng (playM f first xs).f (playM f first xs).won
  rw [← hi.win] at h1
  refine ⟨?_, h1⟩
  rw [hi.sv]
  split
  · omega
  · have := serverOf_rng (playM f first xs).opens (playM f first xs).f.doubles (playM f first xs).log.length (if rtied (playM f first xs).f (playM f first xs).sets (playM f first xs).games then ((playM f first xs).pts.A + (playM f first xs).pts.B + 1) / 2 else 0)
    omega
end M

theorem played_ok (f : M.Fm) (first : Int) (A : Option Addr) (n c : Nat) (xs : List Int) (m : M.Mt) (w : World) (he : M.playE f first xs = 0) (hm' : M.playM f first xs = m) (hn : xs.length = n) (hr : RdI w w.heap.size A xs) (hm : n ≤ 1000000) :
    Calls Try.prog 24 #[.agg #[.int .i64 f.sets, .int .i64 f.games, .bool f.noAd, .int .i64 f.tie, .int .i64 f.to, .int .i64 f.lastTie, .int .i64 f.lastTo, .int .i64 f.first, .int .i64 f.next, .bool f.doubles], .agg #[.int .i64 first, .slice A n c]] w fun e w' => ∃ B d G l, e = .returned (.tuple #[.agg #[.slice B m.sets.length d, .int .i64 m.games.A, .int .i64 m.games.B, .int .i64 m.pts.A, .int .i64 m.pts.B, .int .i64 m.server, .int .i64 m.ends, .int .i64 m.balls, .int .i64 m.winner], .slice G m.log.length l, .bool true]) ∧
      RdP w' w'.heap.size B m.sets ∧ RdG w' w'.heap.size G m.log ∧ Below w.heap.size w w' := by
  refine (played_any f first A n c xs w hn hr hm).mono ?_
  rintro e w' ⟨sv, gv, rfl, hsv, hgv, hb⟩
  obtain ⟨B, d, rfl⟩ := own_form hsv
  obtain ⟨G, l, rfl⟩ := own_form hgv
  refine ⟨B, d, G, l, by rw [he, hm']; rfl, ?_, ?_, hb⟩
  · rw [hm'] at hsv; exact owns_RdP hsv rfl
  · rw [hm'] at hgv; exact owns_RdG hgv rfl
theorem played_mir (f : M.Fm) (first : Int) (A : Option Addr) (n c : Nat) (xs : List Int) (m : M.Mt) (w : World) (he : M.playE f first xs = 0) (hm' : M.playM f first xs = M.mir m) (hn : xs.length = n) (hr : RdI w w.heap.size A xs) (hm : n ≤ 1000000) :
    Calls Try.prog 24 #[.agg #[.int .i64 f.sets, .int .i64 f.games, .bool f.noAd, .int .i64 f.tie, .int .i64 f.to, .int .i64 f.lastTie, .int .i64 f.lastTo, .int .i64 f.first, .int .i64 f.next, .bool f.doubles], .agg #[.int .i64 first, .slice A n c]] w fun e w' => ∃ B d G l, e = .returned (.tuple #[.agg #[.slice B m.sets.length d, .int .i64 m.games.B, .int .i64 m.games.A, .int .i64 m.pts.B, .int .i64 m.pts.A, .int .i64 (M.turned m.server), .int .i64 m.ends, .int .i64 m.balls, .int .i64 (M.turned m.winner)], .slice G m.log.length l, .bool true]) ∧
      RdP w' w'.heap.size B (m.sets.map M.swap) ∧ RdG w' w'.heap.size G (m.log.map M.mirG) ∧ Below w.heap.size w w' := by
  refine (played_ok f first A n c xs (M.mir m) w he hm' hn hr hm).mono ?_
  rintro e w' ⟨B, d, G, l, rfl, h1, h2, hb⟩
  refine ⟨B, d, G, l, ?_, h1, h2, hb⟩
  have e1 : (M.mir m).sets.length = m.sets.length := List.length_map _
  have e2 : (M.mir m).log.length = m.log.length := List.length_map _
  rw [e1, e2]
  rfl

end Go.Proofs.Ytbjmnlhehkcakaa

namespace Go.Proofs.Ytbjmnlhehkcakaa
open Go.RowKit
attribute [local go_sem ↓] Go.wp_at_zero Go.wp_at_succ run_eql_pair run_neq_pair

theorem lawSwapped_val (a b : Int) (w : World) :
    Calls Try.prog 27 #[.agg #[.int .i64 a, .int .i64 b]] w fun e w' => e = .returned (.agg #[.int .i64 b, .int .i64 a]) ∧ Below w.heap.size w w' := lawSwapped_any ⟨a, b⟩ w
theorem turned_val (p q : Int) (w : World) (hq : M.turned p = q) (h : -1000 ≤ p ∧ p ≤ 1000) :
    Calls Try.prog 28 #[.int .i64 p] w fun e w' => e = .returned (.int .i64 q) ∧ Below w.heap.size w w' := by
  subst hq; exact turned_any p w h
theorem mir_next {xs : List Int} {k : Nat} {x : Int} (h : xs[k]? = some x) : (xs.take k).map (1 - ·) ++ [1 - x] = (xs.take (k + 1)).map (1 - ·) := by
  rw [List.take_add_one, h]; simp
theorem turned_bd {p : Int} (h : -1 ≤ p ∧ p ≤ 3) : -1000 ≤ M.turned p ∧ M.turned p ≤ 1000 := by
  unfold M.turned
  split <;> omega

set_option maxHeartbeats 8000000 in
set_option maxRecDepth 100000 in
theorem sidesLaw_ok (f : M.Fm) (first : Int) (A : Option Addr) (n c : Nat) (xs : List Int) (w : World) (hn : xs.length = n) (hr : RdI w w.heap.size A xs) (h : M.playE f first xs = 0) :
    Calls Try.prog 6 #[.agg #[.int .i64 f.sets, .int .i64 f.games, .bool f.noAd, .int .i64 f.tie, .int .i64 f.to, .int .i64 f.lastTie, .int .i64 f.lastTo, .int .i64 f.first, .int .i64 f.next, .bool f.doubles], .agg #[.int .i64 first, .slice A n c]] w fun e w' => e = .returned (.bool true) ∧ Below w.heap.size w w' := by
  obtain ⟨_, hfi, hle, _⟩ := M.playE_ok h
  have hf2 : first = 0 ∨ first = 1 := by simp [M.within] at hfi; omega
  have hm : n ≤ 1000000 := by omega
  have hm2 : n ≤ maxLen := by unfold maxLen; omega
  have hn600 : n ≤ 600 := by omega
  have hwf : IntKind.i64.wrap (1 - first) = 1 - first := IntWalk.i64_in _ (by omega)
  obtain ⟨m, hmE⟩ : ∃ m, M.playM f first xs = m := ⟨_, rfl⟩
  have HLOG := hide (M.playM_log h)
  have HSRV := hide (M.playM_srv h)
  have HLEN := hide (M.playM_len f first xs)
  have HMIR := hide (M.playM_mir h)
  rw [hmE] at HLOG HSRV HLEN HMIR
  have HPTS := hide (M.playE_pts h)
  have HME := hide hmE
  have HE := hide h
  have HE2 := hide (show (M.playE f first xs == 0) = true from by rw [h]; rfl)
  have HN := hide hn
  have HR := hide hr
  clear hn hr h hmE hfi hle hf2
  go_enter Try.func6, Try.ntmps6
  go_upto_region 3 with (first | (go_at_call 23; refine (ready_any f first A n c xs _ HN.out ((HR.out.below (by (repeat' first | exact zbR _ _ | assumption | refine zbD ?_ | refine zbA ?_ ?_ _ | refine zbS ?_ ?_ _ | refine zbT ?_ (by assumption) ?_ | (simp; done) | (simp; omega) | omega))).mono (by simp; omega)) hm2).mono ?_; rintro e w1 ⟨rfl, hb⟩; rw [HE2.out]; have HX0 := hide ((hb.block w.heap.size (by simp; omega)).trans (heap_alloc2_old w _ _)); have HX1 := hide ((hb.block (w.heap.size + 1) (by simp)).trans (heap_alloc2_new w _ _)); have HB := hide (show Below w.heap.size w w1 from Below.trans (by (repeat' first | exact zbR _ _ | assumption | refine zbD ?_ | refine zbA ?_ ?_ _ | refine zbS ?_ ?_ _ | refine zbT ?_ (by assumption) ?_ | (simp; done) | (simp; omega) | omega)) (hb.mono (by simp; omega))); clear hb))
  have hc0 := fun i => cell_of_row w1 w.heap.size i _ _ _ HX0.out
  have hc1 := fun i => cell_of_row w1 (w.heap.size + 1) i _ _ _ HX1.out
  go_upto_region 4 with fail
  have hz1 : w.heap.size + 1 < w1.heap.size := blk_lt HX1.out
  have HRX := hide ((HR.out.below HB.out).mono HB.out.size)
  clear hc0 hc1
  have hb := (Below.refl w1.heap.size w1).alloc (Nat.le_refl _) (.cells #[.int .i64 (1 - first), .slice none 0 0] 26 (0, 0))
  have HY := hide (heap_alloc_new w1 (.cells #[.int .i64 (1 - first), .slice none 0 0] 26 (0, 0)))
  have HB1 := hide hb
  clear hb
  generalize w1.alloc (.cells #[.int .i64 (1 - first), .slice none 0 0] 26 (0, 0)) = w2 at *
  go_wp2_with fail
  go_loopw [6] (fun i wr => ∃ (k : Nat) (A' : Option Addr) (c' : Nat), k ≤ n ∧ i = .int .i64 k ∧ Hid (Below w1.heap.size w1 wr) ∧ Hid (wr.heap[w1.heap.size]? = some (.cells #[.int .i64 (1 - first), .slice A' k c'] 26 (0, 0))) ∧ Hid (wr.ownsRow w1.heap.size 3 1 (.slice A' k c') k (flatI ((xs.take k).map (1 - ·))))) (fun i _ => n - (intOf i).toNat)
  case atStart => exact ⟨0, none, 0, by omega, rfl, HB1, HY, hide ⟨rfl, .inl ⟨rfl, rfl⟩⟩⟩
  case round =>
    obtain ⟨k, A', c', hk, rfl, HBr, HYr, HOr⟩ := hrel
    by_cases hlt : k < n
    · as_aux_lemma =>
        obtain ⟨x, hx⟩ : ∃ x, xs[k]? = some x := ⟨_, List.getElem?_eq_getElem (by have := HN.out; omega)⟩
        have hx01 := HPTS.out x (List.mem_of_getElem? hx)
        have hnext := hide (mir_next hx)
        obtain ⟨b, o, hA, hbB, c0⟩ := (HRX.out.below HBr.out) k x hx
        subst hA
        have hlt' : (k : Int) < (n : Int) := by omega
        have hk0 : (0 : Int) ≤ (k : Int) := by omega
        have hwx : IntKind.i64.wrap (1 - x) = 1 - x := IntWalk.i64_in _ (by omega)
        have hlk : ((xs.take k).map (1 - ·)).length = k := by rw [List.length_map, List.length_take]; have := HN.out; omega
        have hc1 := fun i => cell_of_row wr (w.heap.size + 1) i _ _ _ (blk_keep HX1.out HBr.out)
        have s2 : wr.cell? ⟨w1.heap.size, 1, none⟩ = some (.slice A' k c') := (cell_of_row _ _ _ _ _ _ HYr.out).trans rfl
        have s1 : wr.cell? ⟨w.heap.size + 1, 1, none⟩ = some (.slice (some ⟨b, o, none⟩) n c) := (hc1 1).trans rfl
        have hwr : w1.heap.size < wr.heap.size := blk_lt HYr.out
        clear hx hx01
        go_wp2_with fail
        refine wp_region_T_drew (S := (fun w' => w1.heap.size < w'.heap.size ∧ w'.cell? ⟨w.heap.size + 1, 1, none⟩ = some (.slice (some ⟨b, o, none⟩) n c) ∧ w'.cell? ⟨w1.heap.size, 1, none⟩ = some (.slice A' k c') ∧ w'.cell? ⟨b, o + k, none⟩ = some (.int .i64 x))) 11 (by kernel_rfl) ?_ (fun hHeld0 => ?_)
        · (try dsimp only); first | (go_split_ands; (repeat' apply And.intro) <;> first | (simp; omega) | omega | (refine (hg1.out _).trans ?_; assumption) | (refine (hg2.out _).trans ?_; assumption) | (refine (hg3.out _).trans ?_; assumption)) | (first | (go_keep; done) | (go_split_ands; (repeat' apply And.intro) <;> first | (go_keep; done) | (simp [*, zcA, zcP, zfA, zfP]; done) | (simp [zcA, zcP] <;> rfl) | (simp [*, zsS, zsO, zsA]; done) | ((first | refine (hc _ _ ?_).trans ?_ | refine (hf _ _ ?_).trans ?_) <;> first | assumption | (simp; done) | (simp; omega) | omega | (go_keep; done) | (simp [*, zcA, zcP, zfA, zfP]; done) | (simp [zcA, zcP]; rfl)) | (repeat' first | exact zbR _ _ | assumption | refine zbD ?_ | refine zbA ?_ ?_ _ | refine zbS ?_ ?_ _ | refine zbT ?_ (by assumption) ?_ | (simp; done) | (simp; omega) | omega)))
        refine takeT (v := ?_) 0 rfl (by kernel_rfl) (by kernel_rfl) (by kernel_rfl) (by kernel_rfl) (fun _ _ _ h => h) (Or.inl ⟨by rfl, ?_⟩) (by assumption) ?_; rotate_left
        · (intro w hSw; (try dsimp only at hSw); go_simp; try with_reducible rfl)
        try simp only [Act.put, zl, z0, z1]
        refine takeT (v := ?_) 1 rfl (by kernel_rfl) (by kernel_rfl) (by kernel_rfl) (by kernel_rfl) (fun _ _ _ h => h) (Or.inl ⟨by rfl, ?_⟩) (by assumption) ?_; rotate_left
        · (intro w hSw; (try dsimp only at hSw); go_simp; try with_reducible rfl)
        try simp only [Act.put, zl, z0, z1]
        refine takeT (v := ?_) 2 rfl (by kernel_rfl) (by kernel_rfl) (by kernel_rfl) (by kernel_rfl) (fun _ _ _ h => h) (Or.inl ⟨by rfl, ?_⟩) (by assumption) ?_; rotate_left
        · (intro w hSw; (try dsimp only at hSw); go_simp; try with_reducible rfl)
        try simp only [Act.put, zl, z0, z1]
        refine takeT (v := ?_) 3 rfl (by kernel_rfl) (by kernel_rfl) (by kernel_rfl) (by kernel_rfl) (fun _ _ _ h => h) (Or.inl ⟨by rfl, ?_⟩) (by assumption) ?_; rotate_left
        · (intro w hSw; (try dsimp only at hSw); go_simp; try with_reducible rfl)
        try simp only [Act.put, zl, z0, z1]
        refine takeT (v := ?_) 4 rfl (by kernel_rfl) (by kernel_rfl) (by kernel_rfl) (by kernel_rfl) (fun _ _ _ h => h) (Or.inl ⟨by rfl, ?_⟩) (by assumption) ?_; rotate_left
        · (intro w hSw; (try dsimp only at hSw); go_simp; try with_reducible rfl)
        try simp only [Act.put, zl, z0, z1]
        refine takeT (v := ?_) 5 rfl (by kernel_rfl) (by kernel_rfl) (by kernel_rfl) (by kernel_rfl) (fun _ _ _ h => h) (Or.inl ⟨by rfl, ?_⟩) (by assumption) ?_; rotate_left
        · (intro w hSw; (try dsimp only at hSw); go_simp; try with_reducible rfl)
        try simp only [Act.put, zl, z0, z1]
        refine takeT (v := ?_) 6 rfl (by kernel_rfl) (by kernel_rfl) (by kernel_rfl) (by kernel_rfl) (fun _ _ _ h => h) (Or.inl ⟨by rfl, ?_⟩) (by assumption) ?_; rotate_left
        · (intro w hSw; (try dsimp only at hSw); go_simp; try with_reducible rfl)
        try simp only [Act.put, zl, z0, z1]
        refine takeT (v := ?_) 7 rfl (by kernel_rfl) (by kernel_rfl) (by kernel_rfl) (by kernel_rfl) (fun _ _ _ h => h) (Or.inl ⟨by rfl, ?_⟩) (by assumption) ?_; rotate_left
        · (intro w hSw; (try dsimp only at hSw); go_simp; try with_reducible rfl)
        try simp only [Act.put, zl, z0, z1]
        refine wpAnyT_ready (rs := [8]) (by kernel_rfl) (by simp) ?_
        refine consT 8 rfl (fun K hK => ?_) AllReadyT.nil
        go_simp
        refine hK.out _ _ ?_ (fun hHeld1 => ?_)
        · (try dsimp only); first | (go_split_ands; (repeat' apply And.intro) <;> first | (simp; omega) | omega | (refine (hg1.out _).trans ?_; assumption) | (refine (hg2.out _).trans ?_; assumption) | (refine (hg3.out _).trans ?_; assumption)) | (first | (go_keep; done) | (go_split_ands; (repeat' apply And.intro) <;> first | (go_keep; done) | (simp [*, zcA, zcP, zfA, zfP]; done) | (simp [zcA, zcP] <;> rfl) | (simp [*, zsS, zsO, zsA]; done) | ((first | refine (hc _ _ ?_).trans ?_ | refine (hf _ _ ?_).trans ?_) <;> first | assumption | (simp; done) | (simp; omega) | omega | (go_keep; done) | (simp [*, zcA, zcP, zfA, zfP]; done) | (simp [zcA, zcP]; rfl)) | (repeat' first | exact zbR _ _ | assumption | refine zbD ?_ | refine zbA ?_ ?_ _ | refine zbS ?_ ?_ _ | refine zbT ?_ (by assumption) ?_ | (simp; done) | (simp; omega) | omega)))
        clear hK K hHeld0
        try simp only [Act.put, zl, z0, z1]
        refine wpAnyT_ready (rs := [9]) (by kernel_rfl) (by simp) ?_
        refine consT 9 rfl (fun K hK => ?_) AllReadyT.nil
        have hbA : Below wr.heap.size wr (wr.drew.alloc (.cells #[.int .i64 (1 - x)] 3 (0, 0))) := ((Below.refl wr.heap.size wr).drew).alloc (by simp) _; have hown0 := owns_below HOr.out hbA; have hy0 := blk_keep HYr.out hbA; refine step_app_ints rfl (.tmp 32) (.tmp 39) rfl w1.heap.size (.slice A' k c') ((xs.take k).map (1 - ·)) k rfl hown0 (some ⟨wr.heap.size, 0, none⟩) 1 1 [1 - x] rfl rfl (rdI_one wr.drew (1 - x)) (by simp) (k + 1) rfl (by omega) (by omega) (by simp; omega) ?_; intro A2 c2 w3 hown3 hgrow; have hfar := far_cells hgrow; have hlo : ∀ g, (Value.slice A' k c').ownBlock = some g → w1.heap.size ≤ g := fun g hg => (hown0.lt g hg).1; have hne := row_ne hown0 hy0 (by decide); have hy3 := (hgrow.block w1.heap.size (by simp; omega) (Ne.symm hne)).trans hy0; have hg1 := hide (fun o => hfar w1.heap.size o (by simp; omega) (Ne.symm hne)); have hg2 := hide (fun o => hfar (w.heap.size + 1) o (by simp; omega) (fun e => by have := hlo _ e.symm; omega)); have hg3 := hide (fun o => hfar b o (by simp; omega) (fun e => by have := hlo _ e.symm; omega)); have fr3 : w3.frozen? ⟨w1.heap.size, 1, none⟩ = false := (by simp [World.frozen?, hy3]); have hz3 := hgrow.size; (try simp at hz3); clear hfar
        refine hK.out _ _ ?_ (fun hHeld2 => ?_)
        · (try dsimp only); first | (go_split_ands; (repeat' apply And.intro) <;> first | (simp; omega) | omega | (refine (hg1.out _).trans ?_; assumption) | (refine (hg2.out _).trans ?_; assumption) | (refine (hg3.out _).trans ?_; assumption)) | (first | (go_keep; done) | (go_split_ands; (repeat' apply And.intro) <;> first | (go_keep; done) | (simp [*, zcA, zcP, zfA, zfP]; done) | (simp [zcA, zcP] <;> rfl) | (simp [*, zsS, zsO, zsA]; done) | ((first | refine (hc _ _ ?_).trans ?_ | refine (hf _ _ ?_).trans ?_) <;> first | assumption | (simp; done) | (simp; omega) | omega | (go_keep; done) | (simp [*, zcA, zcP, zfA, zfP]; done) | (simp [zcA, zcP]; rfl)) | (repeat' first | exact zbR _ _ | assumption | refine zbD ?_ | refine zbA ?_ ?_ _ | refine zbS ?_ ?_ _ | refine zbT ?_ (by assumption) ?_ | (simp; done) | (simp; omega) | omega)))
        clear hK K hHeld1
        try simp only [Act.put, zl, z0, z1]
        refine takeT (v := ?_) 10 rfl (by kernel_rfl) (by kernel_rfl) (by kernel_rfl) (by kernel_rfl) (fun _ _ _ h => h) (Or.inl ⟨by rfl, ?_⟩) (by assumption) ?_; rotate_left
        · (intro w hSw; (try dsimp only at hSw); go_simp; try with_reducible rfl)
        try simp only [Act.put, zl, z0, z1]
        refine wpAnyT_ready (rs := [11]) (by kernel_rfl) (by simp) ?_
        refine lastT rfl (fun K hK => ?_)
        (try dsimp only at hHeld2)
        go_simp
        refine hK.out _ _ ?_
        clear hK K
        try simp only [Act.put, zl, z0, z1]
        refine wpAnyT_done (by kernel_rfl) ?_ _
        have hBy : Below w1.heap.size w1 (w3.setCell ⟨w1.heap.size, 1, none⟩ (.slice A2 (k + 1) c2)) := (((HBr.out.trans (hbA.mono HBr.out.size))).grown hgrow (by simp; omega) (fun g hg => hlo g hg)).setCell (Nat.le_refl _) _
        have hYy : (w3.setCell ⟨w1.heap.size, 1, none⟩ (.slice A2 (k + 1) c2)).heap[w1.heap.size]? = some (.cells #[.int .i64 (1 - first), .slice A2 (k + 1) c2] 26 (0, 0)) := by rw [blk_set hy3]; rfl
        have hOy : (w3.setCell ⟨w1.heap.size, 1, none⟩ (.slice A2 (k + 1) c2)).ownsRow w1.heap.size 3 1 (.slice A2 (k + 1) c2) (k + 1) (flatI ((xs.take (k + 1)).map (1 - ·))) := by
          rw [← hnext.out]
          exact hown3.kept (setCell_grown w3 _ _) (.inr (row_ne hown3 hy3 (by decide)))
        have HB3 := hide hBy
        have HY3 := hide hYy
        have HO3 := hide hOy
        clear hBy hYy hOy hy3 hown3 hgrow hlo hne hown0 hy0 hbA fr3 hg1 hg2 hg3
        generalize (w3.setCell ⟨w1.heap.size, 1, none⟩ (.slice A2 (k + 1) c2)) = w4 at *
        go_wp2_with fail
        go_roundw
        case rel => exact ⟨k + 1, A2, c2, by omega, by go_num, HB3, HY3, HO3⟩
        case measure => simp [intOf]; omega
    · have hkn : k = n := by omega
      subst hkn
      have HRY : Hid (RdI wr wr.heap.size A' (xs.map (1 - ·))) := hide (by
        have h1 := HOr.out
        rw [List.take_of_length_le (by have := HN.out; omega)] at h1
        exact owns_RdI h1 (by rw [List.length_map]; exact HN.out))
      have HNY : Hid ((xs.map (1 - ·)).length = k) := hide (by rw [List.length_map]; exact HN.out)
      replace HX0 := hide (blk_keep HX0.out HBr.out)
      replace HX1 := hide (blk_keep HX1.out HBr.out)
      replace HB := hide (HB.out.trans (HBr.out.mono HB.out.size))
      replace HY := HYr
      clear HBr HYr HOr HRX HB1 hlt hk HPTS
      have hc0 := fun i => cell_of_row wr w.heap.size i _ _ _ HX0.out
      have hc1 := fun i => cell_of_row wr (w.heap.size + 1) i _ _ _ HX1.out
      go_upto_region 9 with (first | (go_at_call 24; refine (played_ok f first A k c xs m _ HE.out HME.out HN.out ((HR.out.below HB.out).mono HB.out.size) hm).mono ?_; rintro e w3 ⟨B1, d1, G1, g1, rfl, hs, hg, hb⟩; clear hc0 hc1; replace HX0 := hide (blk_keep HX0.out hb); replace HX1 := hide (blk_keep HX1.out hb); replace HB := hide (HB.out.trans (hb.mono HB.out.size)); replace HY := hide (blk_keep HY.out hb); replace HRY := hide ((HRY.out.below hb).mono hb.size); have HS1 := hide hs; have HG1 := hide hg; clear hs hg hb))
      have hb := (Below.refl w3.heap.size w3).alloc (Nat.le_refl _) (.cells #[.slice B1 m.sets.length d1, .int .i64 m.games.A, .int .i64 m.games.B, .int .i64 m.pts.A, .int .i64 m.pts.B, .int .i64 m.server, .int .i64 m.ends, .int .i64 m.balls, .int .i64 m.winner] 36 (0, 0))
      have HN4 := hide (heap_alloc_new w3 (.cells #[.slice B1 m.sets.length d1, .int .i64 m.games.A, .int .i64 m.games.B, .int .i64 m.pts.A, .int .i64 m.pts.B, .int .i64 m.server, .int .i64 m.ends, .int .i64 m.balls, .int .i64 m.winner] 36 (0, 0)))
      replace HX0 := hide (blk_keep HX0.out hb)
      replace HX1 := hide (blk_keep HX1.out hb)
      replace HB := hide (HB.out.trans (hb.mono HB.out.size))
      replace HY := hide (blk_keep HY.out hb)
      replace HRY := hide ((HRY.out.below hb).mono hb.size)
      replace HS1 := hide ((HS1.out.below hb).mono hb.size)
      replace HG1 := hide ((HG1.out.below hb).mono hb.size)
      clear hb
      generalize w3.alloc (.cells #[.slice B1 m.sets.length d1, .int .i64 m.games.A, .int .i64 m.games.B, .int .i64 m.pts.A, .int .i64 m.pts.B, .int .i64 m.server, .int .i64 m.ends, .int .i64 m.balls, .int .i64 m.winner] 36 (0, 0)) = w4 at *
      generalize w3.heap.size = q3 at HN4 ⊢
      have hc0 := fun i => cell_of_row w4 w.heap.size i _ _ _ HX0.out
      have hcy := fun i => cell_of_row w4 w1.heap.size i _ _ _ HY.out
      go_upto_region 10 with (first | (go_at_call 24; refine (played_mir f (1 - first) A' k c' (xs.map (1 - ·)) m _ HMIR.out.1 HMIR.out.2 HNY.out HRY.out hm).mono ?_; rintro e w5 ⟨B2, d2, G2, g2, rfl, hs, hg, hb⟩; clear hc0 hcy; replace HX0 := hide (blk_keep HX0.out hb); replace HX1 := hide (blk_keep HX1.out hb); replace HB := hide (HB.out.trans (hb.mono HB.out.size)); replace HS1 := hide ((HS1.out.below hb).mono hb.size); replace HG1 := hide ((HG1.out.below hb).mono hb.size); replace HN4 := hide (blk_keep HN4.out hb); have HS2 := hide hs; have HG2 := hide hg; clear hs hg hb))
      clear HY HRY HNY HR HMIR HE HE2 HME
      have hb := (Below.refl w5.heap.size w5).alloc (Nat.le_refl _) (.cells #[.slice B2 m.sets.length d2, .int .i64 m.games.B, .int .i64 m.games.A, .int .i64 m.pts.B, .int .i64 m.pts.A, .int .i64 (M.turned m.server), .int .i64 m.ends, .int .i64 m.balls, .int .i64 (M.turned m.winner)] 36 (0, 0))
      have HN6 := hide (heap_alloc_new w5 (.cells #[.slice B2 m.sets.length d2, .int .i64 m.games.B, .int .i64 m.games.A, .int .i64 m.pts.B, .int .i64 m.pts.A, .int .i64 (M.turned m.server), .int .i64 m.ends, .int .i64 m.balls, .int .i64 (M.turned m.winner)] 36 (0, 0)))
      replace HX0 := hide (blk_keep HX0.out hb)
      replace HX1 := hide (blk_keep HX1.out hb)
      replace HB := hide (HB.out.trans (hb.mono HB.out.size))
      replace HS1 := hide ((HS1.out.below hb).mono hb.size)
      replace HG1 := hide ((HG1.out.below hb).mono hb.size)
      replace HN4 := hide (blk_keep HN4.out hb)
      replace HS2 := hide ((HS2.out.below hb).mono hb.size)
      replace HG2 := hide ((HG2.out.below hb).mono hb.size)
      clear hb
      generalize w5.alloc (.cells #[.slice B2 m.sets.length d2, .int .i64 m.games.B, .int .i64 m.games.A, .int .i64 m.pts.B, .int .i64 m.pts.A, .int .i64 (M.turned m.server), .int .i64 m.ends, .int .i64 m.balls, .int .i64 (M.turned m.winner)] 36 (0, 0)) = w6 at *
      generalize w5.heap.size = q5 at HN6 ⊢
      have hcs := fun i => cell_of_row w6 q3 i _ _ _ HN4.out
      have hct := fun i => cell_of_row w6 q5 i _ _ _ HN6.out
      go_wp2_with fail
      obtain ⟨hs6, hl6⟩ := HLEN.out
      have HLOG2 := hide HLOG.out
      have hq3 : q3 < w6.heap.size := blk_lt HN4.out
      have hq5 : q5 < w6.heap.size := blk_lt HN6.out
      go_loopw [13] (fun i wl => ∃ j : Nat, j ≤ m.log.length ∧ i = .int .i64 j ∧ Hid (Below w6.heap.size w6 wl)) (fun i _ => m.log.length - (intOf i).toNat)
      case atStart => exact ⟨0, by omega, rfl, hide (Below.refl _ _)⟩
      case round =>
        obtain ⟨j, hj, rfl, HBj⟩ := hrel
        by_cases hlt : j < m.log.length
        · as_aux_lemma =>
            obtain ⟨g, hg⟩ : ∃ g, m.log[j]? = some g := ⟨_, List.getElem?_eq_getElem hlt⟩
            obtain ⟨b1, o1, hA1, hbB1, p0, p1, p2, p3, p4, p5, p6⟩ := (HG1.out.below HBj.out) j g hg
            obtain ⟨b2, o2, hA2, hbB2, r0, r1, r2, r3, r4, r5, r6⟩ := (HG2.out.below HBj.out) j (M.mirG g) (by rw [List.getElem?_map, hg]; rfl)
            subst hA1 hA2
            obtain ⟨⟨hgs0, hgs1⟩, hgw⟩ := HLOG2.out g (List.mem_of_getElem? hg)
            obtain ⟨ts, hts⟩ : ∃ ts, ts = M.turned g.server := ⟨_, rfl⟩
            obtain ⟨ow, how⟩ : ∃ ow, ow = 1 - g.winner := ⟨_, rfl⟩
            have htb := turned_bd (p := g.server) (by omega)
            have htt : M.turned ts = g.server := by rw [hts]; exact M.turned_turned _
            rw [← hts] at htb
            have hww : IntKind.i64.wrap (1 - ow) = g.winner := by rw [IntWalk.i64_in _ (by omega)]; omega
            replace r2 : wr.cell? ⟨b2, o2 + j * 7 + 2, none⟩ = some (.int .i64 ts) := by rw [hts]; exact r2
            replace r3 : wr.cell? ⟨b2, o2 + j * 7 + 3, none⟩ = some (.int .i64 ow) := by rw [how]; exact r3
            replace r0 : wr.cell? ⟨b2, o2 + j * 7, none⟩ = some (.int .i64 g.set) := r0
            replace r1 : wr.cell? ⟨b2, o2 + j * 7 + 1, none⟩ = some (.bool g.tie) := r1
            replace r4 : wr.cell? ⟨b2, o2 + j * 7 + 4, none⟩ = some (.int .i64 g.pts.B) := r4
            replace r5 : wr.cell? ⟨b2, o2 + j * 7 + 5, none⟩ = some (.int .i64 g.pts.A) := r5
            replace r6 : wr.cell? ⟨b2, o2 + j * 7 + 6, none⟩ = some (.bool g.fresh) := r6
            have HTT := hide htt
            have HTB := hide htb
            have hlt' : (j : Int) < (m.log.length : Int) := by omega
            have hj0 : (0 : Int) ≤ (j : Int) := by omega
            have hbz := HBj.out.size
            have hb1z : b1 < wr.heap.size := by omega
            have hb2z : b2 < wr.heap.size := by omega
            have hBj := HBj.out
            clear hg hgs0 hgs1 hgw hts how htt htb
            go_wp2_with fail
            have hkeep : ∀ u u' : World, Below u.heap.size u u' → (Below w6.heap.size w6 u ∧ b1 < u.heap.size ∧ b2 < u.heap.size ∧ u.cell? ⟨b1, o1 + j * 7, none⟩ = some (.int .i64 g.set) ∧ u.cell? ⟨b1, o1 + j * 7 + 1, none⟩ = some (.bool g.tie) ∧ u.cell? ⟨b1, o1 + j * 7 + 2, none⟩ = some (.int .i64 g.server) ∧ u.cell? ⟨b1, o1 + j * 7 + 3, none⟩ = some (.int .i64 g.winner) ∧ u.cell? ⟨b1, o1 + j * 7 + 4, none⟩ = some (.int .i64 g.pts.A) ∧ u.cell? ⟨b1, o1 + j * 7 + 5, none⟩ = some (.int .i64 g.pts.B) ∧ u.cell? ⟨b1, o1 + j * 7 + 6, none⟩ = some (.bool g.fresh) ∧ u.cell? ⟨b2, o2 + j * 7, none⟩ = some (.int .i64 g.set) ∧ u.cell? ⟨b2, o2 + j * 7 + 1, none⟩ = some (.bool g.tie) ∧ u.cell? ⟨b2, o2 + j * 7 + 2, none⟩ = some (.int .i64 ts) ∧ u.cell? ⟨b2, o2 + j * 7 + 3, none⟩ = some (.int .i64 ow) ∧ u.cell? ⟨b2, o2 + j * 7 + 4, none⟩ = some (.int .i64 g.pts.B) ∧ u.cell? ⟨b2, o2 + j * 7 + 5, none⟩ = some (.int .i64 g.pts.A) ∧ u.cell? ⟨b2, o2 + j * 7 + 6, none⟩ = some (.bool g.fresh)) → (Below w6.heap.size w6 u' ∧ b1 < u'.heap.size ∧ b2 < u'.heap.size ∧ u'.cell? ⟨b1, o1 + j * 7, none⟩ = some (.int .i64 g.set) ∧ u'.cell? ⟨b1, o1 + j * 7 + 1, none⟩ = some (.bool g.tie) ∧ u'.cell? ⟨b1, o1 + j * 7 + 2, none⟩ = some (.int .i64 g.server) ∧ u'.cell? ⟨b1, o1 + j * 7 + 3, none⟩ = some (.int .i64 g.winner) ∧ u'.cell? ⟨b1, o1 + j * 7 + 4, none⟩ = some (.int .i64 g.pts.A) ∧ u'.cell? ⟨b1, o1 + j * 7 + 5, none⟩ = some (.int .i64 g.pts.B) ∧ u'.cell? ⟨b1, o1 + j * 7 + 6, none⟩ = some (.bool g.fresh) ∧ u'.cell? ⟨b2, o2 + j * 7, none⟩ = some (.int .i64 g.set) ∧ u'.cell? ⟨b2, o2 + j * 7 + 1, none⟩ = some (.bool g.tie) ∧ u'.cell? ⟨b2, o2 + j * 7 + 2, none⟩ = some (.int .i64 ts) ∧ u'.cell? ⟨b2, o2 + j * 7 + 3, none⟩ = some (.int .i64 ow) ∧ u'.cell? ⟨b2, o2 + j * 7 + 4, none⟩ = some (.int .i64 g.pts.B) ∧ u'.cell? ⟨b2, o2 + j * 7 + 5, none⟩ = some (.int .i64 g.pts.A) ∧ u'.cell? ⟨b2, o2 + j * 7 + 6, none⟩ = some (.bool g.fresh)) := by
              rintro u u' hb ⟨hB, l_b1, l_b2, k0, k1, k2, k3, k4, k5, k6, k7, k8, k9, k10, k11, k12, k13⟩
              exact ⟨hB.trans (hb.mono hB.size), Nat.lt_of_lt_of_le l_b1 hb.size, Nat.lt_of_lt_of_le l_b2 hb.size, (hb.cell (p := ⟨b1, o1 + j * 7, none⟩) l_b1).trans k0, (hb.cell (p := ⟨b1, o1 + j * 7 + 1, none⟩) l_b1).trans k1, (hb.cell (p := ⟨b1, o1 + j * 7 + 2, none⟩) l_b1).trans k2, (hb.cell (p := ⟨b1, o1 + j * 7 + 3, none⟩) l_b1).trans k3, (hb.cell (p := ⟨b1, o1 + j * 7 + 4, none⟩) l_b1).trans k4, (hb.cell (p := ⟨b1, o1 + j * 7 + 5, none⟩) l_b1).trans k5, (hb.cell (p := ⟨b1, o1 + j * 7 + 6, none⟩) l_b1).trans k6, (hb.cell (p := ⟨b2, o2 + j * 7, none⟩) l_b2).trans k7, (hb.cell (p := ⟨b2, o2 + j * 7 + 1, none⟩) l_b2).trans k8, (hb.cell (p := ⟨b2, o2 + j * 7 + 2, none⟩) l_b2).trans k9, (hb.cell (p := ⟨b2, o2 + j * 7 + 3, none⟩) l_b2).trans k10, (hb.cell (p := ⟨b2, o2 + j * 7 + 4, none⟩) l_b2).trans k11, (hb.cell (p := ⟨b2, o2 + j * 7 + 5, none⟩) l_b2).trans k12, (hb.cell (p := ⟨b2, o2 + j * 7 + 6, none⟩) l_b2).trans k13⟩
            refine wp_region_held_drew (S := (fun w' => Below w6.heap.size w6 w' ∧ b1 < w'.heap.size ∧ b2 < w'.heap.size ∧ w'.cell? ⟨b1, o1 + j * 7, none⟩ = some (.int .i64 g.set) ∧ w'.cell? ⟨b1, o1 + j * 7 + 1, none⟩ = some (.bool g.tie) ∧ w'.cell? ⟨b1, o1 + j * 7 + 2, none⟩ = some (.int .i64 g.server) ∧ w'.cell? ⟨b1, o1 + j * 7 + 3, none⟩ = some (.int .i64 g.winner) ∧ w'.cell? ⟨b1, o1 + j * 7 + 4, none⟩ = some (.int .i64 g.pts.A) ∧ w'.cell? ⟨b1, o1 + j * 7 + 5, none⟩ = some (.int .i64 g.pts.B) ∧ w'.cell? ⟨b1, o1 + j * 7 + 6, none⟩ = some (.bool g.fresh) ∧ w'.cell? ⟨b2, o2 + j * 7, none⟩ = some (.int .i64 g.set) ∧ w'.cell? ⟨b2, o2 + j * 7 + 1, none⟩ = some (.bool g.tie) ∧ w'.cell? ⟨b2, o2 + j * 7 + 2, none⟩ = some (.int .i64 ts) ∧ w'.cell? ⟨b2, o2 + j * 7 + 3, none⟩ = some (.int .i64 ow) ∧ w'.cell? ⟨b2, o2 + j * 7 + 4, none⟩ = some (.int .i64 g.pts.B) ∧ w'.cell? ⟨b2, o2 + j * 7 + 5, none⟩ = some (.int .i64 g.pts.A) ∧ w'.cell? ⟨b2, o2 + j * 7 + 6, none⟩ = some (.bool g.fresh))) (by kernel_rfl) ?_ (fun hHeld0 => ?_)
            · (try dsimp only); (first | (go_keep; done) | (go_split_ands; (repeat' apply And.intro) <;> first | (go_keep; done) | (simp [*, zcA, zcP, zfA, zfP]; done) | (simp [zcA, zcP] <;> rfl) | (simp [*, zsS, zsO, zsA]; done) | ((first | refine (hc _ _ ?_).trans ?_ | refine (hf _ _ ?_).trans ?_) <;> first | assumption | (simp; done) | (simp; omega) | omega | (go_keep; done) | (simp [*, zcA, zcP, zfA, zfP]; done) | (simp [zcA, zcP]; rfl)) | (repeat' first | exact zbR _ _ | assumption | refine zbD ?_ | refine zbA ?_ ?_ _ | refine zbS ?_ ?_ _ | refine zbT ?_ (by assumption) ?_ | (simp; done) | (simp; omega) | omega)))
            refine tL (v := ?_) 0 rfl (by kernel_rfl) (fun _ _ _ h => h) (Or.inl ⟨by rfl, ?_⟩) (by assumption) ?_; rotate_left
            · (intro w hSw; (try dsimp only at hSw); go_simp; try with_reducible rfl)
            try simp only [Act.put, zl, z0, z1]
            refine tL (v := ?_) 1 rfl (by kernel_rfl) (fun _ _ _ h => h) (Or.inl ⟨by rfl, ?_⟩) (by assumption) ?_; rotate_left
            · (intro w hSw; (try dsimp only at hSw); go_simp; try with_reducible rfl)
            try simp only [Act.put, zl, z0, z1]
            refine tL (v := ?_) 2 rfl (by kernel_rfl) (fun _ _ _ h => h) (Or.inl ⟨by rfl, ?_⟩) (by assumption) ?_; rotate_left
            · (intro w hSw; (try dsimp only at hSw); go_simp; try with_reducible rfl)
            try simp only [Act.put, zl, z0, z1]
            refine tL (v := ?_) 3 rfl (by kernel_rfl) (fun _ _ _ h => h) (Or.inl ⟨by rfl, ?_⟩) (by assumption) ?_; rotate_left
            · (intro w hSw; (try dsimp only at hSw); go_simp; try with_reducible rfl)
            try simp only [Act.put, zl, z0, z1]
            refine tL (v := ?_) 4 rfl (by kernel_rfl) (fun _ _ _ h => h) (Or.inl ⟨by rfl, ?_⟩) (by assumption) ?_; rotate_left
            · (intro w hSw; (try dsimp only at hSw); go_simp; try with_reducible rfl)
            try simp only [Act.put, zl, z0, z1]
            refine tL (v := ?_) 5 rfl (by kernel_rfl) (fun _ _ _ h => h) (Or.inl ⟨by rfl, ?_⟩) (by assumption) ?_; rotate_left
            · (intro w hSw; (try dsimp only at hSw); go_simp; try with_reducible rfl)
            try simp only [Act.put, zl, z0, z1]
            refine tL (v := ?_) 6 rfl (by kernel_rfl) (fun _ _ _ h => h) (Or.inl ⟨by rfl, ?_⟩) (by assumption) ?_; rotate_left
            · (intro w hSw; (try dsimp only at hSw); go_simp; try with_reducible rfl)
            try simp only [Act.put, zl, z0, z1]
            refine tL (v := ?_) 7 rfl (by kernel_rfl) (fun _ _ _ h => h) (Or.inl ⟨by rfl, ?_⟩) (by assumption) ?_; rotate_left
            · (intro w hSw; (try dsimp only at hSw); go_simp; try with_reducible rfl)
            try simp only [Act.put, zl, z0, z1]
            refine tL (v := ?_) 8 rfl (by kernel_rfl) (fun _ _ _ h => h) (Or.inl ⟨by rfl, ?_⟩) (by assumption) ?_; rotate_left
            · (intro w hSw; (try dsimp only at hSw); go_simp; try with_reducible rfl)
            try simp only [Act.put, zl, z0, z1]
            refine tL (v := ?_) 9 rfl (by kernel_rfl) (fun _ _ _ h => h) (Or.inl ⟨by rfl, ?_⟩) (by assumption) ?_; rotate_left
            · (intro w hSw; (try dsimp only at hSw); go_simp; try with_reducible rfl)
            try simp only [Act.put, zl, z0, z1]
            refine tL (v := ?_) 10 rfl (by kernel_rfl) (fun _ _ _ h => h) (Or.inl ⟨by rfl, ?_⟩) (by assumption) ?_; rotate_left
            · (intro w hSw; (try dsimp only at hSw); go_simp; try with_reducible rfl)
            try simp only [Act.put, zl, z0, z1]
            refine tL (v := ?_) 11 rfl (by kernel_rfl) (fun _ _ _ h => h) (Or.inl ⟨by rfl, ?_⟩) (by assumption) ?_; rotate_left
            · (intro w hSw; (try dsimp only at hSw); go_simp; try with_reducible rfl)
            try simp only [Act.put, zl, z0, z1]
            refine tL (v := ?_) 12 rfl (by kernel_rfl) (fun _ _ _ h => h) (Or.inl ⟨by rfl, ?_⟩) (by assumption) ?_; rotate_left
            · (intro w hSw; (try dsimp only at hSw); go_simp; try with_reducible rfl)
            try simp only [Act.put, zl, z0, z1]
            refine tL (v := ?_) 13 rfl (by kernel_rfl) (fun _ _ _ h => h) (Or.inl ⟨by rfl, ?_⟩) (by assumption) ?_; rotate_left
            · (intro w hSw; (try dsimp only at hSw); go_simp; try with_reducible rfl)
            try simp only [Act.put, zl, z0, z1]
            refine tL (v := ?_) 14 rfl (by kernel_rfl) (fun _ _ _ h => h) (Or.inl ⟨by rfl, ?_⟩) (by assumption) ?_; rotate_left
            · (intro w hSw; (try dsimp only at hSw); go_simp; try with_reducible rfl)
            try simp only [Act.put, zl, z0, z1]
            refine tL (v := ?_) 15 rfl (by kernel_rfl) (fun _ _ _ h => h) (Or.inl ⟨by rfl, ?_⟩) (by assumption) ?_; rotate_left
            · (intro w hSw; (try dsimp only at hSw); go_simp; try with_reducible rfl)
            try simp only [Act.put, zl, z0, z1]
            refine tL (v := ?_) 16 rfl (by kernel_rfl) (fun _ _ _ h => h) (Or.inl ⟨by rfl, ?_⟩) (by assumption) ?_; rotate_left
            · (intro w hSw; (try dsimp only at hSw); go_simp; try with_reducible rfl)
            try simp only [Act.put, zl, z0, z1]
            refine tL (v := ?_) 17 rfl (by kernel_rfl) (fun _ _ _ h => h) (Or.inl ⟨by rfl, ?_⟩) (by assumption) ?_; rotate_left
            · (intro w hSw; (try dsimp only at hSw); go_simp; try with_reducible rfl)
            try simp only [Act.put, zl, z0, z1]
            refine tL (v := ?_) 18 rfl (by kernel_rfl) (fun _ _ _ h => h) (Or.inl ⟨by rfl, ?_⟩) (by assumption) ?_; rotate_left
            · (intro w hSw; (try dsimp only at hSw); go_simp; try with_reducible rfl)
            try simp only [Act.put, zl, z0, z1]
            refine tL (v := ?_) 19 rfl (by kernel_rfl) (fun _ _ _ h => h) (Or.inl ⟨by rfl, ?_⟩) (by assumption) ?_; rotate_left
            · (intro w hSw; (try dsimp only at hSw); go_simp; try with_reducible rfl)
            try simp only [Act.put, zl, z0, z1]
            refine tL (v := ?_) 20 rfl (by kernel_rfl) (fun _ _ _ h => h) (Or.inl ⟨by rfl, ?_⟩) (by assumption) ?_; rotate_left
            · (intro w hSw; (try dsimp only at hSw); go_simp; try with_reducible rfl)
            try simp only [Act.put, zl, z0, z1]
            refine tL (v := ?_) 21 rfl (by kernel_rfl) (fun _ _ _ h => h) (Or.inl ⟨by rfl, ?_⟩) (by assumption) ?_; rotate_left
            · (intro w hSw; (try dsimp only at hSw); go_simp; try with_reducible rfl)
            try simp only [Act.put, zl, z0, z1]
            refine tL (v := ?_) 22 rfl (by kernel_rfl) (fun _ _ _ h => h) (Or.inl ⟨by rfl, ?_⟩) (by assumption) ?_; rotate_left
            · (intro w hSw; (try dsimp only at hSw); go_simp; try with_reducible rfl)
            try simp only [Act.put, zl, z0, z1]
            refine tL (v := ?_) 23 rfl (by kernel_rfl) (fun _ _ _ h => h) (Or.inl ⟨by rfl, ?_⟩) (by assumption) ?_; rotate_left
            · (intro w hSw; (try dsimp only at hSw); go_simp; try with_reducible rfl)
            try simp only [Act.put, zl, z0, z1]
            refine tL (v := ?_) 24 rfl (by kernel_rfl) (fun _ _ _ h => h) (Or.inl ⟨by rfl, ?_⟩) (by assumption) ?_; rotate_left
            · (intro w hSw; (try dsimp only at hSw); go_simp; try with_reducible rfl)
            try simp only [Act.put, zl, z0, z1]
            refine tL (v := ?_) 25 rfl (by kernel_rfl) (fun _ _ _ h => h) (Or.inl ⟨by rfl, ?_⟩) (by assumption) ?_; rotate_left
            · (intro w hSw; (try dsimp only at hSw); go_simp; try with_reducible rfl)
            try simp only [Act.put, zl, z0, z1]
            refine tL (v := ?_) 26 rfl (by kernel_rfl) (fun _ _ _ h => h) (Or.inl ⟨by rfl, ?_⟩) (by assumption) ?_; rotate_left
            · (intro w hSw; (try dsimp only at hSw); go_simp; try with_reducible rfl)
            try simp only [Act.put, zl, z0, z1]
            refine tL (v := ?_) 27 rfl (by kernel_rfl) (fun _ _ _ h => h) (Or.inl ⟨by rfl, ?_⟩) (by assumption) ?_; rotate_left
            · (intro w hSw; (try dsimp only at hSw); go_simp; try with_reducible rfl)
            try simp only [Act.put, zl, z0, z1]
            refine tL (v := ?_) 28 rfl (by kernel_rfl) (fun _ _ _ h => h) (Or.inl ⟨by rfl, ?_⟩) (by assumption) ?_; rotate_left
            · (intro w hSw; (try dsimp only at hSw); go_simp; try with_reducible rfl)
            try simp only [Act.put, zl, z0, z1]
            refine tL (v := ?_) 29 rfl (by kernel_rfl) (fun _ _ _ h => h) (Or.inl ⟨by rfl, ?_⟩) (by assumption) ?_; rotate_left
            · (intro w hSw; (try dsimp only at hSw); go_simp; try with_reducible rfl)
            try simp only [Act.put, zl, z0, z1]
            refine tL (v := ?_) 30 rfl (by kernel_rfl) (fun _ _ _ h => h) (Or.inl ⟨by rfl, ?_⟩) (by assumption) ?_; rotate_left
            · (intro w hSw; (try dsimp only at hSw); go_simp; try with_reducible rfl)
            try simp only [Act.put, zl, z0, z1]
            refine tL (v := ?_) 31 rfl (by kernel_rfl) (fun _ _ _ h => h) (Or.inl ⟨by rfl, ?_⟩) (by assumption) ?_; rotate_left
            · (intro w hSw; (try dsimp only at hSw); go_simp; try with_reducible rfl)
            try simp only [Act.put, zl, z0, z1]
            refine tL (v := ?_) 32 rfl (by kernel_rfl) (fun _ _ _ h => h) (Or.inl ⟨by rfl, ?_⟩) (by assumption) ?_; rotate_left
            · (intro w hSw; (try dsimp only at hSw); go_simp; try with_reducible rfl)
            try simp only [Act.put, zl, z0, z1]
            refine tL (v := ?_) 33 rfl (by kernel_rfl) (fun _ _ _ h => h) (Or.inl ⟨by rfl, ?_⟩) (by assumption) ?_; rotate_left
            · (intro w hSw; (try dsimp only at hSw); go_simp; try with_reducible rfl)
            try simp only [Act.put, zl, z0, z1]
            refine tL (v := ?_) 34 rfl (by kernel_rfl) (fun _ _ _ h => h) (Or.inl ⟨by rfl, ?_⟩) (by assumption) ?_; rotate_left
            · (intro w hSw; (try dsimp only at hSw); go_simp; try with_reducible rfl)
            try simp only [Act.put, zl, z0, z1]
            refine tL (v := ?_) 35 rfl (by kernel_rfl) (fun _ _ _ h => h) (Or.inl ⟨by rfl, ?_⟩) (by assumption) ?_; rotate_left
            · (intro w hSw; (try dsimp only at hSw); go_simp; try with_reducible rfl)
            try simp only [Act.put, zl, z0, z1]
            refine tL (v := ?_) 36 rfl (by kernel_rfl) (fun _ _ _ h => h) (Or.inl ⟨by rfl, ?_⟩) (by assumption) ?_; rotate_left
            · (intro w hSw; (try dsimp only at hSw); go_simp; try with_reducible rfl)
            try simp only [Act.put, zl, z0, z1]
            refine tL (v := ?_) 37 rfl (by kernel_rfl) (fun _ _ _ h => h) (Or.inl ⟨by rfl, ?_⟩) (by assumption) ?_; rotate_left
            · (intro w hSw; (try dsimp only at hSw); go_simp; try with_reducible rfl)
            try simp only [Act.put, zl, z0, z1]
            refine tL (v := ?_) 38 rfl (by kernel_rfl) (fun _ _ _ h => h) (Or.inl ⟨by rfl, ?_⟩) (by assumption) ?_; rotate_left
            · (intro w hSw; (try dsimp only at hSw); go_simp; try with_reducible rfl)
            try simp only [Act.put, zl, z0, z1]
            refine tL (v := ?_) 39 rfl (by kernel_rfl) (fun _ _ _ h => h) (Or.inl ⟨by rfl, ?_⟩) (by assumption) ?_; rotate_left
            · (intro w hSw; (try dsimp only at hSw); go_simp; try with_reducible rfl)
            try simp only [Act.put, zl, z0, z1]
            refine tL (v := ?_) 40 rfl (by kernel_rfl) (fun _ _ _ h => h) (Or.inl ⟨by rfl, ?_⟩) (by assumption) ?_; rotate_left
            · (intro w hSw; (try dsimp only at hSw); go_simp; try with_reducible rfl)
            try simp only [Act.put, zl, z0, z1]
            refine tL (v := ?_) 41 rfl (by kernel_rfl) (fun _ _ _ h => h) (Or.inl ⟨by rfl, ?_⟩) (by assumption) ?_; rotate_left
            · (intro w hSw; (try dsimp only at hSw); go_simp; try with_reducible rfl)
            try simp only [Act.put, zl, z0, z1]
            refine tL (v := ?_) 42 rfl (by kernel_rfl) (fun _ _ _ h => h) (Or.inl ⟨by rfl, ?_⟩) (by assumption) ?_; rotate_left
            · (intro w hSw; (try dsimp only at hSw); go_simp; try with_reducible rfl)
            try simp only [Act.put, zl, z0, z1]
            refine tL (v := ?_) 43 rfl (by kernel_rfl) (fun _ _ _ h => h) (Or.inl ⟨by rfl, ?_⟩) (by assumption) ?_; rotate_left
            · (intro w hSw; (try dsimp only at hSw); go_simp; try with_reducible rfl)
            try simp only [Act.put, zl, z0, z1]
            refine tL (v := ?_) 44 rfl (by kernel_rfl) (fun _ _ _ h => h) (Or.inl ⟨by rfl, ?_⟩) (by assumption) ?_; rotate_left
            · (intro w hSw; (try dsimp only at hSw); go_simp; try with_reducible rfl)
            try simp only [Act.put, zl, z0, z1]
            refine tL (v := ?_) 45 rfl (by kernel_rfl) (fun _ _ _ h => h) (Or.inl ⟨by rfl, ?_⟩) (by assumption) ?_; rotate_left
            · (intro w hSw; (try dsimp only at hSw); go_simp; try with_reducible rfl)
            try simp only [Act.put, zl, z0, z1]
            refine tL (v := ?_) 46 rfl (by kernel_rfl) (fun _ _ _ h => h) (Or.inl ⟨by rfl, ?_⟩) (by assumption) ?_; rotate_left
            · (intro w hSw; (try dsimp only at hSw); go_simp; try with_reducible rfl)
            try simp only [Act.put, zl, z0, z1]
            refine tL (v := ?_) 47 rfl (by kernel_rfl) (fun _ _ _ h => h) (Or.inl ⟨by rfl, ?_⟩) (by assumption) ?_; rotate_left
            · (intro w hSw; (try dsimp only at hSw); go_simp; try with_reducible rfl)
            try simp only [Act.put, zl, z0, z1]
            refine wpAnyH_ready (rs := [48]) (by kernel_rfl) (by simp) ?_
            refine consL 48 rfl (fun K hK => ?_) AllReadyH.nil
            go_simp
            (go_at_call 27; refine (lawSwapped_val _ _ _).mono ?_; rintro e w9 ⟨rfl, hb⟩; have hSn := hkeep _ _ hb (by assumption); (try clear hS); have hS := hSn; clear hSn)
            refine hK.out _ _ ?_ (fun hHeld1 => ?_)
            · (try dsimp only); exact hS
            clear hK K hHeld0
            try simp only [Act.put, zl, z0, z1]
            refine tL (v := ?_) 49 rfl (by kernel_rfl) (fun _ _ _ h => h) (Or.inl ⟨by rfl, ?_⟩) (by assumption) ?_; rotate_left
            · (intro w hSw; (try dsimp only at hSw); go_simp; try with_reducible rfl)
            try simp only [Act.put, zl, z0, z1]
            refine tL (v := ?_) 50 rfl (by kernel_rfl) (fun _ _ _ h => h) (Or.inl ⟨by rfl, ?_⟩) (by assumption) ?_; rotate_left
            · (intro w hSw; (try dsimp only at hSw); go_simp; try with_reducible rfl)
            try simp only [Act.put, zl, z0, z1]
            refine tL (v := ?_) 51 rfl (by kernel_rfl) (fun _ _ _ h => h) (Or.inl ⟨by rfl, ?_⟩) (by assumption) ?_; rotate_left
            · (intro w hSw; (try dsimp only at hSw); go_simp; try with_reducible rfl)
            try simp only [Act.put, zl, z0, z1]
            refine tL (v := ?_) 52 rfl (by kernel_rfl) (fun _ _ _ h => h) (Or.inl ⟨by rfl, ?_⟩) (by assumption) ?_; rotate_left
            · (intro w hSw; (try dsimp only at hSw); go_simp; try with_reducible rfl)
            try simp only [Act.put, zl, z0, z1]
            refine tL (v := ?_) 53 rfl (by kernel_rfl) (fun _ _ _ h => h) (Or.inl ⟨by rfl, ?_⟩) (by assumption) ?_; rotate_left
            · (intro w hSw; (try dsimp only at hSw); go_simp; try with_reducible rfl)
            try simp only [Act.put, zl, z0, z1]
            refine tL (v := ?_) 54 rfl (by kernel_rfl) (fun _ _ _ h => h) (Or.inl ⟨by rfl, ?_⟩) (by assumption) ?_; rotate_left
            · (intro w hSw; (try dsimp only at hSw); go_simp; try with_reducible rfl)
            try simp only [Act.put, zl, z0, z1]
            refine tL (v := ?_) 55 rfl (by kernel_rfl) (fun _ _ _ h => h) (Or.inl ⟨by rfl, ?_⟩) (by assumption) ?_; rotate_left
            · (intro w hSw; (try dsimp only at hSw); go_simp; try with_reducible rfl)
            try simp only [Act.put, zl, z0, z1]
            refine tL (v := ?_) 56 rfl (by kernel_rfl) (fun _ _ _ h => h) (Or.inl ⟨by rfl, ?_⟩) (by assumption) ?_; rotate_left
            · (intro w hSw; (try dsimp only at hSw); go_simp; try with_reducible rfl)
            try simp only [Act.put, zl, z0, z1]
            refine tL (v := ?_) 57 rfl (by kernel_rfl) (fun _ _ _ h => h) (Or.inl ⟨by rfl, ?_⟩) (by assumption) ?_; rotate_left
            · (intro w hSw; (try dsimp only at hSw); go_simp; try with_reducible rfl)
            try simp only [Act.put, zl, z0, z1]
            refine tL (v := ?_) 58 rfl (by kernel_rfl) (fun _ _ _ h => h) (Or.inl ⟨by rfl, ?_⟩) (by assumption) ?_; rotate_left
            · (intro w hSw; (try dsimp only at hSw); go_simp; try with_reducible rfl)
            try simp only [Act.put, zl, z0, z1]
            refine tL (v := ?_) 59 rfl (by kernel_rfl) (fun _ _ _ h => h) (Or.inl ⟨by rfl, ?_⟩) (by assumption) ?_; rotate_left
            · (intro w hSw; (try dsimp only at hSw); go_simp; try with_reducible rfl)
            try simp only [Act.put, zl, z0, z1]
            refine tL (v := ?_) 60 rfl (by kernel_rfl) (fun _ _ _ h => h) (Or.inl ⟨by rfl, ?_⟩) (by assumption) ?_; rotate_left
            · (intro w hSw; (try dsimp only at hSw); go_simp; try with_reducible rfl)
            try simp only [Act.put, zl, z0, z1]
            refine tL (v := ?_) 61 rfl (by kernel_rfl) (fun _ _ _ h => h) (Or.inl ⟨by rfl, ?_⟩) (by assumption) ?_; rotate_left
            · (intro w hSw; (try dsimp only at hSw); go_simp; try with_reducible rfl)
            try simp only [Act.put, zl, z0, z1]
            refine tL (v := ?_) 62 rfl (by kernel_rfl) (fun _ _ _ h => h) (Or.inl ⟨by rfl, ?_⟩) (by assumption) ?_; rotate_left
            · (intro w hSw; (try dsimp only at hSw); go_simp; try with_reducible rfl)
            try simp only [Act.put, zl, z0, z1]
            refine tL (v := ?_) 63 rfl (by kernel_rfl) (fun _ _ _ h => h) (Or.inl ⟨by rfl, ?_⟩) (by assumption) ?_; rotate_left
            · (intro w hSw; (try dsimp only at hSw); go_simp; try with_reducible rfl)
            try simp only [Act.put, zl, z0, z1]
            refine tL (v := ?_) 64 rfl (by kernel_rfl) (fun _ _ _ h => h) (Or.inl ⟨by rfl, ?_⟩) (by assumption) ?_; rotate_left
            · (intro w hSw; (try dsimp only at hSw); go_simp; try with_reducible rfl)
            try simp only [Act.put, zl, z0, z1]
            refine tL (v := ?_) 65 rfl (by kernel_rfl) (fun _ _ _ h => h) (Or.inl ⟨by rfl, ?_⟩) (by assumption) ?_; rotate_left
            · (intro w hSw; (try dsimp only at hSw); go_simp; try with_reducible rfl)
            try simp only [Act.put, zl, z0, z1]
            refine tL (v := ?_) 66 rfl (by kernel_rfl) (fun _ _ _ h => h) (Or.inl ⟨by rfl, ?_⟩) (by assumption) ?_; rotate_left
            · (intro w hSw; (try dsimp only at hSw); go_simp; try with_reducible rfl)
            try simp only [Act.put, zl, z0, z1]
            refine tL (v := ?_) 67 rfl (by kernel_rfl) (fun _ _ _ h => h) (Or.inl ⟨by rfl, ?_⟩) (by assumption) ?_; rotate_left
            · (intro w hSw; (try dsimp only at hSw); go_simp; try with_reducible rfl)
            try simp only [Act.put, zl, z0, z1]
            refine tL (v := ?_) 68 rfl (by kernel_rfl) (fun _ _ _ h => h) (Or.inl ⟨by rfl, ?_⟩) (by assumption) ?_; rotate_left
            · (intro w hSw; (try dsimp only at hSw); go_simp; try with_reducible rfl)
            try simp only [Act.put, zl, z0, z1]
            refine tL (v := ?_) 69 rfl (by kernel_rfl) (fun _ _ _ h => h) (Or.inl ⟨by rfl, ?_⟩) (by assumption) ?_; rotate_left
            · (intro w hSw; (try dsimp only at hSw); go_simp; try with_reducible rfl)
            try simp only [Act.put, zl, z0, z1]
            refine tL (v := ?_) 70 rfl (by kernel_rfl) (fun _ _ _ h => h) (Or.inl ⟨by rfl, ?_⟩) (by assumption) ?_; rotate_left
            · (intro w hSw; (try dsimp only at hSw); go_simp; try with_reducible rfl)
            try simp only [Act.put, zl, z0, z1]
            refine tL (v := ?_) 71 rfl (by kernel_rfl) (fun _ _ _ h => h) (Or.inl ⟨by rfl, ?_⟩) (by assumption) ?_; rotate_left
            · (intro w hSw; (try dsimp only at hSw); go_simp; try with_reducible rfl)
            try simp only [Act.put, zl, z0, z1]
            refine tL (v := ?_) 72 rfl (by kernel_rfl) (fun _ _ _ h => h) (Or.inl ⟨by rfl, ?_⟩) (by assumption) ?_; rotate_left
            · (intro w hSw; (try dsimp only at hSw); go_simp; try with_reducible rfl)
            try simp only [Act.put, zl, z0, z1]
            refine tL (v := ?_) 73 rfl (by kernel_rfl) (fun _ _ _ h => h) (Or.inl ⟨by rfl, ?_⟩) (by assumption) ?_; rotate_left
            · (intro w hSw; (try dsimp only at hSw); go_simp; try with_reducible rfl)
            try simp only [Act.put, zl, z0, z1]
            refine tL (v := ?_) 74 rfl (by kernel_rfl) (fun _ _ _ h => h) (Or.inl ⟨by rfl, ?_⟩) (by assumption) ?_; rotate_left
            · (intro w hSw; (try dsimp only at hSw); go_simp; try with_reducible rfl)
            try simp only [Act.put, zl, z0, z1]
            refine tL (v := ?_) 75 rfl (by kernel_rfl) (fun _ _ _ h => h) (Or.inl ⟨by rfl, ?_⟩) (by assumption) ?_; rotate_left
            · (intro w hSw; (try dsimp only at hSw); go_simp; try with_reducible rfl)
            try simp only [Act.put, zl, z0, z1]
            refine wpAnyH_ready (rs := [76]) (by kernel_rfl) (by simp) ?_
            refine consL 76 rfl (fun K hK => ?_) AllReadyH.nil
            go_simp
            (go_at_call 28; refine (turned_val ts g.server _ HTT.out HTB.out).mono ?_; rintro e w9 ⟨rfl, hb⟩; have hSn := hkeep _ _ hb (by assumption); (try clear hS); have hS := hSn; clear hSn)
            refine hK.out _ _ ?_ (fun hHeld2 => ?_)
            · (try dsimp only); exact hS
            clear hK K hHeld1
            try simp only [Act.put, zl, z0, z1]
            refine tL (v := ?_) 77 rfl (by kernel_rfl) (fun _ _ _ h => h) (Or.inl ⟨by rfl, ?_⟩) (by assumption) ?_; rotate_left
            · (intro w hSw; (try dsimp only at hSw); go_simp; try with_reducible rfl)
            try simp only [Act.put, zl, z0, z1]
            refine tL (v := ?_) 78 rfl (by kernel_rfl) (fun _ _ _ h => h) (Or.inl ⟨by rfl, ?_⟩) (by assumption) ?_; rotate_left
            · (intro w hSw; (try dsimp only at hSw); go_simp; try with_reducible rfl)
            try simp only [Act.put, zl, z0, z1]
            refine wpAnyH_done (by kernel_rfl) ?_ _
            have HB9 := hide hS.1
            clear hHeld2 hS
            go_wp2_with fail
            go_roundw
            case rel => exact ⟨j + 1, by omega, by go_num, HB9⟩
            case measure => simp [intOf]; omega
        · have hjn : j = m.log.length := by omega
          subst hjn
          clear hlt hj HLOG HLOG2 HG1 HG2 hl6
          have hcs0 : wr.cell? ⟨q3, 0, none⟩ = some (.slice B1 m.sets.length d1) := (HBj.out.cell (p := ⟨q3, 0, none⟩) hq3).trans ((hcs 0).trans rfl)
          clear hcs hct
          go_wp2_with fail
          go_loopw [14] (fun i wl => ∃ j : Nat, j ≤ m.sets.length ∧ i = .int .i64 j ∧ Hid (Below w6.heap.size w6 wl)) (fun i _ => m.sets.length - (intOf i).toNat)
          case atStart => exact ⟨0, by omega, rfl, HBj⟩
          case round =>
            obtain ⟨j, hj, rfl, HBl⟩ := hrel
            clear hcs0
            have c30 : wr.cell? ⟨q3, 0, none⟩ = some (.slice B1 m.sets.length d1) := (cell_of_row _ _ _ _ _ _ ((HBl.out.block q3 hq3).trans HN4.out)).trans rfl
            have c50 : wr.cell? ⟨q5, 0, none⟩ = some (.slice B2 m.sets.length d2) := (cell_of_row _ _ _ _ _ _ ((HBl.out.block q5 hq5).trans HN6.out)).trans rfl
            by_cases hlt : j < m.sets.length
            · as_aux_lemma =>
                obtain ⟨p, hp⟩ : ∃ p, m.sets[j]? = some p := ⟨_, List.getElem?_eq_getElem hlt⟩
                obtain ⟨b1, o1, hA1, hbB1, p0, p1⟩ := (HS1.out.below HBl.out) j p hp
                obtain ⟨b2, o2, hA2, hbB2, r0, r1⟩ := (HS2.out.below HBl.out) j (M.swap p) (by rw [List.getElem?_map, hp]; rfl)
                subst hA1 hA2
                replace r0 : wr.cell? ⟨b2, o2 + j * 2, none⟩ = some (.int .i64 p.B) := r0
                replace r1 : wr.cell? ⟨b2, o2 + j * 2 + 1, none⟩ = some (.int .i64 p.A) := r1
                have hlt' : (j : Int) < (m.sets.length : Int) := by omega
                have hj0 : (0 : Int) ≤ (j : Int) := by omega
                have hbz := HBl.out.size
                have hb1z : b1 < wr.heap.size := by omega
                have hb2z : b2 < wr.heap.size := by omega
                have hq3z : q3 < wr.heap.size := by omega
                have hq5z : q5 < wr.heap.size := by omega
                have hBj := HBl.out
                clear hp
                go_wp2_with fail
                have hkeep : ∀ u u' : World, Below u.heap.size u u' → (Below w6.heap.size w6 u ∧ q3 < u.heap.size ∧ q5 < u.heap.size ∧ b1 < u.heap.size ∧ b2 < u.heap.size ∧ u.cell? ⟨q3, 0, none⟩ = some (.slice (some ⟨b1, o1, none⟩) m.sets.length d1) ∧ u.cell? ⟨q5, 0, none⟩ = some (.slice (some ⟨b2, o2, none⟩) m.sets.length d2) ∧ u.cell? ⟨b1, o1 + j * 2, none⟩ = some (.int .i64 p.A) ∧ u.cell? ⟨b1, o1 + j * 2 + 1, none⟩ = some (.int .i64 p.B) ∧ u.cell? ⟨b2, o2 + j * 2, none⟩ = some (.int .i64 p.B) ∧ u.cell? ⟨b2, o2 + j * 2 + 1, none⟩ = some (.int .i64 p.A)) → (Below w6.heap.size w6 u' ∧ q3 < u'.heap.size ∧ q5 < u'.heap.size ∧ b1 < u'.heap.size ∧ b2 < u'.heap.size ∧ u'.cell? ⟨q3, 0, none⟩ = some (.slice (some ⟨b1, o1, none⟩) m.sets.length d1) ∧ u'.cell? ⟨q5, 0, none⟩ = some (.slice (some ⟨b2, o2, none⟩) m.sets.length d2) ∧ u'.cell? ⟨b1, o1 + j * 2, none⟩ = some (.int .i64 p.A) ∧ u'.cell? ⟨b1, o1 + j * 2 + 1, none⟩ = some (.int .i64 p.B) ∧ u'.cell? ⟨b2, o2 + j * 2, none⟩ = some (.int .i64 p.B) ∧ u'.cell? ⟨b2, o2 + j * 2 + 1, none⟩ = some (.int .i64 p.A)) := by
                  rintro u u' hb ⟨hB, l_q3, l_q5, l_b1, l_b2, k0, k1, k2, k3, k4, k5⟩
                  exact ⟨hB.trans (hb.mono hB.size), Nat.lt_of_lt_of_le l_q3 hb.size, Nat.lt_of_lt_of_le l_q5 hb.size, Nat.lt_of_lt_of_le l_b1 hb.size, Nat.lt_of_lt_of_le l_b2 hb.size, (hb.cell (p := ⟨q3, 0, none⟩) l_q3).trans k0, (hb.cell (p := ⟨q5, 0, none⟩) l_q5).trans k1, (hb.cell (p := ⟨b1, o1 + j * 2, none⟩) l_b1).trans k2, (hb.cell (p := ⟨b1, o1 + j * 2 + 1, none⟩) l_b1).trans k3, (hb.cell (p := ⟨b2, o2 + j * 2, none⟩) l_b2).trans k4, (hb.cell (p := ⟨b2, o2 + j * 2 + 1, none⟩) l_b2).trans k5⟩
                refine wp_region_held_drew (S := (fun w' => Below w6.heap.size w6 w' ∧ q3 < w'.heap.size ∧ q5 < w'.heap.size ∧ b1 < w'.heap.size ∧ b2 < w'.heap.size ∧ w'.cell? ⟨q3, 0, none⟩ = some (.slice (some ⟨b1, o1, none⟩) m.sets.length d1) ∧ w'.cell? ⟨q5, 0, none⟩ = some (.slice (some ⟨b2, o2, none⟩) m.sets.length d2) ∧ w'.cell? ⟨b1, o1 + j * 2, none⟩ = some (.int .i64 p.A) ∧ w'.cell? ⟨b1, o1 + j * 2 + 1, none⟩ = some (.int .i64 p.B) ∧ w'.cell? ⟨b2, o2 + j * 2, none⟩ = some (.int .i64 p.B) ∧ w'.cell? ⟨b2, o2 + j * 2 + 1, none⟩ = some (.int .i64 p.A))) (by kernel_rfl) ?_ (fun hHeld0 => ?_)
                · (try dsimp only); (first | (go_keep; done) | (go_split_ands; (repeat' apply And.intro) <;> first | (go_keep; done) | (simp [*, zcA, zcP, zfA, zfP]; done) | (simp [zcA, zcP] <;> rfl) | (simp [*, zsS, zsO, zsA]; done) | ((first | refine (hc _ _ ?_).trans ?_ | refine (hf _ _ ?_).trans ?_) <;> first | assumption | (simp; done) | (simp; omega) | omega | (go_keep; done) | (simp [*, zcA, zcP, zfA, zfP]; done) | (simp [zcA, zcP]; rfl)) | (repeat' first | exact zbR _ _ | assumption | refine zbD ?_ | refine zbA ?_ ?_ _ | refine zbS ?_ ?_ _ | refine zbT ?_ (by assumption) ?_ | (simp; done) | (simp; omega) | omega)))
                refine tL (v := ?_) 0 rfl (by kernel_rfl) (fun _ _ _ h => h) (Or.inl ⟨by rfl, ?_⟩) (by assumption) ?_; rotate_left
                · (intro w hSw; (try dsimp only at hSw); go_simp; try with_reducible rfl)
                try simp only [Act.put, zl, z0, z1]
                refine tL (v := ?_) 1 rfl (by kernel_rfl) (fun _ _ _ h => h) (Or.inl ⟨by rfl, ?_⟩) (by assumption) ?_; rotate_left
                · (intro w hSw; (try dsimp only at hSw); go_simp; try with_reducible rfl)
                try simp only [Act.put, zl, z0, z1]
                refine tL (v := ?_) 2 rfl (by kernel_rfl) (fun _ _ _ h => h) (Or.inl ⟨by rfl, ?_⟩) (by assumption) ?_; rotate_left
                · (intro w hSw; (try dsimp only at hSw); go_simp; try with_reducible rfl)
                try simp only [Act.put, zl, z0, z1]
                refine tL (v := ?_) 3 rfl (by kernel_rfl) (fun _ _ _ h => h) (Or.inl ⟨by rfl, ?_⟩) (by assumption) ?_; rotate_left
                · (intro w hSw; (try dsimp only at hSw); go_simp; try with_reducible rfl)
                try simp only [Act.put, zl, z0, z1]
                refine tL (v := ?_) 4 rfl (by kernel_rfl) (fun _ _ _ h => h) (Or.inl ⟨by rfl, ?_⟩) (by assumption) ?_; rotate_left
                · (intro w hSw; (try dsimp only at hSw); go_simp; try with_reducible rfl)
                try simp only [Act.put, zl, z0, z1]
                refine tL (v := ?_) 5 rfl (by kernel_rfl) (fun _ _ _ h => h) (Or.inl ⟨by rfl, ?_⟩) (by assumption) ?_; rotate_left
                · (intro w hSw; (try dsimp only at hSw); go_simp; try with_reducible rfl)
                try simp only [Act.put, zl, z0, z1]
                refine tL (v := ?_) 6 rfl (by kernel_rfl) (fun _ _ _ h => h) (Or.inl ⟨by rfl, ?_⟩) (by assumption) ?_; rotate_left
                · (intro w hSw; (try dsimp only at hSw); go_simp; try with_reducible rfl)
                try simp only [Act.put, zl, z0, z1]
                refine tL (v := ?_) 7 rfl (by kernel_rfl) (fun _ _ _ h => h) (Or.inl ⟨by rfl, ?_⟩) (by assumption) ?_; rotate_left
                · (intro w hSw; (try dsimp only at hSw); go_simp; try with_reducible rfl)
                try simp only [Act.put, zl, z0, z1]
                refine tL (v := ?_) 8 rfl (by kernel_rfl) (fun _ _ _ h => h) (Or.inl ⟨by rfl, ?_⟩) (by assumption) ?_; rotate_left
                · (intro w hSw; (try dsimp only at hSw); go_simp; try with_reducible rfl)
                try simp only [Act.put, zl, z0, z1]
                refine tL (v := ?_) 9 rfl (by kernel_rfl) (fun _ _ _ h => h) (Or.inl ⟨by rfl, ?_⟩) (by assumption) ?_; rotate_left
                · (intro w hSw; (try dsimp only at hSw); go_simp; try with_reducible rfl)
                try simp only [Act.put, zl, z0, z1]
                refine tL (v := ?_) 10 rfl (by kernel_rfl) (fun _ _ _ h => h) (Or.inl ⟨by rfl, ?_⟩) (by assumption) ?_; rotate_left
                · (intro w hSw; (try dsimp only at hSw); go_simp; try with_reducible rfl)
                try simp only [Act.put, zl, z0, z1]
                refine tL (v := ?_) 11 rfl (by kernel_rfl) (fun _ _ _ h => h) (Or.inl ⟨by rfl, ?_⟩) (by assumption) ?_; rotate_left
                · (intro w hSw; (try dsimp only at hSw); go_simp; try with_reducible rfl)
                try simp only [Act.put, zl, z0, z1]
                refine wpAnyH_ready (rs := [12]) (by kernel_rfl) (by simp) ?_
                refine consL 12 rfl (fun K hK => ?_) AllReadyH.nil
                go_simp
                (go_at_call 27; refine (lawSwapped_val _ _ _).mono ?_; rintro e w9 ⟨rfl, hb⟩; have hSn := hkeep _ _ hb (by assumption); (try clear hS); have hS := hSn; clear hSn)
                refine hK.out _ _ ?_ (fun hHeld1 => ?_)
                · (try dsimp only); exact hS
                clear hK K hHeld0
                try simp only [Act.put, zl, z0, z1]
                refine tL (v := ?_) 13 rfl (by kernel_rfl) (fun _ _ _ h => h) (Or.inl ⟨by rfl, ?_⟩) (by assumption) ?_; rotate_left
                · (intro w hSw; (try dsimp only at hSw); go_simp; try with_reducible rfl)
                try simp only [Act.put, zl, z0, z1]
                refine wpAnyH_done (by kernel_rfl) ?_ _
                have HB9 := hide hS.1
                clear hHeld1 hS
                go_wp2_with fail
                go_roundw
                case rel => exact ⟨j + 1, by omega, by go_num, HB9⟩
                case measure => simp [intOf]; omega
            · as_aux_lemma =>
                have hjn : j = m.sets.length := by omega
                subst hjn
                clear hlt hj HS1 HS2 hs6
                obtain ⟨ms, hms⟩ : ∃ ms, ms = M.turned m.server := ⟨_, rfl⟩
                obtain ⟨mw, hmw⟩ : ∃ mw, mw = M.turned m.winner := ⟨_, rfl⟩
                obtain ⟨⟨hv0, hv1⟩, hw0, hw1⟩ := HSRV.out
                have hsb := turned_bd (p := m.server) (by omega)
                have hst : M.turned ms = m.server := by rw [hms]; exact M.turned_turned _
                have hwb := turned_bd (p := m.winner) (by omega)
                have hwt : M.turned mw = m.winner := by rw [hmw]; exact M.turned_turned _
                have hn4 := (HBl.out.block q3 hq3).trans HN4.out
                have hn6 := (HBl.out.block q5 hq5).trans HN6.out
                rw [← hms] at hsb hn6
                rw [← hmw] at hwb hn6
                have HST := hide hst
                have HWT := hide hwt
                have HSB := hide hsb
                have HWB := hide hwb
                have HN4' := hide hn4
                have HN6' := hide hn6
                have hcr := fun i => cell_of_row wr q3 i _ _ _ HN4'.out
                have hcq := fun i => cell_of_row wr q5 i _ _ _ HN6'.out
                have hS : (fun w' => Below w6.heap.size w6 w' ∧ q3 < w'.heap.size ∧ q5 < w'.heap.size ∧ w'.cell? ⟨q3, 1, none⟩ = some (.int .i64 m.games.A) ∧ w'.cell? ⟨q3, 2, none⟩ = some (.int .i64 m.games.B) ∧ w'.cell? ⟨q3, 3, none⟩ = some (.int .i64 m.pts.A) ∧ w'.cell? ⟨q3, 4, none⟩ = some (.int .i64 m.pts.B) ∧ w'.cell? ⟨q3, 5, none⟩ = some (.int .i64 m.server) ∧ w'.cell? ⟨q3, 6, none⟩ = some (.int .i64 m.ends) ∧ w'.cell? ⟨q3, 7, none⟩ = some (.int .i64 m.balls) ∧ w'.cell? ⟨q3, 8, none⟩ = some (.int .i64 m.winner) ∧ w'.cell? ⟨q5, 1, none⟩ = some (.int .i64 m.games.B) ∧ w'.cell? ⟨q5, 2, none⟩ = some (.int .i64 m.games.A) ∧ w'.cell? ⟨q5, 3, none⟩ = some (.int .i64 m.pts.B) ∧ w'.cell? ⟨q5, 4, none⟩ = some (.int .i64 m.pts.A) ∧ w'.cell? ⟨q5, 5, none⟩ = some (.int .i64 ms) ∧ w'.cell? ⟨q5, 6, none⟩ = some (.int .i64 m.ends) ∧ w'.cell? ⟨q5, 7, none⟩ = some (.int .i64 m.balls) ∧ w'.cell? ⟨q5, 8, none⟩ = some (.int .i64 mw)) wr := ⟨HBl.out, blk_lt hn4, blk_lt hn6, (hcr 1).trans rfl, (hcr 2).trans rfl, (hcr 3).trans rfl, (hcr 4).trans rfl, (hcr 5).trans rfl, (hcr 6).trans rfl, (hcr 7).trans rfl, (hcr 8).trans rfl, (hcq 1).trans rfl, (hcq 2).trans rfl, (hcq 3).trans rfl, (hcq 4).trans rfl, (hcq 5).trans rfl, (hcq 6).trans rfl, (hcq 7).trans rfl, (hcq 8).trans rfl⟩
                (try dsimp only at hS)
                clear hms hmw hv0 hv1 hw0 hw1 hsb hst hwb hwt hn4 hn6 HN4 HN6 HN4' HN6' hcr hcq c50 HSRV HBj
                go_wp2_with fail
                have hkeep : ∀ u u' : World, Below u.heap.size u u' → (Below w6.heap.size w6 u ∧ q3 < u.heap.size ∧ q5 < u.heap.size ∧ u.cell? ⟨q3, 1, none⟩ = some (.int .i64 m.games.A) ∧ u.cell? ⟨q3, 2, none⟩ = some (.int .i64 m.games.B) ∧ u.cell? ⟨q3, 3, none⟩ = some (.int .i64 m.pts.A) ∧ u.cell? ⟨q3, 4, none⟩ = some (.int .i64 m.pts.B) ∧ u.cell? ⟨q3, 5, none⟩ = some (.int .i64 m.server) ∧ u.cell? ⟨q3, 6, none⟩ = some (.int .i64 m.ends) ∧ u.cell? ⟨q3, 7, none⟩ = some (.int .i64 m.balls) ∧ u.cell? ⟨q3, 8, none⟩ = some (.int .i64 m.winner) ∧ u.cell? ⟨q5, 1, none⟩ = some (.int .i64 m.games.B) ∧ u.cell? ⟨q5, 2, none⟩ = some (.int .i64 m.games.A) ∧ u.cell? ⟨q5, 3, none⟩ = some (.int .i64 m.pts.B) ∧ u.cell? ⟨q5, 4, none⟩ = some (.int .i64 m.pts.A) ∧ u.cell? ⟨q5, 5, none⟩ = some (.int .i64 ms) ∧ u.cell? ⟨q5, 6, none⟩ = some (.int .i64 m.ends) ∧ u.cell? ⟨q5, 7, none⟩ = some (.int .i64 m.balls) ∧ u.cell? ⟨q5, 8, none⟩ = some (.int .i64 mw)) → (Below w6.heap.size w6 u' ∧ q3 < u'.heap.size ∧ q5 < u'.heap.size ∧ u'.cell? ⟨q3, 1, none⟩ = some (.int .i64 m.games.A) ∧ u'.cell? ⟨q3, 2, none⟩ = some (.int .i64 m.games.B) ∧ u'.cell? ⟨q3, 3, none⟩ = some (.int .i64 m.pts.A) ∧ u'.cell? ⟨q3, 4, none⟩ = some (.int .i64 m.pts.B) ∧ u'.cell? ⟨q3, 5, none⟩ = some (.int .i64 m.server) ∧ u'.cell? ⟨q3, 6, none⟩ = some (.int .i64 m.ends) ∧ u'.cell? ⟨q3, 7, none⟩ = some (.int .i64 m.balls) ∧ u'.cell? ⟨q3, 8, none⟩ = some (.int .i64 m.winner) ∧ u'.cell? ⟨q5, 1, none⟩ = some (.int .i64 m.games.B) ∧ u'.cell? ⟨q5, 2, none⟩ = some (.int .i64 m.games.A) ∧ u'.cell? ⟨q5, 3, none⟩ = some (.int .i64 m.pts.B) ∧ u'.cell? ⟨q5, 4, none⟩ = some (.int .i64 m.pts.A) ∧ u'.cell? ⟨q5, 5, none⟩ = some (.int .i64 ms) ∧ u'.cell? ⟨q5, 6, none⟩ = some (.int .i64 m.ends) ∧ u'.cell? ⟨q5, 7, none⟩ = some (.int .i64 m.balls) ∧ u'.cell? ⟨q5, 8, none⟩ = some (.int .i64 mw)) := by
                  rintro u u' hb ⟨hB, l_q3, l_q5, k0, k1, k2, k3, k4, k5, k6, k7, k8, k9, k10, k11, k12, k13, k14, k15⟩
                  exact ⟨hB.trans (hb.mono hB.size), Nat.lt_of_lt_of_le l_q3 hb.size, Nat.lt_of_lt_of_le l_q5 hb.size, (hb.cell (p := ⟨q3, 1, none⟩) l_q3).trans k0, (hb.cell (p := ⟨q3, 2, none⟩) l_q3).trans k1, (hb.cell (p := ⟨q3, 3, none⟩) l_q3).trans k2, (hb.cell (p := ⟨q3, 4, none⟩) l_q3).trans k3, (hb.cell (p := ⟨q3, 5, none⟩) l_q3).trans k4, (hb.cell (p := ⟨q3, 6, none⟩) l_q3).trans k5, (hb.cell (p := ⟨q3, 7, none⟩) l_q3).trans k6, (hb.cell (p := ⟨q3, 8, none⟩) l_q3).trans k7, (hb.cell (p := ⟨q5, 1, none⟩) l_q5).trans k8, (hb.cell (p := ⟨q5, 2, none⟩) l_q5).trans k9, (hb.cell (p := ⟨q5, 3, none⟩) l_q5).trans k10, (hb.cell (p := ⟨q5, 4, none⟩) l_q5).trans k11, (hb.cell (p := ⟨q5, 5, none⟩) l_q5).trans k12, (hb.cell (p := ⟨q5, 6, none⟩) l_q5).trans k13, (hb.cell (p := ⟨q5, 7, none⟩) l_q5).trans k14, (hb.cell (p := ⟨q5, 8, none⟩) l_q5).trans k15⟩
                refine wp_region_held_drew (S := (fun w' => Below w6.heap.size w6 w' ∧ q3 < w'.heap.size ∧ q5 < w'.heap.size ∧ w'.cell? ⟨q3, 1, none⟩ = some (.int .i64 m.games.A) ∧ w'.cell? ⟨q3, 2, none⟩ = some (.int .i64 m.games.B) ∧ w'.cell? ⟨q3, 3, none⟩ = some (.int .i64 m.pts.A) ∧ w'.cell? ⟨q3, 4, none⟩ = some (.int .i64 m.pts.B) ∧ w'.cell? ⟨q3, 5, none⟩ = some (.int .i64 m.server) ∧ w'.cell? ⟨q3, 6, none⟩ = some (.int .i64 m.ends) ∧ w'.cell? ⟨q3, 7, none⟩ = some (.int .i64 m.balls) ∧ w'.cell? ⟨q3, 8, none⟩ = some (.int .i64 m.winner) ∧ w'.cell? ⟨q5, 1, none⟩ = some (.int .i64 m.games.B) ∧ w'.cell? ⟨q5, 2, none⟩ = some (.int .i64 m.games.A) ∧ w'.cell? ⟨q5, 3, none⟩ = some (.int .i64 m.pts.B) ∧ w'.cell? ⟨q5, 4, none⟩ = some (.int .i64 m.pts.A) ∧ w'.cell? ⟨q5, 5, none⟩ = some (.int .i64 ms) ∧ w'.cell? ⟨q5, 6, none⟩ = some (.int .i64 m.ends) ∧ w'.cell? ⟨q5, 7, none⟩ = some (.int .i64 m.balls) ∧ w'.cell? ⟨q5, 8, none⟩ = some (.int .i64 mw))) (by kernel_rfl) ?_ (fun hHeld0 => ?_)
                · (try dsimp only); (first | (go_keep; done) | (go_split_ands; (repeat' apply And.intro) <;> first | (go_keep; done) | (simp [*, zcA, zcP, zfA, zfP]; done) | (simp [zcA, zcP] <;> rfl) | (simp [*, zsS, zsO, zsA]; done) | ((first | refine (hc _ _ ?_).trans ?_ | refine (hf _ _ ?_).trans ?_) <;> first | assumption | (simp; done) | (simp; omega) | omega | (go_keep; done) | (simp [*, zcA, zcP, zfA, zfP]; done) | (simp [zcA, zcP]; rfl)) | (repeat' first | exact zbR _ _ | assumption | refine zbD ?_ | refine zbA ?_ ?_ _ | refine zbS ?_ ?_ _ | refine zbT ?_ (by assumption) ?_ | (simp; done) | (simp; omega) | omega)))
                refine tL (v := ?_) 0 rfl (by kernel_rfl) (fun _ _ _ h => h) (Or.inl ⟨by rfl, ?_⟩) (by assumption) ?_; rotate_left
                · (intro w hSw; (try dsimp only at hSw); go_simp; try with_reducible rfl)
                try simp only [Act.put, zl, z0, z1]
                refine tL (v := ?_) 1 rfl (by kernel_rfl) (fun _ _ _ h => h) (Or.inl ⟨by rfl, ?_⟩) (by assumption) ?_; rotate_left
                · (intro w hSw; (try dsimp only at hSw); go_simp; try with_reducible rfl)
                try simp only [Act.put, zl, z0, z1]
                refine tL (v := ?_) 2 rfl (by kernel_rfl) (fun _ _ _ h => h) (Or.inl ⟨by rfl, ?_⟩) (by assumption) ?_; rotate_left
                · (intro w hSw; (try dsimp only at hSw); go_simp; try with_reducible rfl)
                try simp only [Act.put, zl, z0, z1]
                refine tL (v := ?_) 3 rfl (by kernel_rfl) (fun _ _ _ h => h) (Or.inl ⟨by rfl, ?_⟩) (by assumption) ?_; rotate_left
                · (intro w hSw; (try dsimp only at hSw); go_simp; try with_reducible rfl)
                try simp only [Act.put, zl, z0, z1]
                refine tL (v := ?_) 4 rfl (by kernel_rfl) (fun _ _ _ h => h) (Or.inl ⟨by rfl, ?_⟩) (by assumption) ?_; rotate_left
                · (intro w hSw; (try dsimp only at hSw); go_simp; try with_reducible rfl)
                try simp only [Act.put, zl, z0, z1]
                refine tL (v := ?_) 5 rfl (by kernel_rfl) (fun _ _ _ h => h) (Or.inl ⟨by rfl, ?_⟩) (by assumption) ?_; rotate_left
                · (intro w hSw; (try dsimp only at hSw); go_simp; try with_reducible rfl)
                try simp only [Act.put, zl, z0, z1]
                refine wpAnyH_ready (rs := [6]) (by kernel_rfl) (by simp) ?_
                refine consL 6 rfl (fun K hK => ?_) AllReadyH.nil
                go_simp
                (go_at_call 27; refine (lawSwapped_val _ _ _).mono ?_; rintro e w9 ⟨rfl, hb⟩; have hSn := hkeep _ _ hb (by assumption); (try clear hS); have hS := hSn; clear hSn)
                refine hK.out _ _ ?_ (fun hHeld1 => ?_)
                · (try dsimp only); exact hS
                clear hK K hHeld0
                try simp only [Act.put, zl, z0, z1]
                refine tL (v := ?_) 7 rfl (by kernel_rfl) (fun _ _ _ h => h) (Or.inl ⟨by rfl, ?_⟩) (by assumption) ?_; rotate_left
                · (intro w hSw; (try dsimp only at hSw); go_simp; try with_reducible rfl)
                try simp only [Act.put, zl, z0, z1]
                refine tL (v := ?_) 8 rfl (by kernel_rfl) (fun _ _ _ h => h) (Or.inl ⟨by rfl, ?_⟩) (by assumption) ?_; rotate_left
                · (intro w hSw; (try dsimp only at hSw); go_simp; try with_reducible rfl)
                try simp only [Act.put, zl, z0, z1]
                refine tL (v := ?_) 9 rfl (by kernel_rfl) (fun _ _ _ h => h) (Or.inl ⟨by rfl, ?_⟩) (by assumption) ?_; rotate_left
                · (intro w hSw; (try dsimp only at hSw); go_simp; try with_reducible rfl)
                try simp only [Act.put, zl, z0, z1]
                refine tL (v := ?_) 10 rfl (by kernel_rfl) (fun _ _ _ h => h) (Or.inl ⟨by rfl, ?_⟩) (by assumption) ?_; rotate_left
                · (intro w hSw; (try dsimp only at hSw); go_simp; try with_reducible rfl)
                try simp only [Act.put, zl, z0, z1]
                refine tL (v := ?_) 11 rfl (by kernel_rfl) (fun _ _ _ h => h) (Or.inl ⟨by rfl, ?_⟩) (by assumption) ?_; rotate_left
                · (intro w hSw; (try dsimp only at hSw); go_simp; try with_reducible rfl)
                try simp only [Act.put, zl, z0, z1]
                refine tL (v := ?_) 12 rfl (by kernel_rfl) (fun _ _ _ h => h) (Or.inl ⟨by rfl, ?_⟩) (by assumption) ?_; rotate_left
                · (intro w hSw; (try dsimp only at hSw); go_simp; try with_reducible rfl)
                try simp only [Act.put, zl, z0, z1]
                refine tL (v := ?_) 13 rfl (by kernel_rfl) (fun _ _ _ h => h) (Or.inl ⟨by rfl, ?_⟩) (by assumption) ?_; rotate_left
                · (intro w hSw; (try dsimp only at hSw); go_simp; try with_reducible rfl)
                try simp only [Act.put, zl, z0, z1]
                refine tL (v := ?_) 14 rfl (by kernel_rfl) (fun _ _ _ h => h) (Or.inl ⟨by rfl, ?_⟩) (by assumption) ?_; rotate_left
                · (intro w hSw; (try dsimp only at hSw); go_simp; try with_reducible rfl)
                try simp only [Act.put, zl, z0, z1]
                refine wpAnyH_ready (rs := [15]) (by kernel_rfl) (by simp) ?_
                refine consL 15 rfl (fun K hK => ?_) AllReadyH.nil
                go_simp
                (go_at_call 27; refine (lawSwapped_val _ _ _).mono ?_; rintro e w9 ⟨rfl, hb⟩; have hSn := hkeep _ _ hb (by assumption); (try clear hS); have hS := hSn; clear hSn)
                refine hK.out _ _ ?_ (fun hHeld2 => ?_)
                · (try dsimp only); exact hS
                clear hK K hHeld1
                try simp only [Act.put, zl, z0, z1]
                refine tL (v := ?_) 16 rfl (by kernel_rfl) (fun _ _ _ h => h) (Or.inl ⟨by rfl, ?_⟩) (by assumption) ?_; rotate_left
                · (intro w hSw; (try dsimp only at hSw); go_simp; try with_reducible rfl)
                try simp only [Act.put, zl, z0, z1]
                refine tL (v := ?_) 17 rfl (by kernel_rfl) (fun _ _ _ h => h) (Or.inl ⟨by rfl, ?_⟩) (by assumption) ?_; rotate_left
                · (intro w hSw; (try dsimp only at hSw); go_simp; try with_reducible rfl)
                try simp only [Act.put, zl, z0, z1]
                refine tL (v := ?_) 18 rfl (by kernel_rfl) (fun _ _ _ h => h) (Or.inl ⟨by rfl, ?_⟩) (by assumption) ?_; rotate_left
                · (intro w hSw; (try dsimp only at hSw); go_simp; try with_reducible rfl)
                try simp only [Act.put, zl, z0, z1]
                refine tL (v := ?_) 19 rfl (by kernel_rfl) (fun _ _ _ h => h) (Or.inl ⟨by rfl, ?_⟩) (by assumption) ?_; rotate_left
                · (intro w hSw; (try dsimp only at hSw); go_simp; try with_reducible rfl)
                try simp only [Act.put, zl, z0, z1]
                refine tL (v := ?_) 20 rfl (by kernel_rfl) (fun _ _ _ h => h) (Or.inl ⟨by rfl, ?_⟩) (by assumption) ?_; rotate_left
                · (intro w hSw; (try dsimp only at hSw); go_simp; try with_reducible rfl)
                try simp only [Act.put, zl, z0, z1]
                refine tL (v := ?_) 21 rfl (by kernel_rfl) (fun _ _ _ h => h) (Or.inl ⟨by rfl, ?_⟩) (by assumption) ?_; rotate_left
                · (intro w hSw; (try dsimp only at hSw); go_simp; try with_reducible rfl)
                try simp only [Act.put, zl, z0, z1]
                refine tL (v := ?_) 22 rfl (by kernel_rfl) (fun _ _ _ h => h) (Or.inl ⟨by rfl, ?_⟩) (by assumption) ?_; rotate_left
                · (intro w hSw; (try dsimp only at hSw); go_simp; try with_reducible rfl)
                try simp only [Act.put, zl, z0, z1]
                refine wpAnyH_ready (rs := [23]) (by kernel_rfl) (by simp) ?_
                refine consL 23 rfl (fun K hK => ?_) AllReadyH.nil
                go_simp
                (go_at_call 28; refine (turned_any _ _ (by first | exact HSB.out | exact HWB.out)).mono ?_; rintro e w9 ⟨rfl, hb⟩; have hSn := hkeep _ _ hb (by assumption); (try clear hS); have hS := hSn; clear hSn; first | rw [HST.out] | rw [HWT.out])
                refine hK.out _ _ ?_ (fun hHeld3 => ?_)
                · (try dsimp only); exact hS
                clear hK K hHeld2
                try simp only [Act.put, zl, z0, z1]
                refine tL (v := ?_) 24 rfl (by kernel_rfl) (fun _ _ _ h => h) (Or.inl ⟨by rfl, ?_⟩) (by assumption) ?_; rotate_left
                · (intro w hSw; (try dsimp only at hSw); go_simp; try with_reducible rfl)
                try simp only [Act.put, zl, z0, z1]
                refine tL (v := ?_) 25 rfl (by kernel_rfl) (fun _ _ _ h => h) (Or.inl ⟨by rfl, ?_⟩) (by assumption) ?_; rotate_left
                · (intro w hSw; (try dsimp only at hSw); go_simp; try with_reducible rfl)
                try simp only [Act.put, zl, z0, z1]
                refine tL (v := ?_) 26 rfl (by kernel_rfl) (fun _ _ _ h => h) (Or.inl ⟨by rfl, ?_⟩) (by assumption) ?_; rotate_left
                · (intro w hSw; (try dsimp only at hSw); go_simp; try with_reducible rfl)
                try simp only [Act.put, zl, z0, z1]
                refine tL (v := ?_) 27 rfl (by kernel_rfl) (fun _ _ _ h => h) (Or.inl ⟨by rfl, ?_⟩) (by assumption) ?_; rotate_left
                · (intro w hSw; (try dsimp only at hSw); go_simp; try with_reducible rfl)
                try simp only [Act.put, zl, z0, z1]
                refine tL (v := ?_) 28 rfl (by kernel_rfl) (fun _ _ _ h => h) (Or.inl ⟨by rfl, ?_⟩) (by assumption) ?_; rotate_left
                · (intro w hSw; (try dsimp only at hSw); go_simp; try with_reducible rfl)
                try simp only [Act.put, zl, z0, z1]
                refine tL (v := ?_) 29 rfl (by kernel_rfl) (fun _ _ _ h => h) (Or.inl ⟨by rfl, ?_⟩) (by assumption) ?_; rotate_left
                · (intro w hSw; (try dsimp only at hSw); go_simp; try with_reducible rfl)
                try simp only [Act.put, zl, z0, z1]
                refine tL (v := ?_) 30 rfl (by kernel_rfl) (fun _ _ _ h => h) (Or.inl ⟨by rfl, ?_⟩) (by assumption) ?_; rotate_left
                · (intro w hSw; (try dsimp only at hSw); go_simp; try with_reducible rfl)
                try simp only [Act.put, zl, z0, z1]
                refine tL (v := ?_) 31 rfl (by kernel_rfl) (fun _ _ _ h => h) (Or.inl ⟨by rfl, ?_⟩) (by assumption) ?_; rotate_left
                · (intro w hSw; (try dsimp only at hSw); go_simp; try with_reducible rfl)
                try simp only [Act.put, zl, z0, z1]
                refine tL (v := ?_) 32 rfl (by kernel_rfl) (fun _ _ _ h => h) (Or.inl ⟨by rfl, ?_⟩) (by assumption) ?_; rotate_left
                · (intro w hSw; (try dsimp only at hSw); go_simp; try with_reducible rfl)
                try simp only [Act.put, zl, z0, z1]
                refine tL (v := ?_) 33 rfl (by kernel_rfl) (fun _ _ _ h => h) (Or.inl ⟨by rfl, ?_⟩) (by assumption) ?_; rotate_left
                · (intro w hSw; (try dsimp only at hSw); go_simp; try with_reducible rfl)
                try simp only [Act.put, zl, z0, z1]
                refine tL (v := ?_) 34 rfl (by kernel_rfl) (fun _ _ _ h => h) (Or.inl ⟨by rfl, ?_⟩) (by assumption) ?_; rotate_left
                · (intro w hSw; (try dsimp only at hSw); go_simp; try with_reducible rfl)
                try simp only [Act.put, zl, z0, z1]
                refine tL (v := ?_) 35 rfl (by kernel_rfl) (fun _ _ _ h => h) (Or.inl ⟨by rfl, ?_⟩) (by assumption) ?_; rotate_left
                · (intro w hSw; (try dsimp only at hSw); go_simp; try with_reducible rfl)
                try simp only [Act.put, zl, z0, z1]
                refine tL (v := ?_) 36 rfl (by kernel_rfl) (fun _ _ _ h => h) (Or.inl ⟨by rfl, ?_⟩) (by assumption) ?_; rotate_left
                · (intro w hSw; (try dsimp only at hSw); go_simp; try with_reducible rfl)
                try simp only [Act.put, zl, z0, z1]
                refine tL (v := ?_) 37 rfl (by kernel_rfl) (fun _ _ _ h => h) (Or.inl ⟨by rfl, ?_⟩) (by assumption) ?_; rotate_left
                · (intro w hSw; (try dsimp only at hSw); go_simp; try with_reducible rfl)
                try simp only [Act.put, zl, z0, z1]
                refine tL (v := ?_) 38 rfl (by kernel_rfl) (fun _ _ _ h => h) (Or.inl ⟨by rfl, ?_⟩) (by assumption) ?_; rotate_left
                · (intro w hSw; (try dsimp only at hSw); go_simp; try with_reducible rfl)
                try simp only [Act.put, zl, z0, z1]
                refine tL (v := ?_) 39 rfl (by kernel_rfl) (fun _ _ _ h => h) (Or.inl ⟨by rfl, ?_⟩) (by assumption) ?_; rotate_left
                · (intro w hSw; (try dsimp only at hSw); go_simp; try with_reducible rfl)
                try simp only [Act.put, zl, z0, z1]
                refine tL (v := ?_) 40 rfl (by kernel_rfl) (fun _ _ _ h => h) (Or.inl ⟨by rfl, ?_⟩) (by assumption) ?_; rotate_left
                · (intro w hSw; (try dsimp only at hSw); go_simp; try with_reducible rfl)
                try simp only [Act.put, zl, z0, z1]
                refine tL (v := ?_) 41 rfl (by kernel_rfl) (fun _ _ _ h => h) (Or.inl ⟨by rfl, ?_⟩) (by assumption) ?_; rotate_left
                · (intro w hSw; (try dsimp only at hSw); go_simp; try with_reducible rfl)
                try simp only [Act.put, zl, z0, z1]
                refine tL (v := ?_) 42 rfl (by kernel_rfl) (fun _ _ _ h => h) (Or.inl ⟨by rfl, ?_⟩) (by assumption) ?_; rotate_left
                · (intro w hSw; (try dsimp only at hSw); go_simp; try with_reducible rfl)
                try simp only [Act.put, zl, z0, z1]
                refine tL (v := ?_) 43 rfl (by kernel_rfl) (fun _ _ _ h => h) (Or.inl ⟨by rfl, ?_⟩) (by assumption) ?_; rotate_left
                · (intro w hSw; (try dsimp only at hSw); go_simp; try with_reducible rfl)
                try simp only [Act.put, zl, z0, z1]
                refine tL (v := ?_) 44 rfl (by kernel_rfl) (fun _ _ _ h => h) (Or.inl ⟨by rfl, ?_⟩) (by assumption) ?_; rotate_left
                · (intro w hSw; (try dsimp only at hSw); go_simp; try with_reducible rfl)
                try simp only [Act.put, zl, z0, z1]
                refine wpAnyH_ready (rs := [45]) (by kernel_rfl) (by simp) ?_
                refine consL 45 rfl (fun K hK => ?_) AllReadyH.nil
                go_simp
                (go_at_call 28; refine (turned_any _ _ (by first | exact HSB.out | exact HWB.out)).mono ?_; rintro e w9 ⟨rfl, hb⟩; have hSn := hkeep _ _ hb (by assumption); (try clear hS); have hS := hSn; clear hSn; first | rw [HST.out] | rw [HWT.out])
                refine hK.out _ _ ?_ (fun hHeld4 => ?_)
                · (try dsimp only); exact hS
                clear hK K hHeld3
                try simp only [Act.put, zl, z0, z1]
                refine tL (v := ?_) 46 rfl (by kernel_rfl) (fun _ _ _ h => h) (Or.inl ⟨by rfl, ?_⟩) (by assumption) ?_; rotate_left
                · (intro w hSw; (try dsimp only at hSw); go_simp; try with_reducible rfl)
                try simp only [Act.put, zl, z0, z1]
                refine tL (v := ?_) 47 rfl (by kernel_rfl) (fun _ _ _ h => h) (Or.inl ⟨by rfl, ?_⟩) (by assumption) ?_; rotate_left
                · (intro w hSw; (try dsimp only at hSw); go_simp; try with_reducible rfl)
                try simp only [Act.put, zl, z0, z1]
                refine tL (v := ?_) 48 rfl (by kernel_rfl) (fun _ _ _ h => h) (Or.inl ⟨by rfl, ?_⟩) (by assumption) ?_; rotate_left
                · (intro w hSw; (try dsimp only at hSw); go_simp; try with_reducible rfl)
                try simp only [Act.put, zl, z0, z1]
                refine wpAnyH_ready (rs := [49]) (by kernel_rfl) (by simp) ?_
                refine consL 49 rfl (fun K hK => ?_) AllReadyH.nil
                go_simp
                (go_at_call 10; refine (works_any _).mono ?_; rintro e w9 ⟨rfl, hb⟩; have hSn := hkeep _ _ hb (by assumption); (try clear hS); have hS := hSn; clear hSn)
                refine hK.out _ _ ?_ (fun hHeld5 => ?_)
                · (try dsimp only); exact hS
                clear hK K hHeld4
                try simp only [Act.put, zl, z0, z1]
                refine tL (v := ?_) 50 rfl (by kernel_rfl) (fun _ _ _ h => h) (Or.inl ⟨by rfl, ?_⟩) (by assumption) ?_; rotate_left
                · (intro w hSw; (try dsimp only at hSw); go_simp; try with_reducible rfl)
                try simp only [Act.put, zl, z0, z1]
                refine tL (v := ?_) 51 rfl (by kernel_rfl) (fun _ _ _ h => h) (Or.inl ⟨by rfl, ?_⟩) (by assumption) ?_; rotate_left
                · (intro w hSw; (try dsimp only at hSw); go_simp; try with_reducible rfl)
                try simp only [Act.put, zl, z0, z1]
                refine wpAnyH_done (by kernel_rfl) ?_ _
                have HB9 := hide (HB.out.trans (hS.1.mono HB.out.size))
                go_wp2_with fail
                go_ret
                exact ⟨rfl, HB9.out⟩

theorem sidesLaw_any (f : M.Fm) (first : Int) (A : Option Addr) (n c : Nat) (xs : List Int) (w : World) (hn : xs.length = n) (hr : RdI w w.heap.size A xs) (hcm : c ≤ maxLen) (hnc : n ≤ c) (hA : A = none → c = 0) :
    Calls Try.prog 6 #[.agg #[.int .i64 f.sets, .int .i64 f.games, .bool f.noAd, .int .i64 f.tie, .int .i64 f.to, .int .i64 f.lastTie, .int .i64 f.lastTo, .int .i64 f.first, .int .i64 f.next, .bool f.doubles], .agg #[.int .i64 first, .slice A n c]] w fun e w' => e = .returned (.bool true) ∧ Below w.heap.size w w' := by
  cases h : (M.playE f first xs == 0)
  · exact sidesLaw_not f first A n c xs w hn hr (by omega) h
  · exact sidesLaw_ok f first A n c xs w hn hr (by simpa using h)

end Go.Proofs.Ytbjmnlhehkcakaa

namespace Go.Proofs.Ytbjmnlhehkcakaa
open Go.ChangeShapes Go.WideShapes Go.ChangeAt Go.RowKit Go.Deep Go.Joins

theorem Try.ownScoreSides : ownKnob Try.prog.godebug = none := by kernel_rfl

set_option maxRecDepth 100000 in
theorem scoreSides_call (H : Type) (enc : TypeId × Value → H) (W : World) (base : Nat) (args : Array Value) (ds : List (DataW H)) (p : List MemPlace) (hval : ∀ (j : Nat) t v, Try.f6.params[j]? = some t → args[j]? = some v → Value.okWide Try.prog W .any base t v)
    (hA : DataW.TrodAll enc Try.prog W 0 (fun _ => true) true Try.f6.params.toList args.toList ds p) : Calls Try.prog 6 args W fun e W' => e = .returned (.bool true) ∧ Below W.heap.size W W' := by
  rw [Try.params6] at hA hval
  obtain ⟨v0, v1, d0, d1, p0, p1, rfl, rfl, rfl, h0, h1⟩ := trodAll_two hA
  obtain ⟨f, rfl⟩ := open_fmt (hval 0 23 v0 rfl rfl) h0
  obtain ⟨first, A, n, c, xs, rfl, hwf, hnc, hcm, hn, hr, hxw, hA0⟩ := open_points (hval 1 26 v1 rfl rfl) h1
  exact sidesLaw_any f first A n c xs W hn hr hcm hnc hA0

set_option maxRecDepth 100000 in
theorem ScoreSides_holds : Rows.ScoreSidesSaid :=
  OpenClaim.holds_of_wide (p := Try.pinned) (s := Rows.scoreSidesSpec) (c := Rows.scoreSidesRow) 6 Try.f6 rfl rfl rfl rfl rfl rfl rfl ⟨rfl, rfl, rfl, rfl, rfl⟩ rfl rfl rfl rfl rfl (by kernel_rfl) Try.func6 (by kernel_rfl)
    (of_decide_eq_true (by kernel_rfl)) (by unfold Func.isWrapper; first | (rw [if_pos (by decide +kernel)]; kernel_rfl) | (rw [if_neg (by decide +kernel)]; exact ⟨rfl, rfl⟩))
    (fun os started H enc _ => law_lift (C := Try.checked) (F := 6) (fn := Try.f6) (s := Rows.scoreSidesSpec) (bt := 4) started Try.ownScoreSides (by kernel_rfl) Try.func6 (by kernel_rfl) Try.underlying4 rfl laidOut (of_decide_eq_true (by kernel_rfl))
      (fun ds hds => match ds, hds with | [_, _], _ => rfl)
      (ChangeSpec.witness6 (enc := enc) (C := Try.checked) false ⟨#[], #[.agg #[.int .i64 0, .int .i64 0, .bool false, .int .i64 0, .int .i64 0, .int .i64 0, .int .i64 0, .int .i64 0, .int .i64 0, .bool false], .agg #[.int .i64 0, .slice none 0 0]], []⟩ 8 (by kernel_rfl) (by kernel_rfl) (by kernel_rfl) (by kernel_rfl))
      (fun W base args ds p hval hA _ => scoreSides_call H enc W base args ds p hval hA) _ _ _)

end Go.Proofs.Ytbjmnlhehkcakaa
