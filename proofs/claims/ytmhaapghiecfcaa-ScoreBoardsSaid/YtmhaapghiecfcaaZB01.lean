/-
  Part of a claim's texts: contracts of the program's functions and the plain functions that they compute, in build order.
-/
import Derived.Below
import Derived.Test.YtmhaapghiecfcaaRows
import Derived.WalkKit
import Derived.WalkSpells
import Derived.WalkLawsBesides
import Derived.Deep.QuietTactic
import Derived.BigQuiet
import Derived.Deep.RegionHeld3
import Derived.IntWalk
import Derived.KernelRfl
import Derived.LoopTactic
import Derived.Deep.DrawnRows
namespace Go.Proofs.Ytmhaapghiecfcaa
theorem zbR (B : Nat) (w : World) : Go.RowKit.Below B w w := Go.RowKit.Below.refl B w
theorem zbD {B : Nat} {a w : World} (h : Go.RowKit.Below B a w) : Go.RowKit.Below B a w.drew := h.drew
theorem zbA {B : Nat} {a w : World} (h : Go.RowKit.Below B a w) (hB : B ≤ w.heap.size) (o : Obj) : Go.RowKit.Below B a (w.alloc o) := h.alloc hB o
theorem zbS {B : Nat} {a w : World} (h : Go.RowKit.Below B a w) {p : Addr} (hB : B ≤ p.block) (u : Value) : Go.RowKit.Below B a (w.setCell p u) := h.setCell hB u
theorem zbT {B B' : Nat} {a b c : World} (h1 : Go.RowKit.Below B a b) (h2 : Go.RowKit.Below B' b c) (hB : B ≤ B') : Go.RowKit.Below B a c := h1.trans (h2.mono hB)
namespace M

structure Pr where
  A : Int
  B : Int
deriving DecidableEq

structure Fm where
  sets : Int
  games : Int
  noAd : Bool
  tie : Int
  to : Int
  lastTie : Int
  lastTo : Int
  first : Int
  next : Int
  doubles : Bool
deriving DecidableEq

structure Small (p : Pr) : Prop where
  a0 : -1000000 ≤ p.A
  a1 : p.A ≤ 1000000
  b0 : -1000000 ≤ p.B
  b1 : p.B ≤ 1000000

structure Valid (f : Fm) : Prop where
  s0 : 1 ≤ f.sets
  s1 : f.sets ≤ 3
  g0 : 1 ≤ f.games
  g1 : f.games ≤ 8
  t0 : -1 ≤ f.tie
  t1 : f.tie ≤ f.games
  tt : f.tie = -1 ∨ f.tie = 0 ∨ f.tie = f.games - 1 ∨ f.tie = f.games
  l0 : -1 ≤ f.lastTie
  l1 : f.lastTie ≤ f.games
  lt : f.lastTie = -1 ∨ f.lastTie = 0 ∨ f.lastTie = f.games - 1 ∨ f.lastTie = f.games
  o0 : 1 ≤ f.to
  o1 : f.to ≤ 15
  p0 : 1 ≤ f.lastTo
  p1 : f.lastTo ≤ 15
  f0 : 0 ≤ f.first
  f1 : f.first ≤ 20
  n0 : 0 ≤ f.next
  n1 : f.next ≤ 20

def within (n lo hi : Int) : Bool := decide (lo ≤ n) && decide (n ≤ hi)
def tieOk (g n : Int) : Bool := n == -1 || n == 0 || n == g - 1 || n == g
def validB (f : Fm) : Bool := within f.sets 1 3 && within f.games 1 8 && tieOk f.games f.tie && tieOk f.games f.lastTie && within f.to 1 15 && within f.lastTo 1 15 && within f.first 0 20 && within f.next 0 20

theorem validB_iff (f : Fm) : validB f = true ↔ Valid f := by
  simp only [validB, within, tieOk, Bool.and_eq_true, Bool.or_eq_true, decide_eq_true_eq, beq_iff_eq]
  constructor
  · rintro ⟨⟨⟨⟨⟨⟨⟨⟨a, b⟩, c, d⟩, e⟩, g⟩, h, i⟩, j, k⟩, l, m⟩, n, o⟩
    exact ⟨a, b, c, d, by omega, by omega, by omega, by omega, by omega, by omega, h, i, j, k, l, m, n, o⟩
  · rintro ⟨a, b, c, d, e0, e1, e, g0, g1, g, h, i, j, k, l, m, n, o⟩
    exact ⟨⟨⟨⟨⟨⟨⟨⟨a, b⟩, c, d⟩, by omega⟩, by omega⟩, h, i⟩, j, k⟩, l, m⟩, n, o⟩

def of (p : Pr) (s : Int) : Int := if s = 0 then p.A else p.B
def plus (p : Pr) (s : Int) : Pr := if s = 0 then ⟨p.A + 1, p.B⟩ else ⟨p.A, p.B + 1⟩
def minus (p : Pr) (s : Int) : Pr := if s = 0 then ⟨p.A - 1, p.B⟩ else ⟨p.A, p.B - 1⟩
def near (p : Pr) : Bool := decide (-2 < p.A - p.B) && decide (p.A - p.B < 2)
def winner (f : Fm) (won : Pr) : Int := if won.A = f.sets then 0 else if won.B = f.sets then 1 else -1
def lastB (f : Fm) (won : Pr) : Bool := won.A == f.sets - 1 && won.B == f.sets - 1
def ofSet (f : Fm) (won : Pr) : Fm := if lastB f won then { f with tie := f.lastTie, to := f.lastTo } else f
def isTie (s : Fm) (g : Pr) : Bool := g.A == s.tie && g.B == s.tie
def aimTo (s : Fm) (tie : Bool) : Int := if tie then s.to else 4
def aimLead (s : Fm) (tie : Bool) : Int := if tie then 2 else if s.noAd then 1 else 2
def endsGame (s : Fm) (tie : Bool) (p : Pr) (side : Int) : Bool := decide (aimTo s tie ≤ of p side) && decide (aimLead s tie ≤ of p side - of p (1 - side))
def endsSet (s : Fm) (g : Pr) (side : Int) : Bool := isTie s g || (decide (s.games ≤ of (plus g side) side) && !near (plus g side))
def pointsOfGame (s : Fm) (tie : Bool) (p : Pr) (side : Int) : Int := max (aimTo s tie) (of p (1 - side) + aimLead s tie) - of p side

theorem Small.of_lo {p : Pr} (h : Small p) (s : Int) : -1000000 ≤ of p s := by unfold M.of; split <;> first | exact h.a0 | exact h.b0
theorem Small.of_hi {p : Pr} (h : Small p) (s : Int) : of p s ≤ 1000000 := by unfold M.of; split <;> first | exact h.a1 | exact h.b1
theorem aimTo_lo {s : Fm} (h : Valid s) (t : Bool) : 1 ≤ aimTo s t := by unfold aimTo; split <;> first | exact h.o0 | omega
theorem aimTo_hi {s : Fm} (h : Valid s) (t : Bool) : aimTo s t ≤ 15 := by unfold aimTo; split <;> first | exact h.o1 | omega
theorem aimLead_lo (s : Fm) (t : Bool) : 1 ≤ aimLead s t := by unfold aimLead; repeat' split
                                                               all_goals omega
theorem aimLead_hi (s : Fm) (t : Bool) : aimLead s t ≤ 2 := by unfold aimLead; repeat' split
                                                               all_goals omega
theorem Small.plus {p : Pr} (h : Small p) (hs : p.A ≤ 999999 ∧ p.B ≤ 999999) (s : Int) : Small (plus p s) := by
  obtain ⟨a, b, c, d⟩ := h
  unfold M.plus; split <;> exact ⟨by dsimp; omega, by dsimp; omega, by dsimp; omega, by dsimp; omega⟩
theorem Valid.ofSet {f : Fm} (h : Valid f) (won : Pr) : Valid (ofSet f won) := by
  unfold M.ofSet
  split
  · obtain ⟨a, b, c, d, e0, e1, e, g0, g1, g, h, i, j, k, l, m, n, o⟩ := h
    exact ⟨a, b, c, d, g0, g1, g, g0, g1, g, j, k, j, k, l, m, n, o⟩
  · exact h

end M
end Go.Proofs.Ytmhaapghiecfcaa

namespace Go.Proofs.Ytmhaapghiecfcaa
namespace M

def hi (p : Pr) : Int := if p.A < p.B then p.B else p.A
def lo (p : Pr) : Int := if p.A < p.B then p.A else p.B
def gamesArise (s : Fm) (g : Pr) : Bool := !(decide (0 ≤ s.tie) && decide (s.tie < hi g)) && (decide (hi g < s.games) || near g)
def pointsArise (s : Fm) (tie : Bool) (p : Pr) : Bool := decide (hi p < aimTo s tie) || (aimLead s tie == 2 && near p)
def fine (p : Pr) : Bool := decide (0 ≤ p.A) && decide (p.A ≤ 40) && decide (0 ≤ p.B) && decide (p.B ≤ 40)

end M
end Go.Proofs.Ytmhaapghiecfcaa

namespace Go.Proofs.Ytmhaapghiecfcaa
namespace M

def endsBy (s : Fm) (g : Pr) (side : Int) : Bool := decide (0 ≤ of (minus g side) side) && (gamesArise s (minus g side) && endsSet s (minus g side) side)
def setWinner (s : Fm) (g : Pr) : Int := if endsBy s g 0 then 0 else if endsBy s g 1 then 1 else -1

theorem setWinner_of {s : Fm} {g : Pr} {k : Nat} (hk : k < 2) (hno : ∀ j : Nat, j < k → endsBy s g j = false) (h : endsBy s g k = true) : setWinner s g = k := by
  unfold setWinner
  match k, hk with
  | 0, _ => rw [if_pos (show endsBy s g 0 = true from h)]; rfl
  | 1, _ =>
    rw [if_neg (by have := hno 0 (by omega); simpa using this), if_pos (show endsBy s g 1 = true from h)]; rfl
theorem setWinner_none {s : Fm} {g : Pr} (hno : ∀ j : Nat, j < 2 → endsBy s g j = false) : setWinner s g = -1 := by
  unfold setWinner
  rw [if_neg (by have := hno 0 (by omega); simpa using this), if_neg (by have := hno 1 (by omega); simpa using this)]

theorem Small.minus {p : Pr} (h : Small p) (hs : -999999 ≤ p.A ∧ -999999 ≤ p.B) (s : Int) : Small (minus p s) := by
  obtain ⟨a, b, c, d⟩ := h
  unfold M.minus; split <;> exact ⟨by dsimp; omega, by dsimp; omega, by dsimp; omega, by dsimp; omega⟩
theorem minus_le {p : Pr} {b : Int} (hs : p.A ≤ b ∧ p.B ≤ b) (s : Int) : (minus p s).A ≤ b ∧ (minus p s).B ≤ b := by
  unfold M.minus; split <;> exact ⟨by dsimp; omega, by dsimp; omega⟩

end M
end Go.Proofs.Ytmhaapghiecfcaa

namespace Go.Proofs.Ytmhaapghiecfcaa
theorem hide {p : Prop} (h : p) : Go.RowKit.Hid p := h
end Go.Proofs.Ytmhaapghiecfcaa

namespace Go.Proofs.Ytmhaapghiecfcaa
open Go.RowKit
namespace M

def numbered (ps : List Pr) (g p : Pr) : Bool := decide (ps.length ≤ 5) && (ps.all fine && (fine g && fine p))

def wonBy (f : Fm) : Pr → List Pr → Option Pr
  | won, [] => some won
  | won, g :: r => if winner f won = -1 ∧ setWinner (ofSet f won) g ≠ -1 then wonBy f (plus won (setWinner (ofSet f won) g)) r else none
def rest (f : Fm) (won g p : Pr) : Bool :=
  if winner f won ≠ -1 then (g.A == 0 && g.B == 0) && (p.A == 0 && p.B == 0)
  else gamesArise (ofSet f won) g && pointsArise (ofSet f won) (isTie (ofSet f won) g) p

end M

def RdP (w : World) (B : Nat) (A : Option Addr) (ps : List M.Pr) : Prop :=
  ∀ (k : Nat) (p : M.Pr), ps[k]? = some p → ∃ b o : Nat, A = some ⟨b, o, none⟩ ∧ b < B ∧ w.cell? ⟨b, o + k * 2, none⟩ = some (.int .i64 p.A) ∧ w.cell? ⟨b, o + k * 2 + 1, none⟩ = some (.int .i64 p.B)
theorem RdP.below {w w' : World} {B : Nat} {A : Option Addr} {ps : List M.Pr} (h : RdP w B A ps) (hb : Below B w w') : RdP w' B A ps := fun k p hk => by
  obtain ⟨b, o, e, hB, c0, c1⟩ := h k p hk
  exact ⟨b, o, e, hB, (hb.cell (p := ⟨b, o + k * 2, none⟩) hB).trans c0, (hb.cell (p := ⟨b, o + k * 2 + 1, none⟩) hB).trans c1⟩
theorem RdP.mono {w : World} {B B' : Nat} {A : Option Addr} {ps : List M.Pr} (h : RdP w B A ps) (hB : B ≤ B') : RdP w B' A ps := fun k p hk => by
  obtain ⟨b, o, e, hB, c0, c1⟩ := h k p hk
  exact ⟨b, o, e, by omega, c0, c1⟩
theorem RdP.nil (w : World) (B : Nat) (A : Option Addr) : RdP w B A [] := fun k p h => by simp at h

end Go.Proofs.Ytmhaapghiecfcaa

namespace Go.Proofs.Ytmhaapghiecfcaa
open Go.RowKit
namespace M

def zero : Pr := ⟨0, 0⟩
def pts (s : Fm) (side : Int) (g : Pr) : Int := pointsOfGame s (isTie s g) zero side
def runF (s : Fm) (side : Int) : Nat → Pr → Int × Int
  | 0, g => (1, pts s side g)
  | m + 1, g => if endsSet s g side then (1, pts s side g) else (1 + (runF s side m (plus g side)).1, pts s side g + (runF s side m (plus g side)).2)
def Enough (s : Fm) (side : Int) (m : Nat) (g : Pr) : Prop := s.games ≤ of g side + m ∧ of g (1 - side) + 2 ≤ of g side + m
def fuel (s : Fm) (side : Int) (g : Pr) : Nat := (max s.games (of g (1 - side) + 2) - of g side).toNat
def run (s : Fm) (side : Int) (g : Pr) : Int × Int := runF s side (fuel s side g) g

theorem of_plus {g : Pr} {side : Int} (h : side = 0 ∨ side = 1) : of (plus g side) side = of g side + 1 ∧ of (plus g side) (1 - side) = of g (1 - side) := by
  rcases h with rfl | rfl <;> simp [of, plus]
theorem near_of {g : Pr} {side : Int} (h : side = 0 ∨ side = 1) : near g = (decide (-2 < of g side - of g (1 - side)) && decide (of g side - of g (1 - side) < 2)) := by
  rcases h with rfl | rfl
  · simp [of, near]
  · simp only [of, near, Int.sub_self, if_true]
    rw [if_neg (by omega), Bool.and_comm]
    congr 1 <;> (rw [decide_eq_decide]; omega)
theorem enough_fuel (s : Fm) (side : Int) (g : Pr) : Enough s side (fuel s side g) g := by
  unfold Enough fuel; constructor <;> omega
theorem Enough.zero {s : Fm} {side : Int} {g : Pr} (hs : side = 0 ∨ side = 1) (h : Enough s side 0 g) : endsSet s g side = true := by
  obtain ⟨h1, h2⟩ := h
  obtain ⟨p1, p2⟩ := of_plus (g := g) hs
  unfold endsSet
  rw [near_of hs, p1, p2]
  simp only [Bool.or_eq_true, Bool.and_eq_true, decide_eq_true_eq, Bool.not_eq_true', Bool.and_eq_false_iff, decide_eq_false_iff_not]
  right; constructor
  · omega
  · right; omega
theorem Enough.next {s : Fm} {side : Int} {g : Pr} {m : Nat} (hs : side = 0 ∨ side = 1) (h : Enough s side (m + 1) g) : Enough s side m (plus g side) := by
  obtain ⟨h1, h2⟩ := h
  obtain ⟨p1, p2⟩ := of_plus (g := g) hs
  unfold Enough
  rw [p1, p2]
  constructor <;> omega
theorem runF_end {s : Fm} {side : Int} {g : Pr} {m : Nat} (h : endsSet s g side = true) : runF s side m g = (1, pts s side g) := by
  cases m with
  | zero => rfl
  | succ m => unfold runF; rw [if_pos h]
theorem runF_on {s : Fm} {side : Int} {g : Pr} {m : Nat} (h : endsSet s g side = false) : runF s side (m + 1) g = (1 + (runF s side m (plus g side)).1, pts s side g + (runF s side m (plus g side)).2) := by
  conv => lhs; unfold runF
  rw [if_neg (by simp [h])]
theorem pts_bd {s : Fm} (hv : Valid s) (side : Int) (g : Pr) : 1 ≤ pts s side g ∧ pts s side g ≤ 15 := by
  have a := aimTo_lo hv (isTie s g)
  have b := aimTo_hi hv (isTie s g)
  have c := aimLead_lo s (isTie s g)
  have d := aimLead_hi s (isTie s g)
  unfold pts pointsOfGame
  have e : ∀ x, of M.zero x = 0 := fun x => by unfold of M.zero; split <;> rfl
  rw [e, e]; omega
theorem runF_bd {s : Fm} (hv : Valid s) (side : Int) : ∀ (m : Nat) (g : Pr), 1 ≤ (runF s side m g).1 ∧ (runF s side m g).1 ≤ m + 1 ∧ 1 ≤ (runF s side m g).2 ∧ (runF s side m g).2 ≤ 15 * (m + 1)
  | 0, g => by have := pts_bd hv side g; unfold runF; dsimp; omega
  | m + 1, g => by
    have := pts_bd hv side g
    have h := runF_bd hv side m (plus g side)
    unfold runF; split <;> dsimp <;> omega

end M
end Go.Proofs.Ytmhaapghiecfcaa

namespace Go.Proofs.Ytmhaapghiecfcaa
open Go.RowKit
namespace M

def never : Int := 4611686018427387903
def mn (a b : Int) : Int := if b < a then b else a
def bestOf (cost : Nat → Int) : Nat → Int
  | 0 => never
  | k + 1 => mn (bestOf cost k) (cost k)
def lfg (f : Fm) (side : Int) : Nat → Pr → Pr → Int
  | 0, _, _ => 0
  | n + 1, won, g => if winner f won = side then 0 else if winner f won = 1 - side then never
    else bestOf (fun t => (run (ofSet f won) t g).2 + lfg f side n (plus won t) zero) 2

theorem bestOf_le (cost : Nat → Int) : ∀ k, bestOf cost k ≤ never
  | 0 => Int.le_refl _
  | k + 1 => by unfold bestOf mn; have := bestOf_le cost k; split <;> omega
theorem bestOf_ge {cost : Nat → Int} (h : ∀ k, 0 ≤ cost k) : ∀ k, 0 ≤ bestOf cost k
  | 0 => by unfold bestOf never; omega
  | k + 1 => by unfold bestOf mn; have := bestOf_ge h k; have := h k; split <;> omega
theorem lfg_le (f : Fm) (side : Int) : ∀ n won g, lfg f side n won g ≤ never
  | 0, _, _ => by unfold lfg never; omega
  | n + 1, won, g => by
    unfold lfg
    split
    · unfold never; omega
    · split
      · exact Int.le_refl _
      · exact bestOf_le _ _
theorem lfg_ge {f : Fm} (hv : Valid f) (side : Int) : ∀ n won g, 0 ≤ lfg f side n won g
  | 0, _, _ => by unfold lfg; omega
  | n + 1, won, g => by
    unfold lfg
    split
    · omega
    · split
      · unfold never; omega
      · refine bestOf_ge (fun k => ?_) 2
        have h1 := (runF_bd (hv.ofSet won) k (fuel (ofSet f won) k g) g).2.2.1
        have h2 := lfg_ge hv side n (plus won k) zero
        unfold run; omega
theorem fuel_le {s : Fm} (hv : Valid s) {side : Int} {g : Pr} (h0 : -1000 ≤ g.A ∧ -1000 ≤ g.B) (h2 : g.A ≤ 1000 ∧ g.B ≤ 1000) : fuel s side g ≤ 3000 := by
  have h := hv.g1
  have : ∀ x, -1000 ≤ of g x ∧ of g x ≤ 1000 := fun x => by unfold of; split <;> omega
  have a := this side
  have b := this (1 - side)
  unfold fuel; omega

end M
end Go.Proofs.Ytmhaapghiecfcaa

namespace Go.Proofs.Ytmhaapghiecfcaa
open Go.RowKit
namespace M

theorem setWinner_cases (s : Fm) (g : Pr) : setWinner s g = -1 ∨ setWinner s g = 0 ∨ setWinner s g = 1 := by
  unfold setWinner; split
  · exact .inr (.inl rfl)
  · split
    · exact .inr (.inr rfl)
    · exact .inl rfl
theorem wonBy_over {f : Fm} {won g : Pr} {r : List Pr} (h : winner f won ≠ -1) : wonBy f won (g :: r) = none := by
  unfold wonBy; rw [if_neg (fun x => h x.1)]
theorem wonBy_bad {f : Fm} {won g : Pr} {r : List Pr} (h : setWinner (ofSet f won) g = -1) : wonBy f won (g :: r) = none := by
  unfold wonBy; rw [if_neg (fun x => x.2 h)]
theorem wonBy_step {f : Fm} {won g : Pr} {r : List Pr} (h : winner f won = -1) (h2 : setWinner (ofSet f won) g ≠ -1) : wonBy f won (g :: r) = wonBy f (plus won (setWinner (ofSet f won) g)) r := by
  conv => lhs; unfold wonBy
  rw [if_pos ⟨h, h2⟩]
def standWon (f : Fm) (ps : List Pr) : Pr := (wonBy f zero ps).getD zero
def standB (f : Fm) (ps : List Pr) (g p : Pr) : Bool := match wonBy f zero ps with
  | none => false
  | some won => rest f won g p
def lfp (f : Fm) (side : Int) (n : Nat) (won g p : Pr) : Int :=
  bestOf (fun t => pointsOfGame (ofSet f won) (isTie (ofSet f won) g) p t + (if endsSet (ofSet f won) g t then lfg f side n (plus won t) zero else lfg f side n won (plus g t))) 2

end M
end Go.Proofs.Ytmhaapghiecfcaa

namespace Go.Proofs.Ytmhaapghiecfcaa
open Go.RowKit
namespace M

def swE (f : Fm) (ps : List Pr) (g p : Pr) : Int := if validB f then (if numbered ps g p then (if standB f ps g p then 0 else 12) else 12) else 10
def swWon (f : Fm) (ps : List Pr) (g p : Pr) : Pr := if validB f then (if numbered ps g p then (if standB f ps g p then standWon f ps else zero) else zero) else zero
def leastE (f : Fm) (ps : List Pr) (g p : Pr) (side : Int) : Int :=
  if swE f ps g p ≠ 0 then swE f ps g p else if within side 0 1 then (if winner f (swWon f ps g p) = side then 0 else if winner f (swWon f ps g p) = 1 - side then 3 else 0) else 1
def leastV (f : Fm) (ps : List Pr) (g p : Pr) (side : Int) : Int :=
  if swE f ps g p ≠ 0 then 0 else if within side 0 1 then (if winner f (swWon f ps g p) = side then 0 else if winner f (swWon f ps g p) = 1 - side then 0 else lfp f side 6 (swWon f ps g p) g p) else 0
def arisesE (f : Fm) (ps : List Pr) (g p : Pr) : Int := if validB f then (if numbered ps g p then 0 else 12) else 10
def arisesB (f : Fm) (ps : List Pr) (g p : Pr) : Bool := if validB f then (if numbered ps g p then standB f ps g p else false) else false

theorem wonBy_bd {f : Fm} : ∀ {ps : List Pr} {won r : Pr}, (0 ≤ won.A ∧ 0 ≤ won.B) ∧ won.A ≤ f.sets ∧ won.B ≤ f.sets → wonBy f won ps = some r → (0 ≤ r.A ∧ 0 ≤ r.B) ∧ r.A ≤ f.sets ∧ r.B ≤ f.sets
  | [], won, r, h, hw => by unfold wonBy at hw; injection hw with hw; rw [← hw]; exact h
  | g :: ps, won, r, h, hw => by
    unfold wonBy at hw
    split at hw
    · rename_i hc
      refine wonBy_bd (ps := ps) ?_ hw
      have h1 := hc.1
      have hne : won.A ≠ f.sets ∧ won.B ≠ f.sets := by
        unfold winner at h1
        by_cases e1 : won.A = f.sets
        · rw [if_pos e1] at h1; omega
        · by_cases e2 : won.B = f.sets
          · rw [if_neg e1, if_pos e2] at h1; omega
          · exact ⟨e1, e2⟩
      unfold plus; split <;> (dsimp; omega)
    · cases hw
theorem standWon_bd {f : Fm} (hv : Valid f) (ps : List Pr) : (0 ≤ (standWon f ps).A ∧ 0 ≤ (standWon f ps).B) ∧ (standWon f ps).A ≤ f.sets ∧ (standWon f ps).B ≤ f.sets := by
  have h := hv.s0
  unfold standWon
  cases hw : wonBy f zero ps with
  | none => exact ⟨by decide, by show (0 : Int) ≤ _; omega, by show (0 : Int) ≤ _; omega⟩
  | some r => exact wonBy_bd ⟨by decide, by show (0 : Int) ≤ _; omega, by show (0 : Int) ≤ _; omega⟩ hw
theorem winner_lt {f : Fm} {won : Pr} {s : Int} (hs : s = 0 ∨ s = 1) (hb : won.A ≤ f.sets ∧ won.B ≤ f.sets) (h0 : winner f won ≠ s) (h1 : winner f won ≠ 1 - s) : won.A < f.sets ∧ won.B < f.sets := by
  unfold winner at h0 h1
  by_cases e1 : won.A = f.sets
  · rw [if_pos e1] at h0 h1; omega
  · by_cases e2 : won.B = f.sets
    · rw [if_neg e1, if_pos e2] at h0 h1; omega
    · omega
theorem numbered_parts {ps : List Pr} {g p : Pr} (h : numbered ps g p = true) : ps.length ≤ 5 ∧ ps.all fine = true ∧ fine g = true ∧ fine p = true := by
  simpa [numbered, and_assoc] using h

end M
end Go.Proofs.Ytmhaapghiecfcaa

namespace Go.Proofs.Ytmhaapghiecfcaa
open Go.RowKit

def RdI (w : World) (B : Nat) (A : Option Addr) (xs : List Int) : Prop :=
  ∀ (k : Nat) (x : Int), xs[k]? = some x → ∃ b o : Nat, A = some ⟨b, o, none⟩ ∧ b < B ∧ w.cell? ⟨b, o + k, none⟩ = some (.int .i64 x)
theorem RdI.below {w w' : World} {B : Nat} {A : Option Addr} {xs : List Int} (h : RdI w B A xs) (hb : Below B w w') : RdI w' B A xs := fun k p hk => by
  obtain ⟨b, o, e, hB, c0⟩ := h k p hk
  exact ⟨b, o, e, hB, (hb.cell (p := ⟨b, o + k, none⟩) hB).trans c0⟩
theorem RdI.mono {w : World} {B B' : Nat} {A : Option Addr} {xs : List Int} (h : RdI w B A xs) (hB : B ≤ B') : RdI w B' A xs := fun k p hk => by
  obtain ⟨b, o, e, hB, c0⟩ := h k p hk
  exact ⟨b, o, e, by omega, c0⟩
theorem RdI.nil (w : World) (B : Nat) (A : Option Addr) : RdI w B A [] := fun k p h => by simp at h

end Go.Proofs.Ytmhaapghiecfcaa

namespace Go.Proofs.Ytmhaapghiecfcaa
open Go.RowKit in
theorem bcell {W w1 : World} (hb : Below W.heap.size W w1) : (∀ b o, b < W.heap.size → w1.cell? ⟨b, o, none⟩ = W.cell? ⟨b, o, none⟩) ∧ (∀ b o, b < W.heap.size → w1.frozen? ⟨b, o, none⟩ = W.frozen? ⟨b, o, none⟩) :=
  ⟨fun b o h => hb.cell (p := ⟨b, o, none⟩) h, fun b o h => hb.frozen (p := ⟨b, o, none⟩) h⟩
theorem zcA {w : World} (c : Array Value) (t : TypeId) (n i : Nat) (h : n = w.heap.size) : (w.alloc (.cells c t)).cell? ⟨n, i, none⟩ = c[i]? := World.cell?_alloc_at c t n i h
theorem zcP {w : World} (o : Obj) (n i : Nat) (h : n < w.heap.size) : (w.alloc o).cell? ⟨n, i, none⟩ = w.cell? ⟨n, i, none⟩ := World.cell?_alloc_past o n i h
theorem zfA {w : World} (c : Array Value) (t : TypeId) (n i : Nat) (h : n = w.heap.size) : (w.alloc (.cells c t)).frozen? ⟨n, i, none⟩ = false := World.frozen?_alloc_at c t n i h
theorem zfP {w : World} (o : Obj) (n i : Nat) (h : n < w.heap.size) : (w.alloc o).frozen? ⟨n, i, none⟩ = w.frozen? ⟨n, i, none⟩ := World.frozen?_alloc_past o n i h
theorem zsS (w : World) (a : Addr) (v : Value) (h : (w.cell? a).isSome = true) : (w.setCell a v).cell? a = some v := World.cell?_setCell_same' w a v h
theorem zsO (w : World) (a b : Addr) (v : Value) (h : a ≠ b) : (w.setCell a v).cell? b = w.cell? b := World.cell?_setCell_other w a b v h
theorem zsA (w : World) (a : Addr) (o : Obj) (h : (w.cell? a).isSome = true) : (w.alloc o).cell? a = w.cell? a := World.cell?_alloc_some w a o h
theorem kb {P : Prop} (h : P := by (repeat' first | exact zbR _ _ | assumption | refine zbD ?_ | refine zbA ?_ ?_ _ | refine zbS ?_ ?_ _ | refine zbT ?_ (by assumption) ?_ | (simp; done) | (simp; omega) | omega)) : P := h
theorem kp {P : Prop} (h : P := by (first | (go_keep; done) | (go_split_ands; (repeat' apply And.intro) <;> first | (go_keep; done) | (simp [*, zcA, zcP, zfA, zfP]; done) | (simp [zcA, zcP] <;> rfl) | (simp [*, zsS, zsO, zsA]; done) | ((first | refine (hc _ _ ?_).trans ?_ | refine (hf _ _ ?_).trans ?_) <;> first | assumption | (simp; done) | (simp; omega) | omega | (go_keep; done) | (simp [*, zcA, zcP, zfA, zfP]; done) | (simp [zcA, zcP]; rfl)) | (repeat' first | exact zbR _ _ | assumption | refine zbD ?_ | refine zbA ?_ ?_ _ | refine zbS ?_ ?_ _ | refine zbT ?_ (by assumption) ?_ | (simp; done) | (simp; omega) | omega)))) : P := h
open Go.RowKit

theorem of_any (p : M.Pr) (s : Int) (w : World) :
    Calls Try.prog 72 #[.agg #[.int .i64 p.A, .int .i64 p.B], .int .i64 s] w fun e w' => e = .returned (.int .i64 (M.of p s)) ∧ Below w.heap.size w w' := by
  by_cases hs : s = 0
  · have ho : M.of p s = p.A := if_pos hs
    rw [ho]; clear ho
    subst hs
    go_enter Try.func72, Try.ntmps72
    go_wp2
    go_ret
    exact ⟨rfl, (Below.refl _ _).alloc (Nat.le_refl _) _⟩
  · have ho : M.of p s = p.B := if_neg hs
    rw [ho]; clear ho
    have hb : (s == 0) = false := beq_eq_false_iff_ne.2 hs
    go_enter Try.func72, Try.ntmps72
    go_wp2
    go_ret
    exact ⟨rfl, (Below.refl _ _).alloc (Nat.le_refl _) _⟩

theorem plus_any (p : M.Pr) (s : Int) (w : World) (hp : M.Small p) :
    Calls Try.prog 57 #[.agg #[.int .i64 p.A, .int .i64 p.B], .int .i64 s] w fun e w' => e = .returned (.agg #[.int .i64 (M.plus p s).A, .int .i64 (M.plus p s).B]) ∧ Below w.heap.size w w' := by
  obtain ⟨h1, h2, h3, h4⟩ := hp
  by_cases hs : s = 0
  · have ho : M.plus p s = ⟨p.A + 1, p.B⟩ := if_pos hs
    rw [ho]; clear ho
    subst hs
    go_enter Try.func57, Try.ntmps57
    go_wp2
    refine bodyPost_ret (v := .agg #[.int .i64 (p.A + 1), .int .i64 p.B]) (by simp [results, Try.results57, go_sem]) rfl ⟨rfl, ?_⟩
    exact ((Below.refl _ _).alloc (Nat.le_refl _) _).alloc (by simp) _
  · have ho : M.plus p s = ⟨p.A, p.B + 1⟩ := if_neg hs
    rw [ho]; clear ho
    have hb : (s == 0) = false := beq_eq_false_iff_ne.2 hs
    go_enter Try.func57, Try.ntmps57
    go_wp2
    refine bodyPost_ret (v := .agg #[.int .i64 p.A, .int .i64 (p.B + 1)]) (by simp [results, Try.results57, go_sem]) rfl ⟨rfl, ?_⟩
    exact ((Below.refl _ _).alloc (Nat.le_refl _) _).alloc (by simp) _

theorem minus_any (p : M.Pr) (s : Int) (w : World) (hp : M.Small p) :
    Calls Try.prog 75 #[.agg #[.int .i64 p.A, .int .i64 p.B], .int .i64 s] w fun e w' => e = .returned (.agg #[.int .i64 (M.minus p s).A, .int .i64 (M.minus p s).B]) ∧ Below w.heap.size w w' := by
  obtain ⟨h1, h2, h3, h4⟩ := hp
  by_cases hs : s = 0
  · have ho : M.minus p s = ⟨p.A - 1, p.B⟩ := if_pos hs
    rw [ho]; clear ho
    subst hs
    go_enter Try.func75, Try.ntmps75
    go_wp2
    refine bodyPost_ret (v := .agg #[.int .i64 (p.A - 1), .int .i64 p.B]) (by simp [results, Try.results75, go_sem]) rfl ⟨rfl, ?_⟩
    exact ((Below.refl _ _).alloc (Nat.le_refl _) _).alloc (by simp) _
  · have ho : M.minus p s = ⟨p.A, p.B - 1⟩ := if_neg hs
    rw [ho]; clear ho
    have hb : (s == 0) = false := beq_eq_false_iff_ne.2 hs
    go_enter Try.func75, Try.ntmps75
    go_wp2
    refine bodyPost_ret (v := .agg #[.int .i64 p.A, .int .i64 (p.B - 1)]) (by simp [results, Try.results75, go_sem]) rfl ⟨rfl, ?_⟩
    exact ((Below.refl _ _).alloc (Nat.le_refl _) _).alloc (by simp) _

theorem near_any (p : M.Pr) (w : World) (hp : M.Small p) :
    Calls Try.prog 83 #[.agg #[.int .i64 p.A, .int .i64 p.B]] w fun e w' => e = .returned (.bool (M.near p)) ∧ Below w.heap.size w w' := by
  obtain ⟨h1, h2, h3, h4⟩ := hp
  by_cases ha : -2 < p.A - p.B
  · by_cases hb : p.A - p.B < 2
    · have ho : M.near p = true := by simp [M.near, ha, hb]
      rw [ho]; clear ho
      go_enter Try.func83, Try.ntmps83
      go_wp2
      go_ret
      exact ⟨rfl, (Below.refl _ _).alloc (Nat.le_refl _) _⟩
    · have ho : M.near p = false := by simp [M.near]; omega
      rw [ho]; clear ho
      go_enter Try.func83, Try.ntmps83
      go_wp2
      go_ret
      exact ⟨rfl, (Below.refl _ _).alloc (Nat.le_refl _) _⟩
  · have ho : M.near p = false := by simp [M.near]; omega
    rw [ho]; clear ho
    go_enter Try.func83, Try.ntmps83
    go_wp2
    go_ret
    exact ⟨rfl, (Below.refl _ _).alloc (Nat.le_refl _) _⟩

end Go.Proofs.Ytmhaapghiecfcaa

namespace Go.Proofs.Ytmhaapghiecfcaa
open Go.RowKit


theorem within_any (n lo hi : Int) (w : World) :
    Calls Try.prog 35 #[.int .i64 n, .int .i64 lo, .int .i64 hi] w fun e w' => e = .returned (.bool (M.within n lo hi)) ∧ w = w' := by
  by_cases h1 : lo ≤ n
  · by_cases h2 : n ≤ hi
    · have ho : M.within n lo hi = true := by simp [M.within, h1, h2]
      rw [ho]; clear ho
      go_enter Try.func35, Try.ntmps35
      go_wp2
      go_ret
      exact ⟨rfl, rfl⟩
    · have ho : M.within n lo hi = false := by simp [M.within]; omega
      rw [ho]; clear ho
      go_enter Try.func35, Try.ntmps35
      go_wp2
      go_ret
      exact ⟨rfl, rfl⟩
  · have ho : M.within n lo hi = false := by simp [M.within]; omega
    rw [ho]; clear ho
    go_enter Try.func35, Try.ntmps35
    go_wp2
    go_ret
    exact ⟨rfl, rfl⟩

set_option maxHeartbeats 800000 in
theorem tieOk_any (n g : Int) (b : Nat) (w : World) (hg0 : -1000 ≤ g) (hg1 : g ≤ 1000) (hc : w.cell? ⟨b, 1, none⟩ = some (.int .i64 g)) :
    Calls Try.prog 36 #[.int .i64 n, .pointer (some ⟨b, 0, none⟩)] w fun e w' => e = .returned (.bool (M.tieOk g n)) ∧ w = w' := by
  cases h1 : (n == -1)
  · cases h2 : (n == 0)
    · cases h3 : (n == g - 1)
      · cases h4 : (n == g)
        all_goals
          first
            | (have ho : M.tieOk g n = false := by (unfold M.tieOk; rw [h1, h2, h3, h4]; rfl)
               rw [ho]; clear ho)
            | (have ho : M.tieOk g n = true := by (unfold M.tieOk; rw [h1, h2, h3, h4]; rfl)
               rw [ho]; clear ho)
          go_enter Try.func36, Try.ntmps36
          go_wp2
          go_ret
          exact ⟨rfl, rfl⟩
      · have ho : M.tieOk g n = true := by unfold M.tieOk; rw [h1, h2, h3]; rfl
        rw [ho]; clear ho
        go_enter Try.func36, Try.ntmps36
        go_wp2
        go_ret
        exact ⟨rfl, rfl⟩
    · have ho : M.tieOk g n = true := by unfold M.tieOk; rw [h1, h2]; rfl
      rw [ho]; clear ho
      go_enter Try.func36, Try.ntmps36
      go_wp2
      go_ret
      exact ⟨rfl, rfl⟩
  · have ho : M.tieOk g n = true := by unfold M.tieOk; rw [h1]; rfl
    rw [ho]; clear ho
    go_enter Try.func36, Try.ntmps36
    go_wp2
    go_ret
    exact ⟨rfl, rfl⟩

end Go.Proofs.Ytmhaapghiecfcaa

namespace Go.Proofs.Ytmhaapghiecfcaa
open Go.RowKit

theorem refWithin_any (n lo hi : Int) (w : World) :
    Calls Try.prog 37 #[.int .i64 n, .int .i64 lo, .int .i64 hi] w fun e w' => e = .returned (.bool (M.within n lo hi)) ∧ Below w.heap.size w w' := by
  by_cases h1 : lo ≤ n
  · by_cases h2 : n ≤ hi
    · have ho : M.within n lo hi = true := by simp [M.within, h1, h2]
      rw [ho]; clear ho
      go_enter Try.func37, Try.ntmps37
      go_wp2
      go_ret
      exact ⟨rfl, Below.refl _ _⟩
    · have ho : M.within n lo hi = false := by simp [M.within]; omega
      rw [ho]; clear ho
      go_enter Try.func37, Try.ntmps37
      go_wp2
      go_ret
      exact ⟨rfl, Below.refl _ _⟩
  · have ho : M.within n lo hi = false := by simp [M.within]; omega
    rw [ho]; clear ho
    go_enter Try.func37, Try.ntmps37
    go_wp2
    go_ret
    exact ⟨rfl, Below.refl _ _⟩

set_option maxHeartbeats 1600000 in
theorem refTie_any (f : M.Fm) (n : Int) (w : World) (hg0 : -1000 ≤ f.games) (hg1 : f.games ≤ 1000) :
    Calls Try.prog 38 #[.agg #[.int .i64 f.sets, .int .i64 f.games, .bool f.noAd, .int .i64 f.tie, .int .i64 f.to, .int .i64 f.lastTie, .int .i64 f.lastTo, .int .i64 f.first, .int .i64 f.next, .bool f.doubles], .int .i64 n] w fun e w' => e = .returned (.bool (M.tieOk f.games n)) ∧ Below w.heap.size w w' := by
  cases h1 : (n == -1)
  · cases h2 : (n == 0)
    · cases h3 : (n == f.games - 1)
      · cases h4 : (n == f.games)
        all_goals
          first
            | (have ho : M.tieOk f.games n = false := by (unfold M.tieOk; rw [h1, h2, h3, h4]; rfl)
               rw [ho]; clear ho)
            | (have ho : M.tieOk f.games n = true := by (unfold M.tieOk; rw [h1, h2, h3, h4]; rfl)
               rw [ho]; clear ho)
          go_enter Try.func38, Try.ntmps38
          go_wp2
          go_ret
          exact ⟨rfl, by (exact kb)⟩
      · have ho : M.tieOk f.games n = true := by unfold M.tieOk; rw [h1, h2, h3]; rfl
        rw [ho]; clear ho
        go_enter Try.func38, Try.ntmps38
        go_wp2
        go_ret
        exact ⟨rfl, by (exact kb)⟩
    · have ho : M.tieOk f.games n = true := by unfold M.tieOk; rw [h1, h2]; rfl
      rw [ho]; clear ho
      go_enter Try.func38, Try.ntmps38
      go_wp2
      go_ret
      exact ⟨rfl, by (exact kb)⟩
  · have ho : M.tieOk f.games n = true := by unfold M.tieOk; rw [h1]; rfl
    rw [ho]; clear ho
    go_enter Try.func38, Try.ntmps38
    go_wp2
    go_ret
    exact ⟨rfl, by (exact kb)⟩

end Go.Proofs.Ytmhaapghiecfcaa

namespace Go.Proofs.Ytmhaapghiecfcaa
open Go.RowKit
namespace M

structure Gm where
  set : Int
  tie : Bool
  server : Int
  winner : Int
  pts : Pr
  fresh : Bool
deriving DecidableEq
structure Mt where
  f : Fm
  sets : List Pr
  games : Pr
  pts : Pr
  server : Int
  ends : Int
  balls : Int
  winner : Int
  opens : Int
  won : Pr
  fresh : Bool
  log : List Gm

def serverOf (opens : Int) (dbl : Bool) (game turn : Int) : Int :=
  if dbl && ((game + turn % 2) / 2 + turn / 2) % 2 == 1 then (opens + (game + turn % 2)) % 2 + 2 else (opens + (game + turn % 2)) % 2
def dueB (first next game : Int) : Bool := !(first == 0 || decide (game < first)) && (game == first || (decide (0 < next) && (game - first) % next == 0))
def tieAt (l : List Gm) (k : Nat) : Bool := (l[k]?.map (·.tie)).getD false
def changesB (m : Mt) : Bool :=
  (decide (2 ≤ m.log.length) && tieAt m.log (m.log.length - 2) && dueB m.f.first m.f.next ((m.log.length : Int) - 2)) ||
  (dueB m.f.first m.f.next m.log.length && !isTie (ofSet m.f m.won) m.games)
def begin (m : Mt) : Mt := { m with server := serverOf m.opens m.f.doubles m.log.length 0, fresh := changesB m, balls := if changesB m then m.balls + 1 else m.balls }
def gameOf (m : Mt) (side : Int) : Gm := { set := m.sets.length, tie := isTie (ofSet m.f m.won) m.games, server := serverOf m.opens m.f.doubles m.log.length 0, winner := side, pts := m.pts, fresh := m.fresh }
def endSet (m : Mt) (side : Int) : Mt :=
  if endsSet (ofSet m.f m.won) m.games side then { m with log := m.log ++ [gameOf m side], sets := m.sets ++ [plus m.games side], games := zero, pts := zero, won := plus m.won side }
  else { m with log := m.log ++ [gameOf m side], games := plus m.games side, pts := zero }
def endGame (m : Mt) (side : Int) : Mt :=
  let n := { endSet m side with winner := M.winner m.f (endSet m side).won }
  if n.winner ≠ -1 then { n with server := -1 }
  else begin (if ((plus m.games side).A + (plus m.games side).B) % 2 = 1 then { n with ends := n.ends + 1 } else n)
def point (m : Mt) (side : Int) : Mt :=
  let s := ofSet m.f m.won
  let n := { m with pts := plus m.pts side }
  if endsGame s (isTie s m.games) n.pts side then endGame n side
  else if isTie s m.games then
    { n with ends := if (n.pts.A + n.pts.B) % 6 = 0 then n.ends + 1 else n.ends, server := serverOf m.opens m.f.doubles m.log.length ((n.pts.A + n.pts.B + 1) / 2) }
  else n
def start (f : Fm) (first : Int) : Mt := { f := f, sets := [], games := zero, pts := zero, server := first, ends := 0, balls := 0, winner := -1, opens := first, won := zero, fresh := false, log := [] }
def playF : Mt → List Int → Option Mt
  | m, [] => some m
  | m, p :: r => if (p ≠ 0 ∧ p ≠ 1) ∨ m.winner ≠ -1 then none else playF (point m p) r

end M
end Go.Proofs.Ytmhaapghiecfcaa

namespace Go.Proofs.Ytmhaapghiecfcaa
open Go.RowKit
namespace M

def leads (p : Pr) (least : Int) : Int := if least ≤ p.A ∧ p.B + 2 ≤ p.A then 0 else if least ≤ p.B ∧ p.A + 2 ≤ p.B then 1 else -1
def gameWinner (f : Fm) (p : Pr) : Int := if f.noAd then (if 4 ≤ p.A then 0 else if 4 ≤ p.B then 1 else -1) else leads p 4
def wonR : Pr → List Pr → Pr
  | p, [] => p
  | p, g :: r => wonR (if g.B < g.A then ⟨p.A + 1, p.B⟩ else ⟨p.A, p.B + 1⟩) r
def rtied (f : Fm) (ps : List Pr) (g : Pr) : Bool := decide (0 ≤ (ofSet f (wonR zero ps)).tie) && g.A == (ofSet f (wonR zero ps)).tie && g.B == (ofSet f (wonR zero ps)).tie
def rto (f : Fm) (ps : List Pr) : Int := (ofSet f (wonR zero ps)).to

end M
end Go.Proofs.Ytmhaapghiecfcaa

namespace Go.Proofs.Ytmhaapghiecfcaa
open Go.RowKit

theorem refPlus_any (p : M.Pr) (s : Int) (w : World) (hp : M.Small p) :
    Calls Try.prog 52 #[.agg #[.int .i64 p.A, .int .i64 p.B], .int .i64 s] w fun e w' => e = .returned (.agg #[.int .i64 (M.plus p s).A, .int .i64 (M.plus p s).B]) ∧ Below w.heap.size w w' := by
  obtain ⟨h1, h2, h3, h4⟩ := hp
  by_cases hs : s = 0
  · have ho : M.plus p s = ⟨p.A + 1, p.B⟩ := if_pos hs
    rw [ho]; clear ho
    subst hs
    go_enter Try.func52, Try.ntmps52
    go_wp2
    refine bodyPost_ret (v := .agg #[.int .i64 (p.A + 1), .int .i64 p.B]) (by simp [results, Try.results52, go_sem]) rfl ⟨rfl, ?_⟩
    exact ((Below.refl _ _).alloc (Nat.le_refl _) _).alloc (by simp) _
  · have ho : M.plus p s = ⟨p.A, p.B + 1⟩ := if_neg hs
    rw [ho]; clear ho
    have hb : (s == 0) = false := beq_eq_false_iff_ne.2 hs
    go_enter Try.func52, Try.ntmps52
    go_wp2
    refine bodyPost_ret (v := .agg #[.int .i64 p.A, .int .i64 (p.B + 1)]) (by simp [results, Try.results52, go_sem]) rfl ⟨rfl, ?_⟩
    exact ((Below.refl _ _).alloc (Nat.le_refl _) _).alloc (by simp) _

set_option maxHeartbeats 1600000 in
theorem refLeads_any (p : M.Pr) (n : Int) (w : World) (hp : M.Small p) :
    Calls Try.prog 51 #[.agg #[.int .i64 p.A, .int .i64 p.B], .int .i64 n] w fun e w' => e = .returned (.int .i64 (M.leads p n)) ∧ Below w.heap.size w w' := by
  obtain ⟨h1, h2, h3, h4⟩ := hp
  by_cases a1 : n ≤ p.A
  all_goals
    by_cases a2 : p.B + 2 ≤ p.A
    all_goals
      by_cases b1 : n ≤ p.B
      all_goals
        by_cases b2 : p.A + 2 ≤ p.B
        all_goals
          first
            | (exfalso; omega)
            | (first
                | (have ho : M.leads p n = 0 := by (unfold M.leads; rw [if_pos (by omega)])
                   rw [ho]; clear ho)
                | (have ho : M.leads p n = 1 := by (unfold M.leads; rw [if_neg (by omega), if_pos (by omega)])
                   rw [ho]; clear ho)
                | (have ho : M.leads p n = -1 := by (unfold M.leads; rw [if_neg (by omega), if_neg (by omega)])
                   rw [ho]; clear ho)
               go_enter Try.func51, Try.ntmps51
               go_wp2
               go_ret
               exact ⟨rfl, by (exact kb)⟩)

theorem drewN_below {B : Nat} {a w : World} (h : Below B a w) (n : Nat) : Below B a (w.drewN n) := ⟨h.os, h.tape, h.output, h.size, h.block⟩
theorem refRule_any (f : M.Fm) (l : Bool) (w : World) :
    Calls Try.prog 29 #[.agg #[.int .i64 f.sets, .int .i64 f.games, .bool f.noAd, .int .i64 f.tie, .int .i64 f.to, .int .i64 f.lastTie, .int .i64 f.lastTo, .int .i64 f.first, .int .i64 f.next, .bool f.doubles], .bool l] w fun e w' => e = .returned (.tuple #[.int .i64 (if l then f.lastTie else f.tie), .int .i64 (if l then f.lastTo else f.to)]) ∧ Below w.heap.size w w' := by
  cases l
  all_goals
    go_enter Try.func29, Try.ntmps29
    go_wp2
    go_quiet (fail)
    go_wp2
    go_ret2
    exact ⟨rfl, drewN_below (by (exact kb)) _⟩

theorem refIsLast_any (f : M.Fm) (p : M.Pr) (w : World) (h0 : -1000 ≤ f.sets) (h1 : f.sets ≤ 1000) :
    Calls Try.prog 30 #[.agg #[.int .i64 f.sets, .int .i64 f.games, .bool f.noAd, .int .i64 f.tie, .int .i64 f.to, .int .i64 f.lastTie, .int .i64 f.lastTo, .int .i64 f.first, .int .i64 f.next, .bool f.doubles], .agg #[.int .i64 p.A, .int .i64 p.B]] w fun e w' => e = .returned (.bool (M.lastB f p)) ∧ Below w.heap.size w w' := by
  cases ha : (p.A == f.sets - 1)
  · have ho : M.lastB f p = false := by unfold M.lastB; rw [ha]; rfl
    rw [ho]; clear ho
    go_enter Try.func30, Try.ntmps30
    go_wp2
    go_ret
    exact ⟨rfl, by (exact kb)⟩
  · cases hb : (p.B == f.sets - 1)
    all_goals
      first
        | (have ho : M.lastB f p = false := by (unfold M.lastB; rw [ha, hb]; rfl)
           rw [ho]; clear ho)
        | (have ho : M.lastB f p = true := by (unfold M.lastB; rw [ha, hb]; rfl)
           rw [ho]; clear ho)
      go_enter Try.func30, Try.ntmps30
      go_wp2
      go_ret
      exact ⟨rfl, by (exact kb)⟩

end Go.Proofs.Ytmhaapghiecfcaa

namespace Go.Proofs.Ytmhaapghiecfcaa
open Go

theorem drop_get {α : Type} {l rest : List α} {x : α} : ∀ {i : Nat}, l.drop i = x :: rest → l.toArray[i]? = some x := by
  intro i h
  have : l[i]? = some x := by
    have := congrArg List.head? h
    simpa [List.head?_drop] using this
  simpa using this

theorem takeL {P : Program} {md : Region.Mode} {l rest : List Oper} {Q : Exit → Act → World → Prop} {S : World → Prop} {oi : Oper} {v : Value} {fuel : Nat} {listed : Array Bool} {a : Act} {w : World} (i : Nat) (hi : l.drop i = oi :: rest)
    (hs : Region.noSelect l.toArray = true) (hf : Region.free md l.toArray listed i = true) (hr : (Region.ready md l.toArray listed).contains i = true)
    (hQ : ∀ c a w, Q (.panic c) (a.put oi.dst v) w → Q (.panic c) a w) (hy : YieldsIf P l.toArray S oi v a) (hS : S w)
    (h : wpAnyH P md l.toArray Q S fuel (listed.setIfInBounds i true) (a.put oi.dst v) w) : wpAnyH P md l.toArray Q S (fuel + 1) listed a w :=
  wpAnyH_take (drop_get hi) hs hf hr hQ hy hS h

theorem tL {P : Program} {md : Region.Mode} {l rest : List Oper} {Q : Exit → Act → World → Prop} {S : World → Prop} {oi : Oper} {v : Value} {fuel : Nat} {listed : Array Bool} {a : Act} {w : World} (i : Nat) (hi : l.drop i = oi :: rest)
    (hb : (Region.noSelect l.toArray && Region.free md l.toArray listed i && (Region.ready md l.toArray listed).contains i) = true)
    (hQ : ∀ c a w, Q (.panic c) (a.put oi.dst v) w → Q (.panic c) a w) (hy : YieldsIf P l.toArray S oi v a) (hS : S w)
    (h : wpAnyH P md l.toArray Q S fuel (listed.setIfInBounds i true) (a.put oi.dst v) w) : wpAnyH P md l.toArray Q S (fuel + 1) listed a w := by
  rw [Bool.and_eq_true, Bool.and_eq_true] at hb
  exact takeL i hi hb.1.1 hb.1.2 hb.2 hQ hy hS h
theorem tW {P : Program} {md : Region.Mode} {l rest : List Oper} {Q : Exit → Act → World → Prop} {S : World → Prop} {oi : Oper} {fuel : Nat} {listed : Array Bool} {a : Act} {w : World} (v : Value) (i : Nat) (hi : l.drop i = oi :: rest)
    (hb : (Region.noSelect l.toArray && Region.free md l.toArray listed i && (Region.ready md l.toArray listed).contains i) = true)
    (hQ : ∀ c a w, Q (.panic c) (a.put oi.dst v) w → Q (.panic c) a w) (hw : Region.wanted oi (yielded l.toArray a.tmps) = true) (hS : S w) (hy : ∀ w, S w → (execOp a.eval oi).run P w = .ok (.value v) w)
    (h : wpAnyH P md l.toArray Q S fuel (listed.setIfInBounds i true) (a.put oi.dst v) w) : wpAnyH P md l.toArray Q S (fuel + 1) listed a w := tL i hi hb hQ (.inl ⟨hw, hy⟩) hS h
theorem zl {α : Type} (l : List α) (i : Nat) (a : α) : l.toArray.setIfInBounds i a = (l.set i a).toArray := List.setIfInBounds_toArray l i a
theorem z0 {α : Type} {x : α} {xs : List α} {a : α} : (x :: xs).set 0 a = a :: xs := List.set_cons_zero
theorem z1 {α : Type} {x : α} {xs : List α} {i : Nat} {a : α} : (x :: xs).set (i + 1) a = x :: xs.set i a := List.set_cons_succ

theorem consL {P : Program} {md : Region.Mode} {l rest : List Oper} {Q : Exit → Act → World → Prop} {S : World → Prop} {fuel : Nat} {listed : Array Bool} {a : Act} {w : World} {o : Oper} {rs : List Nat} (i : Nat) (ho : l.drop i = o :: rest)
    (h : ∀ K' : Act → World → Prop, Shut (∀ a w, S w → (S w → wpAnyH P md l.toArray Q S fuel (listed.setIfInBounds i true) a w) → K' a w) → if Region.wanted o (yielded l.toArray a.tmps) = true then Oper.wp P o a w K' Q else K' (a.put o.dst undef) w)
    (hs : AllReadyH P md l.toArray Q S fuel listed a w rs) : AllReadyH P md l.toArray Q S fuel listed a w (i :: rs) :=
  AllReadyH.cons (drop_get ho) h hs

end Go.Proofs.Ytmhaapghiecfcaa

namespace Go.Proofs.Ytmhaapghiecfcaa
open Go.RowKit
theorem M.wonR_cons (p g : M.Pr) (r : List M.Pr) : M.wonR p (g :: r) = M.wonR (if g.B < g.A then ⟨p.A + 1, p.B⟩ else ⟨p.A, p.B + 1⟩) r := rfl

set_option maxHeartbeats 4000000 in
theorem refWon_any (A : Option Addr) (n c : Nat) (ps : List M.Pr) (w : World) (hn : ps.length = n) (hr : RdP w w.heap.size A ps) (hm : n ≤ 1000) :
    Calls Try.prog 31 #[.slice A n c] w fun e w' => e = .returned (.agg #[.int .i64 (M.wonR M.zero ps).A, .int .i64 (M.wonR M.zero ps).B]) ∧ Below w.heap.size w w' := by
  have HN := hide hn
  have HR := hide hr
  clear hn hr
  go_enter Try.func31, Try.ntmps31
  go_wp2_with fail
  go_loopw [4] (fun i wr => ∃ k : Nat, k ≤ n ∧ i = .int .i64 k ∧ ∃ acc : M.Pr, Hid (M.wonR M.zero ps = M.wonR acc (ps.drop k)) ∧ 0 ≤ acc.A ∧ 0 ≤ acc.B ∧ acc.A ≤ k ∧ acc.B ≤ k ∧ wr.cell? ⟨w.heap.size + 1, 0, none⟩ = some (.int .i64 acc.A) ∧ wr.cell? ⟨w.heap.size + 1, 1, none⟩ = some (.int .i64 acc.B) ∧ wr.frozen? ⟨w.heap.size + 1, 0, none⟩ = false ∧ wr.frozen? ⟨w.heap.size + 1, 1, none⟩ = false ∧ wr.cell? ⟨w.heap.size, 0, none⟩ = some (.int .i64 (M.zero).A) ∧ wr.cell? ⟨w.heap.size, 1, none⟩ = some (.int .i64 (M.zero).B) ∧ wr.frozen? ⟨w.heap.size, 0, none⟩ = false ∧ wr.frozen? ⟨w.heap.size, 1, none⟩ = false ∧ Below w.heap.size w wr ∧ w.heap.size < wr.heap.size ∧ w.heap.size + 1 < wr.heap.size) (fun i _ => n - (intOf i).toNat)
  case atStart => exact ⟨0, by omega, rfl, M.zero, hide rfl, by decide, by decide, by decide, by decide, by (exact kp)⟩
  case round =>
    obtain ⟨k, hk, rfl, acc, hac, ha0, hb0, ha1, hb1, hS0⟩ := hrel
    have hne1 : ¬ (w.heap.size + 1 = w.heap.size) := by omega
    have hne2 : ¬ (w.heap.size = w.heap.size + 1) := by omega
    by_cases hlt : k < n
    · obtain ⟨q, hq⟩ : ∃ q, ps[k]? = some q := ⟨_, List.getElem?_eq_getElem (by have := HN.out; omega)⟩
      have hBw : Below w.heap.size w wr := by go_split_ands; assumption
      obtain ⟨b, o, hA, hbB, c0, c1⟩ := (HR.out.below hBw) k q hq
      subst hA
      have hd : ps.drop k = q :: ps.drop (k + 1) := by
        obtain ⟨hl, rfl⟩ := List.getElem?_eq_some_iff.1 hq
        exact List.drop_eq_getElem_cons hl
      have hlt' : (k : Int) < (n : Int) := by omega
      have hk0 : (0 : Int) ≤ (k : Int) := by omega
      by_cases hgt : q.B < q.A
      · have hst : Hid (M.wonR M.zero ps = M.wonR ⟨acc.A + 1, acc.B⟩ (ps.drop (k + 1))) := hide (by rw [hac.out, hd, M.wonR_cons, if_pos hgt])
        clear hd hq
        go_wp2_with fail
        go_quiet (fail)
        go_split_ands
        go_wp2_with fail
        go_roundw
        case rel => refine ⟨k + 1, by omega, by go_num, ⟨acc.A + 1, acc.B⟩, hst, by dsimp only; omega, by dsimp only; omega, by dsimp only; omega, by dsimp only; omega, ?_⟩; (repeat' apply And.intro) <;> first | (simp [*, World.cell?_setCell_same', World.cell?_setCell_other]; done) | exact Below.setCell (drewN_below hBw _) (by simp) _ | (simp [World.setCell]; omega)
        case measure => simp [intOf]; omega
      · have hst : Hid (M.wonR M.zero ps = M.wonR ⟨acc.A, acc.B + 1⟩ (ps.drop (k + 1))) := hide (by rw [hac.out, hd, M.wonR_cons, if_neg hgt])
        clear hd hq
        go_wp2_with fail
        go_quiet (fail)
        go_split_ands
        go_wp2_with fail
        go_roundw
        case rel => refine ⟨k + 1, by omega, by go_num, ⟨acc.A, acc.B + 1⟩, hst, by dsimp only; omega, by dsimp only; omega, by dsimp only; omega, by dsimp only; omega, ?_⟩; (repeat' apply And.intro) <;> first | (simp [*, World.cell?_setCell_same', World.cell?_setCell_other]; done) | exact Below.setCell (drewN_below hBw _) (by simp) _ | (simp [World.setCell]; omega)
        case measure => simp [intOf]; omega
    · have hkn : k = n := by omega
      have hfin : M.wonR M.zero ps = acc := by rw [hac.out, List.drop_of_length_le (by have := HN.out; omega)]; rfl
      have HF := hide hfin
      clear hfin hac
      subst hkn
      go_split_ands
      go_wp2_with fail
      refine bodyPost_ret (v := .agg #[.int .i64 acc.A, .int .i64 acc.B]) (by simp [results, Try.results31, go_sem, *]) rfl ⟨by rw [HF.out], by (exact kb)⟩

theorem ofSet_rule (f : M.Fm) (p : M.Pr) : (if M.lastB f p then f.lastTie else f.tie) = (M.ofSet f p).tie ∧ (if M.lastB f p then f.lastTo else f.to) = (M.ofSet f p).to := by
  unfold M.ofSet
  split <;> exact ⟨rfl, rfl⟩
theorem wonR_bd : ∀ (ps : List M.Pr) (p : M.Pr), 0 ≤ p.A → 0 ≤ p.B → 0 ≤ (M.wonR p ps).A ∧ 0 ≤ (M.wonR p ps).B ∧ (M.wonR p ps).A ≤ p.A + ps.length ∧ (M.wonR p ps).B ≤ p.B + ps.length
  | [], p, h0, h1 => by unfold M.wonR; simp; omega
  | g :: r, p, h0, h1 => by
    rw [M.wonR_cons]
    split
    · have := wonR_bd r ⟨p.A + 1, p.B⟩ (by dsimp only; omega) (by dsimp only; omega)
      simp only [List.length_cons] at *
      omega
    · have := wonR_bd r ⟨p.A, p.B + 1⟩ (by dsimp only; omega) (by dsimp only; omega)
      simp only [List.length_cons] at *
      omega

set_option maxHeartbeats 4000000 in
theorem refTied_any (f : M.Fm) (A : Option Addr) (n c : Nat) (ps : List M.Pr) (g p : M.Pr) (w : World) (hv : M.Valid f) (hn : ps.length = n) (hr : RdP w w.heap.size A ps) (hm : n ≤ 1000) :
    Calls Try.prog 50 #[.agg #[.int .i64 f.sets, .int .i64 f.games, .bool f.noAd, .int .i64 f.tie, .int .i64 f.to, .int .i64 f.lastTie, .int .i64 f.lastTo, .int .i64 f.first, .int .i64 f.next, .bool f.doubles], .agg #[.slice A n c, .int .i64 g.A, .int .i64 g.B, .int .i64 p.A, .int .i64 p.B]] w fun e w' => e = .returned (.tuple #[.bool (M.rtied f ps g), .int .i64 (M.rto f ps)]) ∧ Below w.heap.size w w' := by
  have HN := hide hn
  have HR := hide hr
  have hs0 := hv.s0
  have hs1 := hv.s1
  have HT := hide (ofSet_rule f (M.wonR M.zero ps))
  clear hn hr
  obtain ⟨ti, hti⟩ : ∃ ti, (M.ofSet f (M.wonR M.zero ps)).tie = ti := ⟨_, rfl⟩
  obtain ⟨to, hto⟩ : ∃ to, (M.ofSet f (M.wonR M.zero ps)).to = to := ⟨_, rfl⟩
  have HR1 : Hid (M.rtied f ps g = (decide (0 ≤ ti) && g.A == ti && g.B == ti)) := hide (by unfold M.rtied; rw [hti])
  have HR2 : Hid (M.rto f ps = to) := hide hto
  have HT1 : Hid ((if M.lastB f (M.wonR M.zero ps) then f.lastTie else f.tie) = ti) := hide (HT.out.1.trans hti)
  have HT2 : Hid ((if M.lastB f (M.wonR M.zero ps) then f.lastTo else f.to) = to) := hide (HT.out.2.trans hto)
  clear hti hto HT
  go_enter Try.func50, Try.ntmps50
  go_wp2_with fail
  refine wp_region_held_drew (S := (fun w' => w.heap.size + 1 < w'.heap.size ∧ w'.cell? ⟨w.heap.size, 0, none⟩ = some (.int .i64 f.sets) ∧ w'.cell? ⟨w.heap.size, 1, none⟩ = some (.int .i64 f.games) ∧ w'.cell? ⟨w.heap.size, 2, none⟩ = some (.bool f.noAd) ∧ w'.cell? ⟨w.heap.size, 3, none⟩ = some (.int .i64 f.tie) ∧ w'.cell? ⟨w.heap.size, 4, none⟩ = some (.int .i64 f.to) ∧ w'.cell? ⟨w.heap.size, 5, none⟩ = some (.int .i64 f.lastTie) ∧ w'.cell? ⟨w.heap.size, 6, none⟩ = some (.int .i64 f.lastTo) ∧ w'.cell? ⟨w.heap.size, 7, none⟩ = some (.int .i64 f.first) ∧ w'.cell? ⟨w.heap.size, 8, none⟩ = some (.int .i64 f.next) ∧ w'.cell? ⟨w.heap.size, 9, none⟩ = some (.bool f.doubles) ∧ w'.cell? ⟨w.heap.size + 1, 0, none⟩ = some (.slice A n c) ∧ w'.cell? ⟨w.heap.size + 1, 1, none⟩ = some (.int .i64 g.A) ∧ w'.cell? ⟨w.heap.size + 1, 2, none⟩ = some (.int .i64 g.B) ∧ Below w.heap.size w w')) (by kernel_rfl) ?_ (fun hD0 => ?_)
  · (try dsimp only); (exact kp)
  refine tW ?_ 0 rfl (by kernel_rfl) (fun _ _ _ h => h) (by rfl) (by assumption) ?_ ?_; rotate_left; (focus (intro w hSw; (try dsimp only at hSw); go_simp; try with_reducible rfl)); try simp only [Act.put, zl, z0, z1]
  refine tW ?_ 1 rfl (by kernel_rfl) (fun _ _ _ h => h) (by rfl) (by assumption) ?_ ?_; rotate_left; (focus (intro w hSw; (try dsimp only at hSw); go_simp; try with_reducible rfl)); try simp only [Act.put, zl, z0, z1]
  refine tW ?_ 2 rfl (by kernel_rfl) (fun _ _ _ h => h) (by rfl) (by assumption) ?_ ?_; rotate_left; (focus (intro w hSw; (try dsimp only at hSw); go_simp; try with_reducible rfl)); try simp only [Act.put, zl, z0, z1]
  refine tW ?_ 3 rfl (by kernel_rfl) (fun _ _ _ h => h) (by rfl) (by assumption) ?_ ?_; rotate_left; (focus (intro w hSw; (try dsimp only at hSw); go_simp; try with_reducible rfl)); try simp only [Act.put, zl, z0, z1]
  refine wpAnyH_ready (rs := [4]) (by kernel_rfl) (by simp) ?_; refine consL 4 rfl (fun K hK => ?_) AllReadyH.nil; go_simp
  (go_at_call 31; refine (refWon_any A n c ps _ HN.out ((HR.out.below (by go_split_ands; (exact kb))).mono (by simp; omega)) hm).mono ?_; rintro e w1 ⟨rfl, hb⟩; obtain ⟨hc, hf⟩ := bcell hb; have hz := hb.size; (try simp at hz))
  refine hK.out _ _ ?_ (fun hD1 => ?_)
  · (try dsimp only); (exact kp)
  clear hK K hD0; try simp only [Act.put, zl, z0, z1]
  refine wpAnyH_ready (rs := [5]) (by kernel_rfl) (by simp) ?_; refine consL 5 rfl (fun K hK => ?_) AllReadyH.nil; go_simp
  (go_at_call 30; refine (refIsLast_any f _ _ (by omega) (by omega)).mono ?_; rintro e w2 ⟨rfl, hb⟩; obtain ⟨hc, hf⟩ := bcell hb; have hz := hb.size; (try simp at hz))
  refine hK.out _ _ ?_ (fun hD2 => ?_)
  · (try dsimp only); (exact kp)
  clear hK K hD1; try simp only [Act.put, zl, z0, z1]
  refine wpAnyH_ready (rs := [6]) (by kernel_rfl) (by simp) ?_; refine consL 6 rfl (fun K hK => ?_) AllReadyH.nil; go_simp
  (go_at_call 29; refine (refRule_any f _ _).mono ?_; rintro e w3 ⟨rfl, hb⟩; obtain ⟨hc, hf⟩ := bcell hb; have hz := hb.size; (try simp at hz))
  refine hK.out _ _ ?_ (fun hD3 => ?_)
  · (try dsimp only); (exact kp)
  clear hK K hD2; try simp only [Act.put, zl, z0, z1]
  refine tW ?_ 7 rfl (by kernel_rfl) (fun _ _ _ h => h) (by rfl) (by assumption) ?_ ?_; rotate_left; (focus (intro w hSw; (try dsimp only at hSw); go_simp; try with_reducible rfl)); try simp only [Act.put, zl, z0, z1]
  refine tW ?_ 8 rfl (by kernel_rfl) (fun _ _ _ h => h) (by rfl) (by assumption) ?_ ?_; rotate_left; (focus (intro w hSw; (try dsimp only at hSw); go_simp; try with_reducible rfl)); try simp only [Act.put, zl, z0, z1]
  refine tW ?_ 9 rfl (by kernel_rfl) (fun _ _ _ h => h) (by rfl) (by assumption) ?_ ?_; rotate_left; (focus (intro w hSw; (try dsimp only at hSw); go_simp; try with_reducible rfl)); try simp only [Act.put, zl, z0, z1]
  refine tW ?_ 10 rfl (by kernel_rfl) (fun _ _ _ h => h) (by rfl) (by assumption) ?_ ?_; rotate_left; (focus (intro w hSw; (try dsimp only at hSw); go_simp; try with_reducible rfl)); try simp only [Act.put, zl, z0, z1]
  refine tW ?_ 11 rfl (by kernel_rfl) (fun _ _ _ h => h) (by rfl) (by assumption) ?_ ?_; rotate_left; (focus (intro w hSw; (try dsimp only at hSw); go_simp; try with_reducible rfl)); try simp only [Act.put, zl, z0, z1]
  refine wpAnyH_done (by kernel_rfl) ?_ _
  rw [HT1.out, HT2.out]
  clear HT1 HT2 hb hc hf hz
  go_split_ands
  rename_i hBW
  have HBW := hide hBW
  clear hBW
  by_cases h0 : 0 ≤ ti
  · have d0 : decide (0 ≤ ti) = true := decide_eq_true h0
    cases hA : (g.A == ti)
    · have ho : M.rtied f ps g = false := by rw [HR1.out, d0, hA]; rfl
      have HO := hide ho
      clear ho
      go_wp2_with fail
      go_ret2
      exact ⟨by rw [HO.out, HR2.out]; rfl, HBW.out⟩
    · cases hB : (g.B == ti)
      · have ho : M.rtied f ps g = false := by rw [HR1.out, d0, hA, hB]; rfl
        have HO := hide ho
        clear ho
        go_wp2_with fail
        go_ret2
        exact ⟨by rw [HO.out, HR2.out]; rfl, HBW.out⟩
      · have ho : M.rtied f ps g = true := by rw [HR1.out, d0, hA, hB]; rfl
        have HO := hide ho
        clear ho
        go_wp2_with fail
        go_ret2
        exact ⟨by rw [HO.out, HR2.out]; rfl, HBW.out⟩
  · have d0 : decide (0 ≤ ti) = false := decide_eq_false h0
    have ho : M.rtied f ps g = false := by rw [HR1.out, d0]; rfl
    have HO := hide ho
    clear ho
    go_wp2_with fail
    go_ret2
    exact ⟨by rw [HO.out, HR2.out]; rfl, HBW.out⟩

end Go.Proofs.Ytmhaapghiecfcaa

namespace Go.Proofs.Ytmhaapghiecfcaa
open Go.RowKit

namespace M
end M

end Go.Proofs.Ytmhaapghiecfcaa

namespace Go.Proofs.Ytmhaapghiecfcaa
open Go.RowKit

theorem isTie_any (f : M.Fm) (p : M.Pr) (w : World) :
    Calls Try.prog 69 #[.agg #[.int .i64 f.sets, .int .i64 f.games, .bool f.noAd, .int .i64 f.tie, .int .i64 f.to, .int .i64 f.lastTie, .int .i64 f.lastTo, .int .i64 f.first, .int .i64 f.next, .bool f.doubles], .agg #[.int .i64 p.A, .int .i64 p.B]] w fun e w' => e = .returned (.bool (M.isTie f p)) ∧ Below w.heap.size w w' := by
  by_cases h1 : p.A = f.tie
  · by_cases h2 : p.B = f.tie
    · have ho : M.isTie f p = true := by simp [M.isTie, h1, h2]
      rw [ho]; clear ho
      go_enter Try.func69, Try.ntmps69
      go_wp2
      go_ret
      exact ⟨rfl, ((Below.refl _ _).alloc (Nat.le_refl _) _).alloc (by simp) _⟩
    · have ho : M.isTie f p = false := by simp [M.isTie, h1, h2]
      rw [ho]; clear ho
      go_enter Try.func69, Try.ntmps69
      go_wp2
      go_ret
      exact ⟨rfl, ((Below.refl _ _).alloc (Nat.le_refl _) _).alloc (by simp) _⟩
  · have ho : M.isTie f p = false := by simp [M.isTie, h1]
    rw [ho]; clear ho
    go_enter Try.func69, Try.ntmps69
    go_wp2
    go_ret
    exact ⟨rfl, ((Below.refl _ _).alloc (Nat.le_refl _) _).alloc (by simp) _⟩

theorem aims_any (f : M.Fm) (t : Bool) (w : World) :
    Calls Try.prog 84 #[.agg #[.int .i64 f.sets, .int .i64 f.games, .bool f.noAd, .int .i64 f.tie, .int .i64 f.to, .int .i64 f.lastTie, .int .i64 f.lastTo, .int .i64 f.first, .int .i64 f.next, .bool f.doubles], .bool t] w fun e w' => e = .returned (.tuple #[.int .i64 (M.aimTo f t), .int .i64 (M.aimLead f t)]) ∧ Below w.heap.size w w' := by
  cases t
  · by_cases ha : f.noAd = true
    · have h1 : M.aimTo f false = 4 := rfl
      have h2 : M.aimLead f false = 1 := by simp [M.aimLead, ha]
      rw [h1, h2]; clear h1 h2
      go_enter Try.func84, Try.ntmps84
      go_wp2
      go_ret2
      exact ⟨rfl, (Below.refl _ _).alloc (Nat.le_refl _) _⟩
    · have ha' : f.noAd = false := by simpa using ha
      have h1 : M.aimTo f false = 4 := rfl
      have h2 : M.aimLead f false = 2 := by simp [M.aimLead, ha']
      rw [h1, h2]; clear h1 h2
      go_enter Try.func84, Try.ntmps84
      go_wp2
      go_ret2
      exact ⟨rfl, (Below.refl _ _).alloc (Nat.le_refl _) _⟩
  · have h1 : M.aimTo f true = f.to := rfl
    have h2 : M.aimLead f true = 2 := rfl
    rw [h1, h2]; clear h1 h2
    go_enter Try.func84, Try.ntmps84
    go_wp2
    go_ret2
    exact ⟨rfl, (Below.refl _ _).alloc (Nat.le_refl _) _⟩

theorem ofSet_any (f : M.Fm) (p : M.Pr) (w : World) (h0 : -1000 ≤ f.sets) (h1 : f.sets ≤ 1000) :
    Calls Try.prog 55 #[.agg #[.int .i64 f.sets, .int .i64 f.games, .bool f.noAd, .int .i64 f.tie, .int .i64 f.to, .int .i64 f.lastTie, .int .i64 f.lastTo, .int .i64 f.first, .int .i64 f.next, .bool f.doubles], .agg #[.int .i64 p.A, .int .i64 p.B]] w fun e w' => e = .returned (.agg #[.int .i64 (M.ofSet f p).sets, .int .i64 (M.ofSet f p).games, .bool (M.ofSet f p).noAd, .int .i64 (M.ofSet f p).tie, .int .i64 (M.ofSet f p).to, .int .i64 (M.ofSet f p).lastTie, .int .i64 (M.ofSet f p).lastTo, .int .i64 (M.ofSet f p).first, .int .i64 (M.ofSet f p).next, .bool (M.ofSet f p).doubles]) ∧ Below w.heap.size w w' := by
  by_cases ha : p.A = f.sets - 1
  · by_cases hb : p.B = f.sets - 1
    · have ho : M.ofSet f p = { f with tie := f.lastTie, to := f.lastTo } := by simp [M.ofSet, M.lastB, ha, hb]
      rw [ho]; clear ho
      go_enter Try.func55, Try.ntmps55
      go_wp2
      refine bodyPost_ret (v := .agg #[.int .i64 ({ f with tie := f.lastTie, to := f.lastTo }).sets, .int .i64 ({ f with tie := f.lastTie, to := f.lastTo }).games, .bool ({ f with tie := f.lastTie, to := f.lastTo }).noAd, .int .i64 ({ f with tie := f.lastTie, to := f.lastTo }).tie, .int .i64 ({ f with tie := f.lastTie, to := f.lastTo }).to, .int .i64 ({ f with tie := f.lastTie, to := f.lastTo }).lastTie, .int .i64 ({ f with tie := f.lastTie, to := f.lastTo }).lastTo, .int .i64 ({ f with tie := f.lastTie, to := f.lastTo }).first, .int .i64 ({ f with tie := f.lastTie, to := f.lastTo }).next, .bool ({ f with tie := f.lastTie, to := f.lastTo }).doubles]) (by simp [results, Try.results55, go_sem]) rfl ⟨rfl, ?_⟩
      exact (((Below.refl _ _).alloc (Nat.le_refl _) _).alloc (by simp) _).alloc (by simp; omega) _
    · have ho : M.ofSet f p = f := by simp [M.ofSet, M.lastB, hb]
      rw [ho]; clear ho
      go_enter Try.func55, Try.ntmps55
      go_wp2
      refine bodyPost_ret (v := .agg #[.int .i64 f.sets, .int .i64 f.games, .bool f.noAd, .int .i64 f.tie, .int .i64 f.to, .int .i64 f.lastTie, .int .i64 f.lastTo, .int .i64 f.first, .int .i64 f.next, .bool f.doubles]) (by simp [results, Try.results55, go_sem]) rfl ⟨rfl, ?_⟩
      exact (((Below.refl _ _).alloc (Nat.le_refl _) _).alloc (by simp) _).alloc (by simp; omega) _
  · have ho : M.ofSet f p = f := by simp [M.ofSet, M.lastB, ha]
    rw [ho]; clear ho
    go_enter Try.func55, Try.ntmps55
    go_wp2
    refine bodyPost_ret (v := .agg #[.int .i64 f.sets, .int .i64 f.games, .bool f.noAd, .int .i64 f.tie, .int .i64 f.to, .int .i64 f.lastTie, .int .i64 f.lastTo, .int .i64 f.first, .int .i64 f.next, .bool f.doubles]) (by simp [results, Try.results55, go_sem]) rfl ⟨rfl, ?_⟩
    exact (((Below.refl _ _).alloc (Nat.le_refl _) _).alloc (by simp) _).alloc (by simp; omega) _

end Go.Proofs.Ytmhaapghiecfcaa

namespace Go.Proofs.Ytmhaapghiecfcaa
open Go.RowKit
attribute [local go_sem ↓] Go.wp_at_zero Go.wp_at_succ


set_option maxHeartbeats 400000 in
theorem winner_any (f : M.Fm) (p : M.Pr) (w : World) :
    Calls Try.prog 46 #[.agg #[.int .i64 f.sets, .int .i64 f.games, .bool f.noAd, .int .i64 f.tie, .int .i64 f.to, .int .i64 f.lastTie, .int .i64 f.lastTo, .int .i64 f.first, .int .i64 f.next, .bool f.doubles], .agg #[.int .i64 p.A, .int .i64 p.B]] w fun e w' => e = .returned (.int .i64 (M.winner f p)) ∧ Below w.heap.size w w' := by
  by_cases ha : (M.of p 0 == f.sets) = true
  · have ho : M.winner f p = 0 := if_pos (by simpa [M.of] using ha)
    rw [ho]; clear ho
    go_enter Try.func46, Try.ntmps46
    go_wp2
    refine wp_loop_rounds 2 ?_; rw [rounds_succ]
    go_wp2
    go_region_held3 (fun w' => w'.cell? ⟨w.heap.size, 0, none⟩ = some (.int .i64 f.sets) ∧ w'.cell? ⟨w.heap.size + 1, 0, none⟩ = some (.int .i64 p.A) ∧ w'.cell? ⟨w.heap.size + 1, 1, none⟩ = some (.int .i64 p.B) ∧ Below w.heap.size w w' ∧ w.heap.size < w'.heap.size ∧ w.heap.size + 1 < w'.heap.size)
      (exact kp)
      (first | (go_at_call 72; refine (of_any p _ _).mono ?_; rintro e w' ⟨rfl, hb⟩; obtain ⟨hc, hf⟩ := bcell hb; have hz := hb.size; (try simp at hz)))
    go_wp2
    go_ret
    exact ⟨rfl, by go_split_ands; assumption⟩
  · have ha : (M.of p 0 == f.sets) = false := by simpa using ha
    by_cases hb1 : (M.of p 1 == f.sets) = true
    · have ho : M.winner f p = 1 := by
        unfold M.winner
        rw [if_neg (by simpa [M.of] using ha), if_pos (by simpa [M.of] using hb1)]
      rw [ho]; clear ho
      go_enter Try.func46, Try.ntmps46
      go_wp2
      refine wp_loop_rounds 2 ?_; rw [rounds_succ]
      go_wp2
      go_region_held3 (fun w' => w'.cell? ⟨w.heap.size, 0, none⟩ = some (.int .i64 f.sets) ∧ w'.cell? ⟨w.heap.size + 1, 0, none⟩ = some (.int .i64 p.A) ∧ w'.cell? ⟨w.heap.size + 1, 1, none⟩ = some (.int .i64 p.B) ∧ Below w.heap.size w w' ∧ w.heap.size < w'.heap.size ∧ w.heap.size + 1 < w'.heap.size)
        (exact kp)
        (first | (go_at_call 72; refine (of_any p _ _).mono ?_; rintro e w' ⟨rfl, hb⟩; obtain ⟨hc, hf⟩ := bcell hb; have hz := hb.size; (try simp at hz)))
      go_wp2
      rw [rounds_succ]
      go_wp2
      go_region_held3 (fun w' => w'.cell? ⟨w.heap.size, 0, none⟩ = some (.int .i64 f.sets) ∧ w'.cell? ⟨w.heap.size + 1, 0, none⟩ = some (.int .i64 p.A) ∧ w'.cell? ⟨w.heap.size + 1, 1, none⟩ = some (.int .i64 p.B) ∧ Below w.heap.size w w' ∧ w.heap.size < w'.heap.size ∧ w.heap.size + 1 < w'.heap.size)
        (exact kp)
        (first | (go_at_call 72; refine (of_any p _ _).mono ?_; rintro e w' ⟨rfl, hb⟩; obtain ⟨hc, hf⟩ := bcell hb; have hz := hb.size; (try simp at hz)))
      go_wp2
      go_ret
      exact ⟨rfl, by go_split_ands; assumption⟩
    · have hb1 : (M.of p 1 == f.sets) = false := by simpa using hb1
      have ho : M.winner f p = -1 := by
        unfold M.winner
        rw [if_neg (by simpa [M.of] using ha), if_neg (by simpa [M.of] using hb1)]
      rw [ho]; clear ho
      go_enter Try.func46, Try.ntmps46
      go_wp2
      refine wp_loop_rounds 3 ?_; rw [rounds_succ]
      go_wp2
      go_region_held3 (fun w' => w'.cell? ⟨w.heap.size, 0, none⟩ = some (.int .i64 f.sets) ∧ w'.cell? ⟨w.heap.size + 1, 0, none⟩ = some (.int .i64 p.A) ∧ w'.cell? ⟨w.heap.size + 1, 1, none⟩ = some (.int .i64 p.B) ∧ Below w.heap.size w w' ∧ w.heap.size < w'.heap.size ∧ w.heap.size + 1 < w'.heap.size)
        (exact kp)
        (first | (go_at_call 72; refine (of_any p _ _).mono ?_; rintro e w' ⟨rfl, hb⟩; obtain ⟨hc, hf⟩ := bcell hb; have hz := hb.size; (try simp at hz)))
      go_wp2
      rw [rounds_succ]
      go_wp2
      go_region_held3 (fun w' => w'.cell? ⟨w.heap.size, 0, none⟩ = some (.int .i64 f.sets) ∧ w'.cell? ⟨w.heap.size + 1, 0, none⟩ = some (.int .i64 p.A) ∧ w'.cell? ⟨w.heap.size + 1, 1, none⟩ = some (.int .i64 p.B) ∧ Below w.heap.size w w' ∧ w.heap.size < w'.heap.size ∧ w.heap.size + 1 < w'.heap.size)
        (exact kp)
        (first | (go_at_call 72; refine (of_any p _ _).mono ?_; rintro e w' ⟨rfl, hb⟩; obtain ⟨hc, hf⟩ := bcell hb; have hz := hb.size; (try simp at hz)))
      go_wp2
      rw [rounds_succ]
      go_wp2
      go_ret
      exact ⟨rfl, by go_split_ands; assumption⟩

end Go.Proofs.Ytmhaapghiecfcaa

namespace Go.Proofs.Ytmhaapghiecfcaa
open Go.RowKit
attribute [local go_sem ↓] Go.wp_at_zero Go.wp_at_succ

set_option maxHeartbeats 1600000 in
theorem endsSet_any (f : M.Fm) (p : M.Pr) (s : Int) (w : World) (hp : M.Small p) (hp2 : p.A ≤ 999999 ∧ p.B ≤ 999999) :
    Calls Try.prog 74 #[.agg #[.int .i64 f.sets, .int .i64 f.games, .bool f.noAd, .int .i64 f.tie, .int .i64 f.to, .int .i64 f.lastTie, .int .i64 f.lastTo, .int .i64 f.first, .int .i64 f.next, .bool f.doubles], .agg #[.int .i64 p.A, .int .i64 p.B], .int .i64 s] w fun e w' => e = .returned (.bool (M.endsSet f p s)) ∧ Below w.heap.size w w' := by
  have hq := hp.plus hp2 s
  cases h0 : M.isTie f p
  · cases h1 : decide (f.games ≤ M.of (M.plus p s) s)
    · have ho : M.endsSet f p s = false := by unfold M.endsSet; rw [h0, h1]; rfl
      rw [ho]; clear ho
      go_enter Try.func74, Try.ntmps74
      go_wp2_with (first | (go_at_call 69; refine (isTie_any f p _).mono ?_; rintro e w' ⟨rfl, hb⟩; obtain ⟨hc, hf⟩ := bcell hb; have hz := hb.size; (try simp at hz); have hSn : (fun w' => w'.cell? ⟨w.heap.size, 1, none⟩ = some (.int .i64 f.games) ∧ w'.cell? ⟨w.heap.size + 1, 0, none⟩ = some (.int .i64 p.A) ∧ w'.cell? ⟨w.heap.size + 1, 1, none⟩ = some (.int .i64 p.B) ∧ w'.frozen? ⟨w.heap.size + 1, 0, none⟩ = false ∧ w'.frozen? ⟨w.heap.size + 1, 1, none⟩ = false ∧ Below w.heap.size w w' ∧ w.heap.size < w'.heap.size ∧ w.heap.size + 1 < w'.heap.size) w' := (by (try dsimp only); (exact kp)); (try dsimp only at hSn); (try clear hS); have hS := hSn; clear hSn hc hf) | (go_at_call 57; refine (plus_any p s _ hp).mono ?_; rintro e w' ⟨rfl, hb⟩; obtain ⟨hc, hf⟩ := bcell hb; have hz := hb.size; (try simp at hz); have hSn : (fun w' => w'.cell? ⟨w.heap.size, 1, none⟩ = some (.int .i64 f.games) ∧ w'.cell? ⟨w.heap.size + 1, 0, none⟩ = some (.int .i64 p.A) ∧ w'.cell? ⟨w.heap.size + 1, 1, none⟩ = some (.int .i64 p.B) ∧ w'.frozen? ⟨w.heap.size + 1, 0, none⟩ = false ∧ w'.frozen? ⟨w.heap.size + 1, 1, none⟩ = false ∧ Below w.heap.size w w' ∧ w.heap.size < w'.heap.size ∧ w.heap.size + 1 < w'.heap.size) w' := (by (try dsimp only); (exact kp)); (try dsimp only at hSn); (try clear hS); have hS := hSn; clear hSn hc hf))
      refine wp_region_held_drew (S := (fun w' => w'.cell? ⟨w.heap.size, 1, none⟩ = some (.int .i64 f.games) ∧ w'.cell? ⟨w.heap.size + 1, 0, none⟩ = some (.int .i64 (M.plus p s).A) ∧ w'.cell? ⟨w.heap.size + 1, 1, none⟩ = some (.int .i64 (M.plus p s).B) ∧ Below w.heap.size w w' ∧ w.heap.size < w'.heap.size ∧ w.heap.size + 1 < w'.heap.size)) (by kernel_rfl) ?_ (fun hD0 => ?_)
      · (try dsimp only); (exact kp)
      refine tW ?_ 0 rfl (by kernel_rfl) (fun _ _ _ h => h) (by rfl) (by assumption) ?_ ?_; rotate_left; (focus (intro w hSw; (try dsimp only at hSw); go_simp; try with_reducible rfl)); try simp only [Act.put, zl, z0, z1]
      refine tW ?_ 1 rfl (by kernel_rfl) (fun _ _ _ h => h) (by rfl) (by assumption) ?_ ?_; rotate_left; (focus (intro w hSw; (try dsimp only at hSw); go_simp; try with_reducible rfl)); try simp only [Act.put, zl, z0, z1]
      refine tW ?_ 3 rfl (by kernel_rfl) (fun _ _ _ h => h) (by rfl) (by assumption) ?_ ?_; rotate_left; (focus (intro w hSw; (try dsimp only at hSw); go_simp; try with_reducible rfl)); try simp only [Act.put, zl, z0, z1]
      refine tW ?_ 4 rfl (by kernel_rfl) (fun _ _ _ h => h) (by rfl) (by assumption) ?_ ?_; rotate_left; (focus (intro w hSw; (try dsimp only at hSw); go_simp; try with_reducible rfl)); try simp only [Act.put, zl, z0, z1]
      refine wpAnyH_ready (rs := [2]) (by kernel_rfl) (by simp) ?_; refine consL 2 rfl (fun K hK => ?_) AllReadyH.nil; go_simp
      (go_at_call 72; refine (of_any (M.plus p s) _ _).mono ?_; rintro e w' ⟨rfl, hb⟩; obtain ⟨hc, hf⟩ := bcell hb; have hz := hb.size; (try simp at hz))
      refine hK.out _ _ ?_ (fun hD1 => ?_)
      · (try dsimp only); (exact kp)
      clear hK K hD0; try simp only [Act.put, zl, z0, z1]
      refine tW ?_ 5 rfl (by kernel_rfl) (fun _ _ _ h => h) (by rfl) (by assumption) ?_ ?_; rotate_left; (focus (intro w hSw; (try dsimp only at hSw); go_simp; try with_reducible rfl)); try simp only [Act.put, zl, z0, z1]
      refine tW ?_ 6 rfl (by kernel_rfl) (fun _ _ _ h => h) (by rfl) (by assumption) ?_ ?_; rotate_left; (focus (intro w hSw; (try dsimp only at hSw); go_simp; try with_reducible rfl)); try simp only [Act.put, zl, z0, z1]
      refine takeL 7 rfl (by kernel_rfl) (by kernel_rfl) (by kernel_rfl) (fun _ _ _ h => h) (Or.inr ⟨by rfl, rfl⟩) (by assumption) ?_; try simp only [Act.put, zl, z0, z1]
      refine takeL 8 rfl (by kernel_rfl) (by kernel_rfl) (by kernel_rfl) (fun _ _ _ h => h) (Or.inr ⟨by rfl, rfl⟩) (by assumption) ?_; try simp only [Act.put, zl, z0, z1]
      refine takeL 9 rfl (by kernel_rfl) (by kernel_rfl) (by kernel_rfl) (fun _ _ _ h => h) (Or.inr ⟨by rfl, rfl⟩) (by assumption) ?_; try simp only [Act.put, zl, z0, z1]
      refine tW ?_ 10 rfl (by kernel_rfl) (fun _ _ _ h => h) (by rfl) (by assumption) ?_ ?_; rotate_left; (focus (intro w hSw; (try dsimp only at hSw); go_simp; try with_reducible rfl)); try simp only [Act.put, zl, z0, z1]
      refine tW ?_ 11 rfl (by kernel_rfl) (fun _ _ _ h => h) (by rfl) (by assumption) ?_ ?_; rotate_left; (focus (intro w hSw; (try dsimp only at hSw); go_simp; try with_reducible rfl)); try simp only [Act.put, zl, z0, z1]
      refine wpAnyH_done (by kernel_rfl) ?_ _
      go_wp2
      go_ret
      exact ⟨rfl, by go_split_ands; assumption⟩
    · cases h2 : M.near (M.plus p s)
      all_goals
        first
          | (have ho : M.endsSet f p s = false := by (unfold M.endsSet; rw [h0, h1, h2]; rfl)
             rw [ho]; clear ho)
          | (have ho : M.endsSet f p s = true := by (unfold M.endsSet; rw [h0, h1, h2]; rfl)
             rw [ho]; clear ho)
        go_enter Try.func74, Try.ntmps74
        go_wp2_with (first | (go_at_call 69; refine (isTie_any f p _).mono ?_; rintro e w' ⟨rfl, hb⟩; obtain ⟨hc, hf⟩ := bcell hb; have hz := hb.size; (try simp at hz); have hSn : (fun w' => w'.cell? ⟨w.heap.size, 1, none⟩ = some (.int .i64 f.games) ∧ w'.cell? ⟨w.heap.size + 1, 0, none⟩ = some (.int .i64 p.A) ∧ w'.cell? ⟨w.heap.size + 1, 1, none⟩ = some (.int .i64 p.B) ∧ w'.frozen? ⟨w.heap.size + 1, 0, none⟩ = false ∧ w'.frozen? ⟨w.heap.size + 1, 1, none⟩ = false ∧ Below w.heap.size w w' ∧ w.heap.size < w'.heap.size ∧ w.heap.size + 1 < w'.heap.size) w' := (by (try dsimp only); (exact kp)); (try dsimp only at hSn); (try clear hS); have hS := hSn; clear hSn hc hf) | (go_at_call 57; refine (plus_any p s _ hp).mono ?_; rintro e w' ⟨rfl, hb⟩; obtain ⟨hc, hf⟩ := bcell hb; have hz := hb.size; (try simp at hz); have hSn : (fun w' => w'.cell? ⟨w.heap.size, 1, none⟩ = some (.int .i64 f.games) ∧ w'.cell? ⟨w.heap.size + 1, 0, none⟩ = some (.int .i64 p.A) ∧ w'.cell? ⟨w.heap.size + 1, 1, none⟩ = some (.int .i64 p.B) ∧ w'.frozen? ⟨w.heap.size + 1, 0, none⟩ = false ∧ w'.frozen? ⟨w.heap.size + 1, 1, none⟩ = false ∧ Below w.heap.size w w' ∧ w.heap.size < w'.heap.size ∧ w.heap.size + 1 < w'.heap.size) w' := (by (try dsimp only); (exact kp)); (try dsimp only at hSn); (try clear hS); have hS := hSn; clear hSn hc hf))
        refine wp_region_held_drew (S := (fun w' => w'.cell? ⟨w.heap.size, 1, none⟩ = some (.int .i64 f.games) ∧ w'.cell? ⟨w.heap.size + 1, 0, none⟩ = some (.int .i64 (M.plus p s).A) ∧ w'.cell? ⟨w.heap.size + 1, 1, none⟩ = some (.int .i64 (M.plus p s).B) ∧ Below w.heap.size w w' ∧ w.heap.size < w'.heap.size ∧ w.heap.size + 1 < w'.heap.size)) (by kernel_rfl) ?_ (fun hD0 => ?_)
        · (try dsimp only); (exact kp)
        refine tW ?_ 0 rfl (by kernel_rfl) (fun _ _ _ h => h) (by rfl) (by assumption) ?_ ?_; rotate_left; (focus (intro w hSw; (try dsimp only at hSw); go_simp; try with_reducible rfl)); try simp only [Act.put, zl, z0, z1]
        refine tW ?_ 1 rfl (by kernel_rfl) (fun _ _ _ h => h) (by rfl) (by assumption) ?_ ?_; rotate_left; (focus (intro w hSw; (try dsimp only at hSw); go_simp; try with_reducible rfl)); try simp only [Act.put, zl, z0, z1]
        refine tW ?_ 3 rfl (by kernel_rfl) (fun _ _ _ h => h) (by rfl) (by assumption) ?_ ?_; rotate_left; (focus (intro w hSw; (try dsimp only at hSw); go_simp; try with_reducible rfl)); try simp only [Act.put, zl, z0, z1]
        refine tW ?_ 4 rfl (by kernel_rfl) (fun _ _ _ h => h) (by rfl) (by assumption) ?_ ?_; rotate_left; (focus (intro w hSw; (try dsimp only at hSw); go_simp; try with_reducible rfl)); try simp only [Act.put, zl, z0, z1]
        refine wpAnyH_ready (rs := [2]) (by kernel_rfl) (by simp) ?_; refine consL 2 rfl (fun K hK => ?_) AllReadyH.nil; go_simp
        (go_at_call 72; refine (of_any (M.plus p s) _ _).mono ?_; rintro e w' ⟨rfl, hb⟩; obtain ⟨hc, hf⟩ := bcell hb; have hz := hb.size; (try simp at hz))
        refine hK.out _ _ ?_ (fun hD1 => ?_)
        · (try dsimp only); (exact kp)
        clear hK K hD0; try simp only [Act.put, zl, z0, z1]
        refine tW ?_ 5 rfl (by kernel_rfl) (fun _ _ _ h => h) (by rfl) (by assumption) ?_ ?_; rotate_left; (focus (intro w hSw; (try dsimp only at hSw); go_simp; try with_reducible rfl)); try simp only [Act.put, zl, z0, z1]
        refine tW ?_ 6 rfl (by kernel_rfl) (fun _ _ _ h => h) (by rfl) (by assumption) ?_ ?_; rotate_left; (focus (intro w hSw; (try dsimp only at hSw); go_simp; try with_reducible rfl)); try simp only [Act.put, zl, z0, z1]
        refine tW ?_ 7 rfl (by kernel_rfl) (fun _ _ _ h => h) (by rfl) (by assumption) ?_ ?_; rotate_left; (focus (intro w hSw; (try dsimp only at hSw); go_simp; try with_reducible rfl)); try simp only [Act.put, zl, z0, z1]
        refine wpAnyH_ready (rs := [8]) (by kernel_rfl) (by simp) ?_; refine consL 8 rfl (fun K hK => ?_) AllReadyH.nil; go_simp
        (go_at_call 83; refine (near_any (M.plus p s) _ hq).mono ?_; rintro e w' ⟨rfl, hb⟩; obtain ⟨hc, hf⟩ := bcell hb; have hz := hb.size; (try simp at hz))
        refine hK.out _ _ ?_ (fun hD2 => ?_)
        · (try dsimp only); (exact kp)
        clear hK K hD1; try simp only [Act.put, zl, z0, z1]
        refine tW ?_ 9 rfl (by kernel_rfl) (fun _ _ _ h => h) (by rfl) (by assumption) ?_ ?_; rotate_left; (focus (intro w hSw; (try dsimp only at hSw); go_simp; try with_reducible rfl)); try simp only [Act.put, zl, z0, z1]
        refine tW ?_ 10 rfl (by kernel_rfl) (fun _ _ _ h => h) (by rfl) (by assumption) ?_ ?_; rotate_left; (focus (intro w hSw; (try dsimp only at hSw); go_simp; try with_reducible rfl)); try simp only [Act.put, zl, z0, z1]
        refine tW ?_ 11 rfl (by kernel_rfl) (fun _ _ _ h => h) (by rfl) (by assumption) ?_ ?_; rotate_left; (focus (intro w hSw; (try dsimp only at hSw); go_simp; try with_reducible rfl)); try simp only [Act.put, zl, z0, z1]
        refine wpAnyH_done (by kernel_rfl) ?_ _
        go_wp2
        go_ret
        exact ⟨rfl, by go_split_ands; assumption⟩
  · have ho : M.endsSet f p s = true := by unfold M.endsSet; rw [h0]; rfl
    rw [ho]; clear ho
    go_enter Try.func74, Try.ntmps74
    go_wp2_with (first | (go_at_call 69; refine (isTie_any f p _).mono ?_; rintro e w' ⟨rfl, hb⟩; obtain ⟨hc, hf⟩ := bcell hb; have hz := hb.size; (try simp at hz); have hSn : (fun w' => w'.cell? ⟨w.heap.size, 1, none⟩ = some (.int .i64 f.games) ∧ w'.cell? ⟨w.heap.size + 1, 0, none⟩ = some (.int .i64 p.A) ∧ w'.cell? ⟨w.heap.size + 1, 1, none⟩ = some (.int .i64 p.B) ∧ w'.frozen? ⟨w.heap.size + 1, 0, none⟩ = false ∧ w'.frozen? ⟨w.heap.size + 1, 1, none⟩ = false ∧ Below w.heap.size w w' ∧ w.heap.size < w'.heap.size ∧ w.heap.size + 1 < w'.heap.size) w' := (by (try dsimp only); (exact kp)); (try dsimp only at hSn); (try clear hS); have hS := hSn; clear hSn hc hf))
    go_ret
    exact ⟨rfl, by go_split_ands; assumption⟩

end Go.Proofs.Ytmhaapghiecfcaa

namespace Go.Proofs.Ytmhaapghiecfcaa
open Go.RowKit


set_option maxHeartbeats 1600000 in
theorem gamesArise_A (f : M.Fm) (p : M.Pr) (w : World) (hp : M.Small p) (hm : p.B ≤ p.A) (hi : M.hi p = p.A) :
    Calls Try.prog 67 #[.agg #[.int .i64 f.sets, .int .i64 f.games, .bool f.noAd, .int .i64 f.tie, .int .i64 f.to, .int .i64 f.lastTie, .int .i64 f.lastTo, .int .i64 f.first, .int .i64 f.next, .bool f.doubles], .agg #[.int .i64 p.A, .int .i64 p.B]] w fun e w' => e = .returned (.bool (M.gamesArise f p)) ∧ Below w.heap.size w w' := by
  by_cases h2 : p.A < f.games
  · by_cases h0 : 0 ≤ f.tie
    · by_cases h1 : f.tie < p.A
      · have ho : M.gamesArise f p = false := by simp [M.gamesArise, hi, h0, h1]
        rw [ho]; clear ho hi
        go_enter Try.func67, Try.ntmps67
        go_wp2_with fail
        go_ret
        exact ⟨rfl, by (exact kb)⟩
      · have ho : M.gamesArise f p = true := by (simp [M.gamesArise, hi, h0, h1, h2] <;> omega)
        rw [ho]; clear ho hi
        go_enter Try.func67, Try.ntmps67
        go_wp2_with fail
        go_ret
        exact ⟨rfl, by (exact kb)⟩
    · have ho : M.gamesArise f p = true := by simp [M.gamesArise, hi, h0, h2]
      rw [ho]; clear ho hi
      go_enter Try.func67, Try.ntmps67
      go_wp2_with fail
      go_ret
      exact ⟨rfl, by (exact kb)⟩
  · cases hn : M.near p
    all_goals
      by_cases h0 : 0 ≤ f.tie
      · by_cases h1 : f.tie < p.A
        · have ho : M.gamesArise f p = false := by simp [M.gamesArise, hi, h0, h1]
          rw [ho]; clear ho hi
          go_enter Try.func67, Try.ntmps67
          go_wp2_with fail
          go_ret
          exact ⟨rfl, by (exact kb)⟩
        · first
            | (have ho : M.gamesArise f p = false := by (simp [M.gamesArise, hi, h0, h2, hn]; done)
               rw [ho]; clear ho hi)
            | (have ho : M.gamesArise f p = true := by (simp [M.gamesArise, hi, h0, h2, hn]; omega)
               rw [ho]; clear ho hi)
          go_enter Try.func67, Try.ntmps67
          go_wp2_with (go_at_call 83; refine (near_any p _ hp).mono ?_; rintro e w' ⟨rfl, hb⟩; obtain ⟨hc, hf⟩ := bcell hb; have hz := hb.size; (try simp at hz))
          go_ret
          exact ⟨rfl, by (exact kb)⟩
      · first
          | (have ho : M.gamesArise f p = false := by (simp [M.gamesArise, hi, h0, h2, hn]; done)
             rw [ho]; clear ho hi)
          | (have ho : M.gamesArise f p = true := by (simp [M.gamesArise, hi, h0, h2, hn]; done)
             rw [ho]; clear ho hi)
        go_enter Try.func67, Try.ntmps67
        go_wp2_with (go_at_call 83; refine (near_any p _ hp).mono ?_; rintro e w' ⟨rfl, hb⟩; obtain ⟨hc, hf⟩ := bcell hb; have hz := hb.size; (try simp at hz))
        go_ret
        exact ⟨rfl, by (exact kb)⟩

set_option maxHeartbeats 800000 in
theorem pointsArise_A (f : M.Fm) (t : Bool) (p : M.Pr) (w : World) (hp : M.Small p) (hm : p.B ≤ p.A) (hi : M.hi p = p.A) :
    Calls Try.prog 68 #[.agg #[.int .i64 f.sets, .int .i64 f.games, .bool f.noAd, .int .i64 f.tie, .int .i64 f.to, .int .i64 f.lastTie, .int .i64 f.lastTo, .int .i64 f.first, .int .i64 f.next, .bool f.doubles], .bool t, .agg #[.int .i64 p.A, .int .i64 p.B]] w fun e w' => e = .returned (.bool (M.pointsArise f t p)) ∧ Below w.heap.size w w' := by
  cases h1 : decide (p.A < M.aimTo f t)
  · cases h2 : (M.aimLead f t == 2)
    · have ho : M.pointsArise f t p = false := by unfold M.pointsArise; rw [hi, h1, h2]; rfl
      rw [ho]; clear ho hi
      go_enter Try.func68, Try.ntmps68
      go_wp2_with (go_at_call 84; refine (aims_any f t _).mono ?_; rintro e w' ⟨rfl, hb⟩; obtain ⟨hc, hf⟩ := bcell hb; have hz := hb.size; (try simp at hz))
      go_ret
      exact ⟨rfl, by (exact kb)⟩
    · cases h3 : M.near p
      all_goals
        first
          | (have ho : M.pointsArise f t p = false := by (unfold M.pointsArise; rw [hi, h1, h2, h3]; rfl)
             rw [ho]; clear ho hi)
          | (have ho : M.pointsArise f t p = true := by (unfold M.pointsArise; rw [hi, h1, h2, h3]; rfl)
             rw [ho]; clear ho hi)
        go_enter Try.func68, Try.ntmps68
        go_wp2_with (first | (go_at_call 84; refine (aims_any f t _).mono ?_; rintro e w' ⟨rfl, hb⟩; obtain ⟨hc, hf⟩ := bcell hb; have hz := hb.size; (try simp at hz)) | (go_at_call 83; refine (near_any p _ hp).mono ?_; rintro e w' ⟨rfl, hb⟩; obtain ⟨hc, hf⟩ := bcell hb; have hz := hb.size; (try simp at hz)))
        go_ret
        exact ⟨rfl, by (exact kb)⟩
  · have ho : M.pointsArise f t p = true := by unfold M.pointsArise; rw [hi, h1]; rfl
    rw [ho]; clear ho hi
    go_enter Try.func68, Try.ntmps68
    go_wp2_with (go_at_call 84; refine (aims_any f t _).mono ?_; rintro e w' ⟨rfl, hb⟩; obtain ⟨hc, hf⟩ := bcell hb; have hz := hb.size; (try simp at hz))
    go_ret
    exact ⟨rfl, by (exact kb)⟩

set_option maxHeartbeats 1600000 in
theorem gamesArise_B (f : M.Fm) (p : M.Pr) (w : World) (hp : M.Small p) (hm : p.A < p.B) (hi : M.hi p = p.B) :
    Calls Try.prog 67 #[.agg #[.int .i64 f.sets, .int .i64 f.games, .bool f.noAd, .int .i64 f.tie, .int .i64 f.to, .int .i64 f.lastTie, .int .i64 f.lastTo, .int .i64 f.first, .int .i64 f.next, .bool f.doubles], .agg #[.int .i64 p.A, .int .i64 p.B]] w fun e w' => e = .returned (.bool (M.gamesArise f p)) ∧ Below w.heap.size w w' := by
  by_cases h2 : p.B < f.games
  · by_cases h0 : 0 ≤ f.tie
    · by_cases h1 : f.tie < p.B
      · have ho : M.gamesArise f p = false := by simp [M.gamesArise, hi, h0, h1]
        rw [ho]; clear ho hi
        go_enter Try.func67, Try.ntmps67
        go_wp2_with fail
        go_ret
        exact ⟨rfl, by (exact kb)⟩
      · have ho : M.gamesArise f p = true := by (simp [M.gamesArise, hi, h0, h1, h2] <;> omega)
        rw [ho]; clear ho hi
        go_enter Try.func67, Try.ntmps67
        go_wp2_with fail
        go_ret
        exact ⟨rfl, by (exact kb)⟩
    · have ho : M.gamesArise f p = true := by simp [M.gamesArise, hi, h0, h2]
      rw [ho]; clear ho hi
      go_enter Try.func67, Try.ntmps67
      go_wp2_with fail
      go_ret
      exact ⟨rfl, by (exact kb)⟩
  · cases hn : M.near p
    all_goals
      by_cases h0 : 0 ≤ f.tie
      · by_cases h1 : f.tie < p.B
        · have ho : M.gamesArise f p = false := by simp [M.gamesArise, hi, h0, h1]
          rw [ho]; clear ho hi
          go_enter Try.func67, Try.ntmps67
          go_wp2_with fail
          go_ret
          exact ⟨rfl, by (exact kb)⟩
        · first
            | (have ho : M.gamesArise f p = false := by (simp [M.gamesArise, hi, h0, h2, hn]; done)
               rw [ho]; clear ho hi)
            | (have ho : M.gamesArise f p = true := by (simp [M.gamesArise, hi, h0, h2, hn]; omega)
               rw [ho]; clear ho hi)
          go_enter Try.func67, Try.ntmps67
          go_wp2_with (go_at_call 83; refine (near_any p _ hp).mono ?_; rintro e w' ⟨rfl, hb⟩; obtain ⟨hc, hf⟩ := bcell hb; have hz := hb.size; (try simp at hz))
          go_ret
          exact ⟨rfl, by (exact kb)⟩
      · first
          | (have ho : M.gamesArise f p = false := by (simp [M.gamesArise, hi, h0, h2, hn]; done)
             rw [ho]; clear ho hi)
          | (have ho : M.gamesArise f p = true := by (simp [M.gamesArise, hi, h0, h2, hn]; done)
             rw [ho]; clear ho hi)
        go_enter Try.func67, Try.ntmps67
        go_wp2_with (go_at_call 83; refine (near_any p _ hp).mono ?_; rintro e w' ⟨rfl, hb⟩; obtain ⟨hc, hf⟩ := bcell hb; have hz := hb.size; (try simp at hz))
        go_ret
        exact ⟨rfl, by (exact kb)⟩

set_option maxHeartbeats 800000 in
theorem pointsArise_B (f : M.Fm) (t : Bool) (p : M.Pr) (w : World) (hp : M.Small p) (hm : p.A < p.B) (hi : M.hi p = p.B) :
    Calls Try.prog 68 #[.agg #[.int .i64 f.sets, .int .i64 f.games, .bool f.noAd, .int .i64 f.tie, .int .i64 f.to, .int .i64 f.lastTie, .int .i64 f.lastTo, .int .i64 f.first, .int .i64 f.next, .bool f.doubles], .bool t, .agg #[.int .i64 p.A, .int .i64 p.B]] w fun e w' => e = .returned (.bool (M.pointsArise f t p)) ∧ Below w.heap.size w w' := by
  cases h1 : decide (p.B < M.aimTo f t)
  · cases h2 : (M.aimLead f t == 2)
    · have ho : M.pointsArise f t p = false := by unfold M.pointsArise; rw [hi, h1, h2]; rfl
      rw [ho]; clear ho hi
      go_enter Try.func68, Try.ntmps68
      go_wp2_with (go_at_call 84; refine (aims_any f t _).mono ?_; rintro e w' ⟨rfl, hb⟩; obtain ⟨hc, hf⟩ := bcell hb; have hz := hb.size; (try simp at hz))
      go_ret
      exact ⟨rfl, by (exact kb)⟩
    · cases h3 : M.near p
      all_goals
        first
          | (have ho : M.pointsArise f t p = false := by (unfold M.pointsArise; rw [hi, h1, h2, h3]; rfl)
             rw [ho]; clear ho hi)
          | (have ho : M.pointsArise f t p = true := by (unfold M.pointsArise; rw [hi, h1, h2, h3]; rfl)
             rw [ho]; clear ho hi)
        go_enter Try.func68, Try.ntmps68
        go_wp2_with (first | (go_at_call 84; refine (aims_any f t _).mono ?_; rintro e w' ⟨rfl, hb⟩; obtain ⟨hc, hf⟩ := bcell hb; have hz := hb.size; (try simp at hz)) | (go_at_call 83; refine (near_any p _ hp).mono ?_; rintro e w' ⟨rfl, hb⟩; obtain ⟨hc, hf⟩ := bcell hb; have hz := hb.size; (try simp at hz)))
        go_ret
        exact ⟨rfl, by (exact kb)⟩
  · have ho : M.pointsArise f t p = true := by unfold M.pointsArise; rw [hi, h1]; rfl
    rw [ho]; clear ho hi
    go_enter Try.func68, Try.ntmps68
    go_wp2_with (go_at_call 84; refine (aims_any f t _).mono ?_; rintro e w' ⟨rfl, hb⟩; obtain ⟨hc, hf⟩ := bcell hb; have hz := hb.size; (try simp at hz))
    go_ret
    exact ⟨rfl, by (exact kb)⟩

theorem gamesArise_any (f : M.Fm) (p : M.Pr) (w : World) (hp : M.Small p) :
    Calls Try.prog 67 #[.agg #[.int .i64 f.sets, .int .i64 f.games, .bool f.noAd, .int .i64 f.tie, .int .i64 f.to, .int .i64 f.lastTie, .int .i64 f.lastTo, .int .i64 f.first, .int .i64 f.next, .bool f.doubles], .agg #[.int .i64 p.A, .int .i64 p.B]] w fun e w' => e = .returned (.bool (M.gamesArise f p)) ∧ Below w.heap.size w w' := by
  by_cases h : p.A < p.B
  · exact gamesArise_B f p w hp h (if_pos h)
  · exact gamesArise_A f p w hp (Int.not_lt.1 h) (if_neg h)
theorem pointsArise_any (f : M.Fm) (t : Bool) (p : M.Pr) (w : World) (hp : M.Small p) :
    Calls Try.prog 68 #[.agg #[.int .i64 f.sets, .int .i64 f.games, .bool f.noAd, .int .i64 f.tie, .int .i64 f.to, .int .i64 f.lastTie, .int .i64 f.lastTo, .int .i64 f.first, .int .i64 f.next, .bool f.doubles], .bool t, .agg #[.int .i64 p.A, .int .i64 p.B]] w fun e w' => e = .returned (.bool (M.pointsArise f t p)) ∧ Below w.heap.size w w' := by
  by_cases h : p.A < p.B
  · exact pointsArise_B f t p w hp h (if_pos h)
  · exact pointsArise_A f t p w hp (Int.not_lt.1 h) (if_neg h)

set_option maxHeartbeats 800000 in
theorem fine_any (p : M.Pr) (w : World) :
    Calls Try.prog 66 #[.agg #[.int .i64 p.A, .int .i64 p.B]] w fun e w' => e = .returned (.bool (M.fine p)) ∧ Below w.heap.size w w' := by
  by_cases hm : p.A < p.B
  all_goals
    by_cases h0 : 0 ≤ p.A
    all_goals
      by_cases h1 : p.A ≤ 40
      all_goals
        by_cases h2 : 0 ≤ p.B
        all_goals
          by_cases h3 : p.B ≤ 40
          all_goals
            first
              | (exfalso; omega)
              | (first
                  | (have ho : M.fine p = true := by (simp [M.fine, h0, h1, h2, h3]; done)
                     rw [ho]; clear ho)
                  | (have ho : M.fine p = false := by (simp [M.fine, h0, h1, h2, h3]; done)
                     rw [ho]; clear ho)
                 go_enter Try.func66, Try.ntmps66
                 go_wp2
                 all_goals go_ret
                 all_goals exact ⟨rfl, by (exact kb)⟩)

end Go.Proofs.Ytmhaapghiecfcaa

namespace Go.Proofs.Ytmhaapghiecfcaa
open Go.RowKit
attribute [local go_sem ↓] Go.wp_at_zero Go.wp_at_succ

set_option maxHeartbeats 3200000 in
theorem setWinner_any (f : M.Fm) (p : M.Pr) (w : World) (hp : M.Small p) (hp0 : -1000 ≤ p.A ∧ -1000 ≤ p.B) (hp2 : p.A ≤ 1000 ∧ p.B ≤ 1000) :
    Calls Try.prog 58 #[.agg #[.int .i64 f.sets, .int .i64 f.games, .bool f.noAd, .int .i64 f.tie, .int .i64 f.to, .int .i64 f.lastTie, .int .i64 f.lastTo, .int .i64 f.first, .int .i64 f.next, .bool f.doubles], .agg #[.int .i64 p.A, .int .i64 p.B]] w fun e w' => e = .returned (.int .i64 (M.setWinner f p)) ∧ Below w.heap.size w w' := by
  have HP := hide hp
  have H0 := hide hp0
  have H2 := hide hp2
  clear hp hp0 hp2
  go_enter Try.func58, Try.ntmps58
  go_wp2
  go_loopw [7] (fun i wr => ∃ k : Nat, k ≤ 2 ∧ i = .int .i64 k ∧ Hid (∀ j : Nat, j < k → M.endsBy f p j = false) ∧ wr.cell? ⟨w.heap.size, 0, none⟩ = some (.int .i64 f.sets) ∧ wr.cell? ⟨w.heap.size, 1, none⟩ = some (.int .i64 f.games) ∧ wr.cell? ⟨w.heap.size, 2, none⟩ = some (.bool f.noAd) ∧ wr.cell? ⟨w.heap.size, 3, none⟩ = some (.int .i64 f.tie) ∧ wr.cell? ⟨w.heap.size, 4, none⟩ = some (.int .i64 f.to) ∧ wr.cell? ⟨w.heap.size, 5, none⟩ = some (.int .i64 f.lastTie) ∧ wr.cell? ⟨w.heap.size, 6, none⟩ = some (.int .i64 f.lastTo) ∧ wr.cell? ⟨w.heap.size, 7, none⟩ = some (.int .i64 f.first) ∧ wr.cell? ⟨w.heap.size, 8, none⟩ = some (.int .i64 f.next) ∧ wr.cell? ⟨w.heap.size, 9, none⟩ = some (.bool f.doubles) ∧ wr.cell? ⟨w.heap.size + 1, 0, none⟩ = some (.int .i64 p.A) ∧ wr.cell? ⟨w.heap.size + 1, 1, none⟩ = some (.int .i64 p.B) ∧ Below w.heap.size w wr ∧ w.heap.size < wr.heap.size ∧ w.heap.size + 1 < wr.heap.size) (fun i _ => 2 - (intOf i).toNat)
  case atStart => exact ⟨0, by omega, rfl, (fun j hj => by omega), by (exact kp)⟩
  case round =>
    obtain ⟨k, hk, rfl, hno, hS0⟩ := hrel
    by_cases hlt : k < 2
    · have hm := HP.out.minus ⟨by have := H0.out.1; omega, by have := H0.out.2; omega⟩ (k : Int)
      have hm2 := M.minus_le H2.out (k : Int)
      have hm3 : (M.minus p k).A ≤ 999999 ∧ (M.minus p k).B ≤ 999999 := ⟨by omega, by omega⟩
      have HM := hide hm
      have HM3 := hide hm3
      clear hm hm2 hm3
      cases h1 : decide (0 ≤ M.of (M.minus p k) k)
      · have he : M.endsBy f p k = false := by unfold M.endsBy; rw [h1]; rfl
        have HN : Hid (∀ j : Nat, j < k + 1 → M.endsBy f p j = false) := hide (fun j hj => by
          rcases Nat.lt_or_eq_of_le (Nat.le_of_lt_succ hj) with h | h
          · exact hno.out j h
          · rw [h]; exact he)
        clear he
        go_wp2_with (first
          | (go_at_call 75; refine (minus_any p _ _ HP.out).mono ?_; rintro e w1 ⟨rfl, hb⟩; obtain ⟨hc, hf⟩ := bcell hb; have hz := hb.size; (try simp at hz); have hSn : ((fun w' => w'.cell? ⟨w.heap.size, 0, none⟩ = some (.int .i64 f.sets) ∧ w'.cell? ⟨w.heap.size, 1, none⟩ = some (.int .i64 f.games) ∧ w'.cell? ⟨w.heap.size, 2, none⟩ = some (.bool f.noAd) ∧ w'.cell? ⟨w.heap.size, 3, none⟩ = some (.int .i64 f.tie) ∧ w'.cell? ⟨w.heap.size, 4, none⟩ = some (.int .i64 f.to) ∧ w'.cell? ⟨w.heap.size, 5, none⟩ = some (.int .i64 f.lastTie) ∧ w'.cell? ⟨w.heap.size, 6, none⟩ = some (.int .i64 f.lastTo) ∧ w'.cell? ⟨w.heap.size, 7, none⟩ = some (.int .i64 f.first) ∧ w'.cell? ⟨w.heap.size, 8, none⟩ = some (.int .i64 f.next) ∧ w'.cell? ⟨w.heap.size, 9, none⟩ = some (.bool f.doubles) ∧ w'.cell? ⟨w.heap.size + 1, 0, none⟩ = some (.int .i64 p.A) ∧ w'.cell? ⟨w.heap.size + 1, 1, none⟩ = some (.int .i64 p.B) ∧ Below w.heap.size w w' ∧ w.heap.size < w'.heap.size ∧ w.heap.size + 1 < w'.heap.size)) w1 := (by (try dsimp only); (exact kp)); (try dsimp only at hSn); (try clear hS); have hS := hSn; clear hSn hc hf)
          | (go_at_call 72; refine (of_any (M.minus p k) _ _).mono ?_; rintro e w2 ⟨rfl, hb⟩; obtain ⟨hc, hf⟩ := bcell hb; have hz := hb.size; (try simp at hz); have hSn : ((fun w' => w'.cell? ⟨w.heap.size, 0, none⟩ = some (.int .i64 f.sets) ∧ w'.cell? ⟨w.heap.size, 1, none⟩ = some (.int .i64 f.games) ∧ w'.cell? ⟨w.heap.size, 2, none⟩ = some (.bool f.noAd) ∧ w'.cell? ⟨w.heap.size, 3, none⟩ = some (.int .i64 f.tie) ∧ w'.cell? ⟨w.heap.size, 4, none⟩ = some (.int .i64 f.to) ∧ w'.cell? ⟨w.heap.size, 5, none⟩ = some (.int .i64 f.lastTie) ∧ w'.cell? ⟨w.heap.size, 6, none⟩ = some (.int .i64 f.lastTo) ∧ w'.cell? ⟨w.heap.size, 7, none⟩ = some (.int .i64 f.first) ∧ w'.cell? ⟨w.heap.size, 8, none⟩ = some (.int .i64 f.next) ∧ w'.cell? ⟨w.heap.size, 9, none⟩ = some (.bool f.doubles) ∧ w'.cell? ⟨w.heap.size + 1, 0, none⟩ = some (.int .i64 p.A) ∧ w'.cell? ⟨w.heap.size + 1, 1, none⟩ = some (.int .i64 p.B) ∧ Below w.heap.size w w' ∧ w.heap.size < w'.heap.size ∧ w.heap.size + 1 < w'.heap.size ∧ w'.cell? ⟨w1.heap.size, 0, none⟩ = some (.int .i64 (M.minus p k).A) ∧ w'.cell? ⟨w1.heap.size, 1, none⟩ = some (.int .i64 (M.minus p k).B) ∧ w1.heap.size < w'.heap.size)) w2 := (by (try dsimp only); (exact kp)); (try dsimp only at hSn); (try clear hS); have hS := hSn; clear hSn hc hf)
          | (go_at_call 67; refine (gamesArise_any f (M.minus p k) _ HM.out).mono ?_; rintro e w3 ⟨rfl, hb⟩; obtain ⟨hc, hf⟩ := bcell hb; have hz := hb.size; (try simp at hz); have hSn : ((fun w' => w'.cell? ⟨w.heap.size, 0, none⟩ = some (.int .i64 f.sets) ∧ w'.cell? ⟨w.heap.size, 1, none⟩ = some (.int .i64 f.games) ∧ w'.cell? ⟨w.heap.size, 2, none⟩ = some (.bool f.noAd) ∧ w'.cell? ⟨w.heap.size, 3, none⟩ = some (.int .i64 f.tie) ∧ w'.cell? ⟨w.heap.size, 4, none⟩ = some (.int .i64 f.to) ∧ w'.cell? ⟨w.heap.size, 5, none⟩ = some (.int .i64 f.lastTie) ∧ w'.cell? ⟨w.heap.size, 6, none⟩ = some (.int .i64 f.lastTo) ∧ w'.cell? ⟨w.heap.size, 7, none⟩ = some (.int .i64 f.first) ∧ w'.cell? ⟨w.heap.size, 8, none⟩ = some (.int .i64 f.next) ∧ w'.cell? ⟨w.heap.size, 9, none⟩ = some (.bool f.doubles) ∧ w'.cell? ⟨w.heap.size + 1, 0, none⟩ = some (.int .i64 p.A) ∧ w'.cell? ⟨w.heap.size + 1, 1, none⟩ = some (.int .i64 p.B) ∧ Below w.heap.size w w' ∧ w.heap.size < w'.heap.size ∧ w.heap.size + 1 < w'.heap.size ∧ w'.cell? ⟨w1.heap.size, 0, none⟩ = some (.int .i64 (M.minus p k).A) ∧ w'.cell? ⟨w1.heap.size, 1, none⟩ = some (.int .i64 (M.minus p k).B) ∧ w1.heap.size < w'.heap.size)) w3 := (by (try dsimp only); (exact kp)); (try dsimp only at hSn); (try clear hS); have hS := hSn; clear hSn hc hf)
          | (go_at_call 74; refine (endsSet_any f (M.minus p k) _ _ HM.out HM3.out).mono ?_; rintro e w4 ⟨rfl, hb⟩; obtain ⟨hc, hf⟩ := bcell hb; have hz := hb.size; (try simp at hz); have hSn : ((fun w' => w'.cell? ⟨w.heap.size, 0, none⟩ = some (.int .i64 f.sets) ∧ w'.cell? ⟨w.heap.size, 1, none⟩ = some (.int .i64 f.games) ∧ w'.cell? ⟨w.heap.size, 2, none⟩ = some (.bool f.noAd) ∧ w'.cell? ⟨w.heap.size, 3, none⟩ = some (.int .i64 f.tie) ∧ w'.cell? ⟨w.heap.size, 4, none⟩ = some (.int .i64 f.to) ∧ w'.cell? ⟨w.heap.size, 5, none⟩ = some (.int .i64 f.lastTie) ∧ w'.cell? ⟨w.heap.size, 6, none⟩ = some (.int .i64 f.lastTo) ∧ w'.cell? ⟨w.heap.size, 7, none⟩ = some (.int .i64 f.first) ∧ w'.cell? ⟨w.heap.size, 8, none⟩ = some (.int .i64 f.next) ∧ w'.cell? ⟨w.heap.size, 9, none⟩ = some (.bool f.doubles) ∧ w'.cell? ⟨w.heap.size + 1, 0, none⟩ = some (.int .i64 p.A) ∧ w'.cell? ⟨w.heap.size + 1, 1, none⟩ = some (.int .i64 p.B) ∧ Below w.heap.size w w' ∧ w.heap.size < w'.heap.size ∧ w.heap.size + 1 < w'.heap.size ∧ w'.cell? ⟨w1.heap.size, 0, none⟩ = some (.int .i64 (M.minus p k).A) ∧ w'.cell? ⟨w1.heap.size, 1, none⟩ = some (.int .i64 (M.minus p k).B) ∧ w1.heap.size < w'.heap.size)) w4 := (by (try dsimp only); (exact kp)); (try dsimp only at hSn); (try clear hS); have hS := hSn; clear hSn hc hf))
        go_roundw
        case rel => exact ⟨k + 1, by omega, by go_num, HN, by (exact kp)⟩
        case measure => simp [intOf]; omega
      cases h2 : M.gamesArise f (M.minus p k)
      · have he : M.endsBy f p k = false := by unfold M.endsBy; rw [h1, h2]; rfl
        have HN : Hid (∀ j : Nat, j < k + 1 → M.endsBy f p j = false) := hide (fun j hj => by
          rcases Nat.lt_or_eq_of_le (Nat.le_of_lt_succ hj) with h | h
          · exact hno.out j h
          · rw [h]; exact he)
        clear he
        go_wp2_with (first
          | (go_at_call 75; refine (minus_any p _ _ HP.out).mono ?_; rintro e w1 ⟨rfl, hb⟩; obtain ⟨hc, hf⟩ := bcell hb; have hz := hb.size; (try simp at hz); have hSn : ((fun w' => w'.cell? ⟨w.heap.size, 0, none⟩ = some (.int .i64 f.sets) ∧ w'.cell? ⟨w.heap.size, 1, none⟩ = some (.int .i64 f.games) ∧ w'.cell? ⟨w.heap.size, 2, none⟩ = some (.bool f.noAd) ∧ w'.cell? ⟨w.heap.size, 3, none⟩ = some (.int .i64 f.tie) ∧ w'.cell? ⟨w.heap.size, 4, none⟩ = some (.int .i64 f.to) ∧ w'.cell? ⟨w.heap.size, 5, none⟩ = some (.int .i64 f.lastTie) ∧ w'.cell? ⟨w.heap.size, 6, none⟩ = some (.int .i64 f.lastTo) ∧ w'.cell? ⟨w.heap.size, 7, none⟩ = some (.int .i64 f.first) ∧ w'.cell? ⟨w.heap.size, 8, none⟩ = some (.int .i64 f.next) ∧ w'.cell? ⟨w.heap.size, 9, none⟩ = some (.bool f.doubles) ∧ w'.cell? ⟨w.heap.size + 1, 0, none⟩ = some (.int .i64 p.A) ∧ w'.cell? ⟨w.heap.size + 1, 1, none⟩ = some (.int .i64 p.B) ∧ Below w.heap.size w w' ∧ w.heap.size < w'.heap.size ∧ w.heap.size + 1 < w'.heap.size)) w1 := (by (try dsimp only); (exact kp)); (try dsimp only at hSn); (try clear hS); have hS := hSn; clear hSn hc hf)
          | (go_at_call 72; refine (of_any (M.minus p k) _ _).mono ?_; rintro e w2 ⟨rfl, hb⟩; obtain ⟨hc, hf⟩ := bcell hb; have hz := hb.size; (try simp at hz); have hSn : ((fun w' => w'.cell? ⟨w.heap.size, 0, none⟩ = some (.int .i64 f.sets) ∧ w'.cell? ⟨w.heap.size, 1, none⟩ = some (.int .i64 f.games) ∧ w'.cell? ⟨w.heap.size, 2, none⟩ = some (.bool f.noAd) ∧ w'.cell? ⟨w.heap.size, 3, none⟩ = some (.int .i64 f.tie) ∧ w'.cell? ⟨w.heap.size, 4, none⟩ = some (.int .i64 f.to) ∧ w'.cell? ⟨w.heap.size, 5, none⟩ = some (.int .i64 f.lastTie) ∧ w'.cell? ⟨w.heap.size, 6, none⟩ = some (.int .i64 f.lastTo) ∧ w'.cell? ⟨w.heap.size, 7, none⟩ = some (.int .i64 f.first) ∧ w'.cell? ⟨w.heap.size, 8, none⟩ = some (.int .i64 f.next) ∧ w'.cell? ⟨w.heap.size, 9, none⟩ = some (.bool f.doubles) ∧ w'.cell? ⟨w.heap.size + 1, 0, none⟩ = some (.int .i64 p.A) ∧ w'.cell? ⟨w.heap.size + 1, 1, none⟩ = some (.int .i64 p.B) ∧ Below w.heap.size w w' ∧ w.heap.size < w'.heap.size ∧ w.heap.size + 1 < w'.heap.size ∧ w'.cell? ⟨w1.heap.size, 0, none⟩ = some (.int .i64 (M.minus p k).A) ∧ w'.cell? ⟨w1.heap.size, 1, none⟩ = some (.int .i64 (M.minus p k).B) ∧ w1.heap.size < w'.heap.size)) w2 := (by (try dsimp only); (exact kp)); (try dsimp only at hSn); (try clear hS); have hS := hSn; clear hSn hc hf)
          | (go_at_call 67; refine (gamesArise_any f (M.minus p k) _ HM.out).mono ?_; rintro e w3 ⟨rfl, hb⟩; obtain ⟨hc, hf⟩ := bcell hb; have hz := hb.size; (try simp at hz); have hSn : ((fun w' => w'.cell? ⟨w.heap.size, 0, none⟩ = some (.int .i64 f.sets) ∧ w'.cell? ⟨w.heap.size, 1, none⟩ = some (.int .i64 f.games) ∧ w'.cell? ⟨w.heap.size, 2, none⟩ = some (.bool f.noAd) ∧ w'.cell? ⟨w.heap.size, 3, none⟩ = some (.int .i64 f.tie) ∧ w'.cell? ⟨w.heap.size, 4, none⟩ = some (.int .i64 f.to) ∧ w'.cell? ⟨w.heap.size, 5, none⟩ = some (.int .i64 f.lastTie) ∧ w'.cell? ⟨w.heap.size, 6, none⟩ = some (.int .i64 f.lastTo) ∧ w'.cell? ⟨w.heap.size, 7, none⟩ = some (.int .i64 f.first) ∧ w'.cell? ⟨w.heap.size, 8, none⟩ = some (.int .i64 f.next) ∧ w'.cell? ⟨w.heap.size, 9, none⟩ = some (.bool f.doubles) ∧ w'.cell? ⟨w.heap.size + 1, 0, none⟩ = some (.int .i64 p.A) ∧ w'.cell? ⟨w.heap.size + 1, 1, none⟩ = some (.int .i64 p.B) ∧ Below w.heap.size w w' ∧ w.heap.size < w'.heap.size ∧ w.heap.size + 1 < w'.heap.size ∧ w'.cell? ⟨w1.heap.size, 0, none⟩ = some (.int .i64 (M.minus p k).A) ∧ w'.cell? ⟨w1.heap.size, 1, none⟩ = some (.int .i64 (M.minus p k).B) ∧ w1.heap.size < w'.heap.size)) w3 := (by (try dsimp only); (exact kp)); (try dsimp only at hSn); (try clear hS); have hS := hSn; clear hSn hc hf)
          | (go_at_call 74; refine (endsSet_any f (M.minus p k) _ _ HM.out HM3.out).mono ?_; rintro e w4 ⟨rfl, hb⟩; obtain ⟨hc, hf⟩ := bcell hb; have hz := hb.size; (try simp at hz); have hSn : ((fun w' => w'.cell? ⟨w.heap.size, 0, none⟩ = some (.int .i64 f.sets) ∧ w'.cell? ⟨w.heap.size, 1, none⟩ = some (.int .i64 f.games) ∧ w'.cell? ⟨w.heap.size, 2, none⟩ = some (.bool f.noAd) ∧ w'.cell? ⟨w.heap.size, 3, none⟩ = some (.int .i64 f.tie) ∧ w'.cell? ⟨w.heap.size, 4, none⟩ = some (.int .i64 f.to) ∧ w'.cell? ⟨w.heap.size, 5, none⟩ = some (.int .i64 f.lastTie) ∧ w'.cell? ⟨w.heap.size, 6, none⟩ = some (.int .i64 f.lastTo) ∧ w'.cell? ⟨w.heap.size, 7, none⟩ = some (.int .i64 f.first) ∧ w'.cell? ⟨w.heap.size, 8, none⟩ = some (.int .i64 f.next) ∧ w'.cell? ⟨w.heap.size, 9, none⟩ = some (.bool f.doubles) ∧ w'.cell? ⟨w.heap.size + 1, 0, none⟩ = some (.int .i64 p.A) ∧ w'.cell? ⟨w.heap.size + 1, 1, none⟩ = some (.int .i64 p.B) ∧ Below w.heap.size w w' ∧ w.heap.size < w'.heap.size ∧ w.heap.size + 1 < w'.heap.size ∧ w'.cell? ⟨w1.heap.size, 0, none⟩ = some (.int .i64 (M.minus p k).A) ∧ w'.cell? ⟨w1.heap.size, 1, none⟩ = some (.int .i64 (M.minus p k).B) ∧ w1.heap.size < w'.heap.size)) w4 := (by (try dsimp only); (exact kp)); (try dsimp only at hSn); (try clear hS); have hS := hSn; clear hSn hc hf))
        go_roundw
        case rel => exact ⟨k + 1, by omega, by go_num, HN, by (exact kp)⟩
        case measure => simp [intOf]; omega
      cases h3 : M.endsSet f (M.minus p k) k
      · have he : M.endsBy f p k = false := by unfold M.endsBy; rw [h1, h2, h3]; rfl
        have HN : Hid (∀ j : Nat, j < k + 1 → M.endsBy f p j = false) := hide (fun j hj => by
          rcases Nat.lt_or_eq_of_le (Nat.le_of_lt_succ hj) with h | h
          · exact hno.out j h
          · rw [h]; exact he)
        clear he
        go_wp2_with (first
          | (go_at_call 75; refine (minus_any p _ _ HP.out).mono ?_; rintro e w1 ⟨rfl, hb⟩; obtain ⟨hc, hf⟩ := bcell hb; have hz := hb.size; (try simp at hz); have hSn : ((fun w' => w'.cell? ⟨w.heap.size, 0, none⟩ = some (.int .i64 f.sets) ∧ w'.cell? ⟨w.heap.size, 1, none⟩ = some (.int .i64 f.games) ∧ w'.cell? ⟨w.heap.size, 2, none⟩ = some (.bool f.noAd) ∧ w'.cell? ⟨w.heap.size, 3, none⟩ = some (.int .i64 f.tie) ∧ w'.cell? ⟨w.heap.size, 4, none⟩ = some (.int .i64 f.to) ∧ w'.cell? ⟨w.heap.size, 5, none⟩ = some (.int .i64 f.lastTie) ∧ w'.cell? ⟨w.heap.size, 6, none⟩ = some (.int .i64 f.lastTo) ∧ w'.cell? ⟨w.heap.size, 7, none⟩ = some (.int .i64 f.first) ∧ w'.cell? ⟨w.heap.size, 8, none⟩ = some (.int .i64 f.next) ∧ w'.cell? ⟨w.heap.size, 9, none⟩ = some (.bool f.doubles) ∧ w'.cell? ⟨w.heap.size + 1, 0, none⟩ = some (.int .i64 p.A) ∧ w'.cell? ⟨w.heap.size + 1, 1, none⟩ = some (.int .i64 p.B) ∧ Below w.heap.size w w' ∧ w.heap.size < w'.heap.size ∧ w.heap.size + 1 < w'.heap.size)) w1 := (by (try dsimp only); (exact kp)); (try dsimp only at hSn); (try clear hS); have hS := hSn; clear hSn hc hf)
          | (go_at_call 72; refine (of_any (M.minus p k) _ _).mono ?_; rintro e w2 ⟨rfl, hb⟩; obtain ⟨hc, hf⟩ := bcell hb; have hz := hb.size; (try simp at hz); have hSn : ((fun w' => w'.cell? ⟨w.heap.size, 0, none⟩ = some (.int .i64 f.sets) ∧ w'.cell? ⟨w.heap.size, 1, none⟩ = some (.int .i64 f.games) ∧ w'.cell? ⟨w.heap.size, 2, none⟩ = some (.bool f.noAd) ∧ w'.cell? ⟨w.heap.size, 3, none⟩ = some (.int .i64 f.tie) ∧ w'.cell? ⟨w.heap.size, 4, none⟩ = some (.int .i64 f.to) ∧ w'.cell? ⟨w.heap.size, 5, none⟩ = some (.int .i64 f.lastTie) ∧ w'.cell? ⟨w.heap.size, 6, none⟩ = some (.int .i64 f.lastTo) ∧ w'.cell? ⟨w.heap.size, 7, none⟩ = some (.int .i64 f.first) ∧ w'.cell? ⟨w.heap.size, 8, none⟩ = some (.int .i64 f.next) ∧ w'.cell? ⟨w.heap.size, 9, none⟩ = some (.bool f.doubles) ∧ w'.cell? ⟨w.heap.size + 1, 0, none⟩ = some (.int .i64 p.A) ∧ w'.cell? ⟨w.heap.size + 1, 1, none⟩ = some (.int .i64 p.B) ∧ Below w.heap.size w w' ∧ w.heap.size < w'.heap.size ∧ w.heap.size + 1 < w'.heap.size ∧ w'.cell? ⟨w1.heap.size, 0, none⟩ = some (.int .i64 (M.minus p k).A) ∧ w'.cell? ⟨w1.heap.size, 1, none⟩ = some (.int .i64 (M.minus p k).B) ∧ w1.heap.size < w'.heap.size)) w2 := (by (try dsimp only); (exact kp)); (try dsimp only at hSn); (try clear hS); have hS := hSn; clear hSn hc hf)
          | (go_at_call 67; refine (gamesArise_any f (M.minus p k) _ HM.out).mono ?_; rintro e w3 ⟨rfl, hb⟩; obtain ⟨hc, hf⟩ := bcell hb; have hz := hb.size; (try simp at hz); have hSn : ((fun w' => w'.cell? ⟨w.heap.size, 0, none⟩ = some (.int .i64 f.sets) ∧ w'.cell? ⟨w.heap.size, 1, none⟩ = some (.int .i64 f.games) ∧ w'.cell? ⟨w.heap.size, 2, none⟩ = some (.bool f.noAd) ∧ w'.cell? ⟨w.heap.size, 3, none⟩ = some (.int .i64 f.tie) ∧ w'.cell? ⟨w.heap.size, 4, none⟩ = some (.int .i64 f.to) ∧ w'.cell? ⟨w.heap.size, 5, none⟩ = some (.int .i64 f.lastTie) ∧ w'.cell? ⟨w.heap.size, 6, none⟩ = some (.int .i64 f.lastTo) ∧ w'.cell? ⟨w.heap.size, 7, none⟩ = some (.int .i64 f.first) ∧ w'.cell? ⟨w.heap.size, 8, none⟩ = some (.int .i64 f.next) ∧ w'.cell? ⟨w.heap.size, 9, none⟩ = some (.bool f.doubles) ∧ w'.cell? ⟨w.heap.size + 1, 0, none⟩ = some (.int .i64 p.A) ∧ w'.cell? ⟨w.heap.size + 1, 1, none⟩ = some (.int .i64 p.B) ∧ Below w.heap.size w w' ∧ w.heap.size < w'.heap.size ∧ w.heap.size + 1 < w'.heap.size ∧ w'.cell? ⟨w1.heap.size, 0, none⟩ = some (.int .i64 (M.minus p k).A) ∧ w'.cell? ⟨w1.heap.size, 1, none⟩ = some (.int .i64 (M.minus p k).B) ∧ w1.heap.size < w'.heap.size)) w3 := (by (try dsimp only); (exact kp)); (try dsimp only at hSn); (try clear hS); have hS := hSn; clear hSn hc hf)
          | (go_at_call 74; refine (endsSet_any f (M.minus p k) _ _ HM.out HM3.out).mono ?_; rintro e w4 ⟨rfl, hb⟩; obtain ⟨hc, hf⟩ := bcell hb; have hz := hb.size; (try simp at hz); have hSn : ((fun w' => w'.cell? ⟨w.heap.size, 0, none⟩ = some (.int .i64 f.sets) ∧ w'.cell? ⟨w.heap.size, 1, none⟩ = some (.int .i64 f.games) ∧ w'.cell? ⟨w.heap.size, 2, none⟩ = some (.bool f.noAd) ∧ w'.cell? ⟨w.heap.size, 3, none⟩ = some (.int .i64 f.tie) ∧ w'.cell? ⟨w.heap.size, 4, none⟩ = some (.int .i64 f.to) ∧ w'.cell? ⟨w.heap.size, 5, none⟩ = some (.int .i64 f.lastTie) ∧ w'.cell? ⟨w.heap.size, 6, none⟩ = some (.int .i64 f.lastTo) ∧ w'.cell? ⟨w.heap.size, 7, none⟩ = some (.int .i64 f.first) ∧ w'.cell? ⟨w.heap.size, 8, none⟩ = some (.int .i64 f.next) ∧ w'.cell? ⟨w.heap.size, 9, none⟩ = some (.bool f.doubles) ∧ w'.cell? ⟨w.heap.size + 1, 0, none⟩ = some (.int .i64 p.A) ∧ w'.cell? ⟨w.heap.size + 1, 1, none⟩ = some (.int .i64 p.B) ∧ Below w.heap.size w w' ∧ w.heap.size < w'.heap.size ∧ w.heap.size + 1 < w'.heap.size ∧ w'.cell? ⟨w1.heap.size, 0, none⟩ = some (.int .i64 (M.minus p k).A) ∧ w'.cell? ⟨w1.heap.size, 1, none⟩ = some (.int .i64 (M.minus p k).B) ∧ w1.heap.size < w'.heap.size)) w4 := (by (try dsimp only); (exact kp)); (try dsimp only at hSn); (try clear hS); have hS := hSn; clear hSn hc hf))
        go_roundw
        case rel => exact ⟨k + 1, by omega, by go_num, HN, by (exact kp)⟩
        case measure => simp [intOf]; omega
      · have he : M.endsBy f p k = true := by unfold M.endsBy; rw [h1, h2, h3]; rfl
        have ho := M.setWinner_of hlt hno.out he
        have HO := hide ho
        clear ho he
        go_wp2_with (first
          | (go_at_call 75; refine (minus_any p _ _ HP.out).mono ?_; rintro e w1 ⟨rfl, hb⟩; obtain ⟨hc, hf⟩ := bcell hb; have hz := hb.size; (try simp at hz); have hSn : ((fun w' => w'.cell? ⟨w.heap.size, 0, none⟩ = some (.int .i64 f.sets) ∧ w'.cell? ⟨w.heap.size, 1, none⟩ = some (.int .i64 f.games) ∧ w'.cell? ⟨w.heap.size, 2, none⟩ = some (.bool f.noAd) ∧ w'.cell? ⟨w.heap.size, 3, none⟩ = some (.int .i64 f.tie) ∧ w'.cell? ⟨w.heap.size, 4, none⟩ = some (.int .i64 f.to) ∧ w'.cell? ⟨w.heap.size, 5, none⟩ = some (.int .i64 f.lastTie) ∧ w'.cell? ⟨w.heap.size, 6, none⟩ = some (.int .i64 f.lastTo) ∧ w'.cell? ⟨w.heap.size, 7, none⟩ = some (.int .i64 f.first) ∧ w'.cell? ⟨w.heap.size, 8, none⟩ = some (.int .i64 f.next) ∧ w'.cell? ⟨w.heap.size, 9, none⟩ = some (.bool f.doubles) ∧ w'.cell? ⟨w.heap.size + 1, 0, none⟩ = some (.int .i64 p.A) ∧ w'.cell? ⟨w.heap.size + 1, 1, none⟩ = some (.int .i64 p.B) ∧ Below w.heap.size w w' ∧ w.heap.size < w'.heap.size ∧ w.heap.size + 1 < w'.heap.size)) w1 := (by (try dsimp only); (exact kp)); (try dsimp only at hSn); (try clear hS); have hS := hSn; clear hSn hc hf)
          | (go_at_call 72; refine (of_any (M.minus p k) _ _).mono ?_; rintro e w2 ⟨rfl, hb⟩; obtain ⟨hc, hf⟩ := bcell hb; have hz := hb.size; (try simp at hz); have hSn : ((fun w' => w'.cell? ⟨w.heap.size, 0, none⟩ = some (.int .i64 f.sets) ∧ w'.cell? ⟨w.heap.size, 1, none⟩ = some (.int .i64 f.games) ∧ w'.cell? ⟨w.heap.size, 2, none⟩ = some (.bool f.noAd) ∧ w'.cell? ⟨w.heap.size, 3, none⟩ = some (.int .i64 f.tie) ∧ w'.cell? ⟨w.heap.size, 4, none⟩ = some (.int .i64 f.to) ∧ w'.cell? ⟨w.heap.size, 5, none⟩ = some (.int .i64 f.lastTie) ∧ w'.cell? ⟨w.heap.size, 6, none⟩ = some (.int .i64 f.lastTo) ∧ w'.cell? ⟨w.heap.size, 7, none⟩ = some (.int .i64 f.first) ∧ w'.cell? ⟨w.heap.size, 8, none⟩ = some (.int .i64 f.next) ∧ w'.cell? ⟨w.heap.size, 9, none⟩ = some (.bool f.doubles) ∧ w'.cell? ⟨w.heap.size + 1, 0, none⟩ = some (.int .i64 p.A) ∧ w'.cell? ⟨w.heap.size + 1, 1, none⟩ = some (.int .i64 p.B) ∧ Below w.heap.size w w' ∧ w.heap.size < w'.heap.size ∧ w.heap.size + 1 < w'.heap.size ∧ w'.cell? ⟨w1.heap.size, 0, none⟩ = some (.int .i64 (M.minus p k).A) ∧ w'.cell? ⟨w1.heap.size, 1, none⟩ = some (.int .i64 (M.minus p k).B) ∧ w1.heap.size < w'.heap.size)) w2 := (by (try dsimp only); (exact kp)); (try dsimp only at hSn); (try clear hS); have hS := hSn; clear hSn hc hf)
          | (go_at_call 67; refine (gamesArise_any f (M.minus p k) _ HM.out).mono ?_; rintro e w3 ⟨rfl, hb⟩; obtain ⟨hc, hf⟩ := bcell hb; have hz := hb.size; (try simp at hz); have hSn : ((fun w' => w'.cell? ⟨w.heap.size, 0, none⟩ = some (.int .i64 f.sets) ∧ w'.cell? ⟨w.heap.size, 1, none⟩ = some (.int .i64 f.games) ∧ w'.cell? ⟨w.heap.size, 2, none⟩ = some (.bool f.noAd) ∧ w'.cell? ⟨w.heap.size, 3, none⟩ = some (.int .i64 f.tie) ∧ w'.cell? ⟨w.heap.size, 4, none⟩ = some (.int .i64 f.to) ∧ w'.cell? ⟨w.heap.size, 5, none⟩ = some (.int .i64 f.lastTie) ∧ w'.cell? ⟨w.heap.size, 6, none⟩ = some (.int .i64 f.lastTo) ∧ w'.cell? ⟨w.heap.size, 7, none⟩ = some (.int .i64 f.first) ∧ w'.cell? ⟨w.heap.size, 8, none⟩ = some (.int .i64 f.next) ∧ w'.cell? ⟨w.heap.size, 9, none⟩ = some (.bool f.doubles) ∧ w'.cell? ⟨w.heap.size + 1, 0, none⟩ = some (.int .i64 p.A) ∧ w'.cell? ⟨w.heap.size + 1, 1, none⟩ = some (.int .i64 p.B) ∧ Below w.heap.size w w' ∧ w.heap.size < w'.heap.size ∧ w.heap.size + 1 < w'.heap.size ∧ w'.cell? ⟨w1.heap.size, 0, none⟩ = some (.int .i64 (M.minus p k).A) ∧ w'.cell? ⟨w1.heap.size, 1, none⟩ = some (.int .i64 (M.minus p k).B) ∧ w1.heap.size < w'.heap.size)) w3 := (by (try dsimp only); (exact kp)); (try dsimp only at hSn); (try clear hS); have hS := hSn; clear hSn hc hf)
          | (go_at_call 74; refine (endsSet_any f (M.minus p k) _ _ HM.out HM3.out).mono ?_; rintro e w4 ⟨rfl, hb⟩; obtain ⟨hc, hf⟩ := bcell hb; have hz := hb.size; (try simp at hz); have hSn : ((fun w' => w'.cell? ⟨w.heap.size, 0, none⟩ = some (.int .i64 f.sets) ∧ w'.cell? ⟨w.heap.size, 1, none⟩ = some (.int .i64 f.games) ∧ w'.cell? ⟨w.heap.size, 2, none⟩ = some (.bool f.noAd) ∧ w'.cell? ⟨w.heap.size, 3, none⟩ = some (.int .i64 f.tie) ∧ w'.cell? ⟨w.heap.size, 4, none⟩ = some (.int .i64 f.to) ∧ w'.cell? ⟨w.heap.size, 5, none⟩ = some (.int .i64 f.lastTie) ∧ w'.cell? ⟨w.heap.size, 6, none⟩ = some (.int .i64 f.lastTo) ∧ w'.cell? ⟨w.heap.size, 7, none⟩ = some (.int .i64 f.first) ∧ w'.cell? ⟨w.heap.size, 8, none⟩ = some (.int .i64 f.next) ∧ w'.cell? ⟨w.heap.size, 9, none⟩ = some (.bool f.doubles) ∧ w'.cell? ⟨w.heap.size + 1, 0, none⟩ = some (.int .i64 p.A) ∧ w'.cell? ⟨w.heap.size + 1, 1, none⟩ = some (.int .i64 p.B) ∧ Below w.heap.size w w' ∧ w.heap.size < w'.heap.size ∧ w.heap.size + 1 < w'.heap.size ∧ w'.cell? ⟨w1.heap.size, 0, none⟩ = some (.int .i64 (M.minus p k).A) ∧ w'.cell? ⟨w1.heap.size, 1, none⟩ = some (.int .i64 (M.minus p k).B) ∧ w1.heap.size < w'.heap.size)) w4 := (by (try dsimp only); (exact kp)); (try dsimp only at hSn); (try clear hS); have hS := hSn; clear hSn hc hf))
        go_ret
        exact ⟨by rw [HO.out]; rfl, by (go_split_ands; (exact kb))⟩
    · have hk2 : k = 2 := by omega
      have ho := M.setWinner_none (s := f) (g := p) (fun j hj => hno.out j (by omega))
      have HO := hide ho
      clear ho
      subst hk2
      go_wp2
      go_ret
      exact ⟨by rw [HO.out]; rfl, by (go_split_ands; (exact kb))⟩

end Go.Proofs.Ytmhaapghiecfcaa

namespace Go.Proofs.Ytmhaapghiecfcaa
open Go.RowKit
attribute [local go_sem ↓] Go.wp_at_zero Go.wp_at_succ

theorem all_take {ps : List M.Pr} {k : Nat} {p : M.Pr} (h : (ps.take k).all M.fine = true) (hk : ps[k]? = some p) (hp : M.fine p = true) : (ps.take (k + 1)).all M.fine = true := by
  rw [List.take_add_one, hk]
  simp only [Option.toList, List.all_append, h, List.all_cons, hp, List.all_nil, Bool.and_self]
theorem all_no {ps : List M.Pr} {k : Nat} {p : M.Pr} (hk : ps[k]? = some p) (hp : M.fine p = false) : ps.all M.fine = false := by
  rw [List.all_eq_false]
  exact ⟨p, List.mem_of_getElem? hk, by simp [hp]⟩

set_option maxHeartbeats 3200000 in
theorem numbered_any (A : Option Addr) (n c : Nat) (ps : List M.Pr) (g p : M.Pr) (w : World) (hn : ps.length = n) (hr : RdP w w.heap.size A ps) (hm : n ≤ 1000000) :
    Calls Try.prog 41 #[.agg #[.slice A n c, .int .i64 g.A, .int .i64 g.B, .int .i64 p.A, .int .i64 p.B]] w fun e w' => e = .returned (.bool (M.numbered ps g p)) ∧ Below w.heap.size w w' := by
  have HN := hide hn
  have HR := hide hr
  clear hn hr
  by_cases h5 : (5 : Int) < (n : Int)
  · have ho : M.numbered ps g p = false := by unfold M.numbered; rw [HN.out, decide_eq_false (by omega)]; rfl
    rw [ho]; clear ho
    go_enter Try.func41, Try.ntmps41
    go_wp2
    go_ret
    exact ⟨rfl, by (exact kb)⟩
  · go_enter Try.func41, Try.ntmps41
    go_wp2
    go_loopw [13] (fun i wr => ∃ k : Nat, k ≤ n ∧ i = .int .i64 k ∧ Hid ((ps.take k).all M.fine = true) ∧ wr.cell? ⟨w.heap.size, 1, none⟩ = some (.int .i64 g.A) ∧ wr.cell? ⟨w.heap.size, 2, none⟩ = some (.int .i64 g.B) ∧ wr.cell? ⟨w.heap.size, 3, none⟩ = some (.int .i64 p.A) ∧ wr.cell? ⟨w.heap.size, 4, none⟩ = some (.int .i64 p.B) ∧ Below w.heap.size w wr ∧ w.heap.size < wr.heap.size) (fun i _ => n - (intOf i).toNat)
    case atStart => exact ⟨0, by omega, rfl, hide (by simp), by (exact kp)⟩
    case round =>
      obtain ⟨k, hk, rfl, hno, hS0⟩ := hrel
      by_cases hlt : k < n
      · obtain ⟨q, hq⟩ : ∃ q, ps[k]? = some q := ⟨_, List.getElem?_eq_getElem (by have := HN.out; omega)⟩
        obtain ⟨b, o, hA, hbB, c0, c1⟩ := (HR.out.below (by obtain ⟨_, _, _, _, h, _⟩ := hS0; exact h)) k q hq
        subst hA
        have HQ := hide hq
        clear hq
        cases hf : M.fine q
        · have ho : M.numbered ps g p = false := by unfold M.numbered; rw [all_no HQ.out hf]; simp
          have HO := hide ho
          clear ho
          go_wp2_with (first | (go_at_call 66; refine (fine_any q _).mono ?_; rintro e w' ⟨rfl, hb⟩; obtain ⟨hc, hf⟩ := bcell hb; have hz := hb.size; (try simp at hz); have hSn : ((fun w' => wr.heap.size < w'.heap.size ∧ Below w.heap.size w w')) w' := (by (try dsimp only); (exact kp)); (try dsimp only at hSn); (try clear hS); have hS := hSn; clear hSn hc hf))
          go_ret
          exact ⟨by rw [HO.out]; rfl, by (go_split_ands; (exact kb))⟩
        · have HT := hide (all_take hno.out HQ.out hf)
          go_wp2_with (first | (go_at_call 66; refine (fine_any q _).mono ?_; rintro e w' ⟨rfl, hb⟩; obtain ⟨hc, hf⟩ := bcell hb; have hz := hb.size; (try simp at hz); have hSn : ((fun w' => w'.cell? ⟨w.heap.size, 1, none⟩ = some (.int .i64 g.A) ∧ w'.cell? ⟨w.heap.size, 2, none⟩ = some (.int .i64 g.B) ∧ w'.cell? ⟨w.heap.size, 3, none⟩ = some (.int .i64 p.A) ∧ w'.cell? ⟨w.heap.size, 4, none⟩ = some (.int .i64 p.B) ∧ wr.heap.size < w'.heap.size ∧ Below w.heap.size w w' ∧ w.heap.size < w'.heap.size)) w' := (by (try dsimp only); (exact kp)); (try dsimp only at hSn); (try clear hS); have hS := hSn; clear hSn hc hf))
          go_roundw
          case rel => exact ⟨k + 1, by omega, by go_num, HT, by (exact kp)⟩
          case measure => simp [intOf]; omega
      · have hkn : k = n := by omega
        have hall : ps.all M.fine = true := by
          have := hno.out
          rwa [List.take_of_length_le (by have := HN.out; omega)] at this
        cases hg : M.fine g
        · have ho : M.numbered ps g p = false := by unfold M.numbered; rw [hg]; simp
          have HO := hide ho
          clear ho hall
          subst hkn
          go_wp2_with (first | (go_at_call 66; refine (fine_any g _).mono ?_; rintro e w' ⟨rfl, hb⟩; obtain ⟨hc, hf⟩ := bcell hb; have hz := hb.size; (try simp at hz); have hSn : ((fun w' => Below w.heap.size w w')) w' := (by (try dsimp only); (exact kp)); (try dsimp only at hSn); (try clear hS); have hS := hSn; clear hSn hc hf))
          go_ret
          exact ⟨by rw [HO.out]; rfl, by (go_split_ands; (exact kb))⟩
        · have ho : M.numbered ps g p = M.fine p := by unfold M.numbered; rw [hg, hall, decide_eq_true (by have := HN.out; omega)]; simp
          have HO := hide ho
          clear ho hall
          subst hkn
          go_wp2_with (first
            | (go_at_call_of 66 (Value.agg #[Value.int .i64 g.A, Value.int .i64 g.B]); refine (fine_any g _).mono ?_; rintro e w' ⟨rfl, hb⟩; obtain ⟨hc, hf⟩ := bcell hb; have hz := hb.size; (try simp at hz); have hSn : ((fun w' => w'.cell? ⟨w.heap.size, 3, none⟩ = some (.int .i64 p.A) ∧ w'.cell? ⟨w.heap.size, 4, none⟩ = some (.int .i64 p.B) ∧ Below w.heap.size w w' ∧ w.heap.size < w'.heap.size)) w' := (by (try dsimp only); (exact kp)); (try dsimp only at hSn); (try clear hS); have hS := hSn; clear hSn hc hf)
            | (go_at_call_of 66 (Value.agg #[Value.int .i64 p.A, Value.int .i64 p.B]); refine (fine_any p _).mono ?_; rintro e w' ⟨rfl, hb⟩; obtain ⟨hc, hf⟩ := bcell hb; have hz := hb.size; (try simp at hz); have hSn : ((fun w' => Below w.heap.size w w')) w' := (by (try dsimp only); (exact kp)); (try dsimp only at hSn); (try clear hS); have hS := hSn; clear hSn hc hf))
          go_ret
          exact ⟨by rw [HO.out]; rfl, by (go_split_ands; (exact kb))⟩

end Go.Proofs.Ytmhaapghiecfcaa
