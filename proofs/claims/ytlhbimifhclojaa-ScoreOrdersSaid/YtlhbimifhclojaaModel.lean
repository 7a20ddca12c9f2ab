/-
  The plain functions: what package score computes, on integers, pairs, formats and boards; slices of pairs and of numbers in memory. Nothing of the program is imported here.
-/
import Derived.Below
namespace Go.Proofs.Ytlhbimifhclojaa
namespace M

structure Pr where
  A : Int
  B : Int
deriving DecidableEq

structure Fm where
  sets : Int
  games : Int
  noAd : Bool
  tie : Int
  to : Int
  lastTie : Int
  lastTo : Int
  first : Int
  next : Int
  doubles : Bool
deriving DecidableEq

/-- `p` is within the numbers that can be reckoned with. -/
structure Small (p : Pr) : Prop where
  a0 : -1000000 ≤ p.A
  a1 : p.A ≤ 1000000
  b0 : -1000000 ≤ p.B
  b1 : p.B ≤ 1000000

structure Valid (f : Fm) : Prop where
  s0 : 1 ≤ f.sets
  s1 : f.sets ≤ 3
  g0 : 1 ≤ f.games
  g1 : f.games ≤ 8
  t0 : -1 ≤ f.tie
  t1 : f.tie ≤ f.games
  tt : f.tie = -1 ∨ f.tie = 0 ∨ f.tie = f.games - 1 ∨ f.tie = f.games
  l0 : -1 ≤ f.lastTie
  l1 : f.lastTie ≤ f.games
  lt : f.lastTie = -1 ∨ f.lastTie = 0 ∨ f.lastTie = f.games - 1 ∨ f.lastTie = f.games
  o0 : 1 ≤ f.to
  o1 : f.to ≤ 15
  p0 : 1 ≤ f.lastTo
  p1 : f.lastTo ≤ 15
  f0 : 0 ≤ f.first
  f1 : f.first ≤ 20
  n0 : 0 ≤ f.next
  n1 : f.next ≤ 20

def within (n lo hi : Int) : Bool := decide (lo ≤ n) && decide (n ≤ hi)
def tieOk (g n : Int) : Bool := n == -1 || n == 0 || n == g - 1 || n == g
def validB (f : Fm) : Bool := within f.sets 1 3 && within f.games 1 8 && tieOk f.games f.tie && tieOk f.games f.lastTie && within f.to 1 15 && within f.lastTo 1 15 && within f.first 0 20 && within f.next 0 20

theorem validB_iff (f : Fm) : validB f = true ↔ Valid f := by
  simp only [validB, within, tieOk, Bool.and_eq_true, Bool.or_eq_true, decide_eq_true_eq, beq_iff_eq]
  constructor
  · rintro ⟨⟨⟨⟨⟨⟨⟨⟨a, b⟩, c, d⟩, e⟩, g⟩, h, i⟩, j, k⟩, l, m⟩, n, o⟩
    exact ⟨a, b, c, d, by omega, by omega, by omega, by omega, by omega, by omega, h, i, j, k, l, m, n, o⟩
  · rintro ⟨a, b, c, d, e0, e1, e, g0, g1, g, h, i, j, k, l, m, n, o⟩
    exact ⟨⟨⟨⟨⟨⟨⟨⟨a, b⟩, c, d⟩, by omega⟩, by omega⟩, h, i⟩, j, k⟩, l, m⟩, n, o⟩

def of (p : Pr) (s : Int) : Int := if s = 0 then p.A else p.B
def plus (p : Pr) (s : Int) : Pr := if s = 0 then ⟨p.A + 1, p.B⟩ else ⟨p.A, p.B + 1⟩
def minus (p : Pr) (s : Int) : Pr := if s = 0 then ⟨p.A - 1, p.B⟩ else ⟨p.A, p.B - 1⟩
def near (p : Pr) : Bool := decide (-2 < p.A - p.B) && decide (p.A - p.B < 2)
def winner (f : Fm) (won : Pr) : Int := if won.A = f.sets then 0 else if won.B = f.sets then 1 else -1
def lastB (f : Fm) (won : Pr) : Bool := won.A == f.sets - 1 && won.B == f.sets - 1
def ofSet (f : Fm) (won : Pr) : Fm := if lastB f won then { f with tie := f.lastTie, to := f.lastTo } else f
def isTie (s : Fm) (g : Pr) : Bool := g.A == s.tie && g.B == s.tie
def aimTo (s : Fm) (tie : Bool) : Int := if tie then s.to else 4
def aimLead (s : Fm) (tie : Bool) : Int := if tie then 2 else if s.noAd then 1 else 2
def endsGame (s : Fm) (tie : Bool) (p : Pr) (side : Int) : Bool := decide (aimTo s tie ≤ of p side) && decide (aimLead s tie ≤ of p side - of p (1 - side))
def endsSet (s : Fm) (g : Pr) (side : Int) : Bool := isTie s g || (decide (s.games ≤ of (plus g side) side) && !near (plus g side))
def pointsOfGame (s : Fm) (tie : Bool) (p : Pr) (side : Int) : Int := max (aimTo s tie) (of p (1 - side) + aimLead s tie) - of p side

theorem Small.of_lo {p : Pr} (h : Small p) (s : Int) : -1000000 ≤ of p s := by unfold M.of; split <;> first | exact h.a0 | exact h.b0
theorem Small.of_hi {p : Pr} (h : Small p) (s : Int) : of p s ≤ 1000000 := by unfold M.of; split <;> first | exact h.a1 | exact h.b1
theorem aimTo_lo {s : Fm} (h : Valid s) (t : Bool) : 1 ≤ aimTo s t := by unfold aimTo; split <;> first | exact h.o0 | omega
theorem aimTo_hi {s : Fm} (h : Valid s) (t : Bool) : aimTo s t ≤ 15 := by unfold aimTo; split <;> first | exact h.o1 | omega
theorem aimLead_lo (s : Fm) (t : Bool) : 1 ≤ aimLead s t := by unfold aimLead; repeat' split
                                                               all_goals omega
theorem aimLead_hi (s : Fm) (t : Bool) : aimLead s t ≤ 2 := by unfold aimLead; repeat' split
                                                               all_goals omega
theorem Small.plus {p : Pr} (h : Small p) (hs : p.A ≤ 999999 ∧ p.B ≤ 999999) (s : Int) : Small (plus p s) := by
  obtain ⟨a, b, c, d⟩ := h
  unfold M.plus; split <;> exact ⟨by dsimp; omega, by dsimp; omega, by dsimp; omega, by dsimp; omega⟩
theorem Valid.ofSet {f : Fm} (h : Valid f) (won : Pr) : Valid (ofSet f won) := by
  unfold M.ofSet
  split
  · obtain ⟨a, b, c, d, e0, e1, e, g0, g1, g, h, i, j, k, l, m, n, o⟩ := h
    exact ⟨a, b, c, d, g0, g1, g, g0, g1, g, j, k, j, k, l, m, n, o⟩
  · exact h

end M
end Go.Proofs.Ytlhbimifhclojaa

namespace Go.Proofs.Ytlhbimifhclojaa
namespace M

def hi (p : Pr) : Int := if p.A < p.B then p.B else p.A
def lo (p : Pr) : Int := if p.A < p.B then p.A else p.B
def gamesArise (s : Fm) (g : Pr) : Bool := !(decide (0 ≤ s.tie) && decide (s.tie < hi g)) && (decide (hi g < s.games) || near g)
def pointsArise (s : Fm) (tie : Bool) (p : Pr) : Bool := decide (hi p < aimTo s tie) || (aimLead s tie == 2 && near p)
def fine (p : Pr) : Bool := decide (0 ≤ p.A) && decide (p.A ≤ 40) && decide (0 ≤ p.B) && decide (p.B ≤ 40)

end M
end Go.Proofs.Ytlhbimifhclojaa

namespace Go.Proofs.Ytlhbimifhclojaa
namespace M

def endsBy (s : Fm) (g : Pr) (side : Int) : Bool := decide (0 ≤ of (minus g side) side) && (gamesArise s (minus g side) && endsSet s (minus g side) side)
def setWinner (s : Fm) (g : Pr) : Int := if endsBy s g 0 then 0 else if endsBy s g 1 then 1 else -1

theorem setWinner_of {s : Fm} {g : Pr} {k : Nat} (hk : k < 2) (hno : ∀ j : Nat, j < k → endsBy s g j = false) (h : endsBy s g k = true) : setWinner s g = k := by
  unfold setWinner
  match k, hk with
  | 0, _ => rw [if_pos (show endsBy s g 0 = true from h)]; rfl
  | 1, _ =>
    rw [if_neg (by have := hno 0 (by omega); simpa using this), if_pos (show endsBy s g 1 = true from h)]; rfl
theorem setWinner_none {s : Fm} {g : Pr} (hno : ∀ j : Nat, j < 2 → endsBy s g j = false) : setWinner s g = -1 := by
  unfold setWinner
  rw [if_neg (by have := hno 0 (by omega); simpa using this), if_neg (by have := hno 1 (by omega); simpa using this)]

theorem Small.minus {p : Pr} (h : Small p) (hs : -999999 ≤ p.A ∧ -999999 ≤ p.B) (s : Int) : Small (minus p s) := by
  obtain ⟨a, b, c, d⟩ := h
  unfold M.minus; split <;> exact ⟨by dsimp; omega, by dsimp; omega, by dsimp; omega, by dsimp; omega⟩
theorem minus_le {p : Pr} {b : Int} (hs : p.A ≤ b ∧ p.B ≤ b) (s : Int) : (minus p s).A ≤ b ∧ (minus p s).B ≤ b := by
  unfold M.minus; split <;> exact ⟨by dsimp; omega, by dsimp; omega⟩

end M
end Go.Proofs.Ytlhbimifhclojaa

namespace Go.Proofs.Ytlhbimifhclojaa
theorem hide {p : Prop} (h : p) : Go.RowKit.Hid p := h
end Go.Proofs.Ytlhbimifhclojaa

namespace Go.Proofs.Ytlhbimifhclojaa
open Go.RowKit
namespace M

def numbered (ps : List Pr) (g p : Pr) : Bool := decide (ps.length ≤ 5) && (ps.all fine && (fine g && fine p))

/-- the sets that the sides have won behind some sets, if these can be played one after the other -/
def wonBy (f : Fm) : Pr → List Pr → Option Pr
  | won, [] => some won
  | won, g :: r => if winner f won = -1 ∧ setWinner (ofSet f won) g ≠ -1 then wonBy f (plus won (setWinner (ofSet f won) g)) r else none
def rest (f : Fm) (won g p : Pr) : Bool :=
  if winner f won ≠ -1 then (g.A == 0 && g.B == 0) && (p.A == 0 && p.B == 0)
  else gamesArise (ofSet f won) g && pointsArise (ofSet f won) (isTie (ofSet f won) g) p

end M

/-- The slice at A reads as the pairs ps, below block B. -/
def RdP (w : World) (B : Nat) (A : Option Addr) (ps : List M.Pr) : Prop :=
  ∀ (k : Nat) (p : M.Pr), ps[k]? = some p → ∃ b o : Nat, A = some ⟨b, o, none⟩ ∧ b < B ∧ w.cell? ⟨b, o + k * 2, none⟩ = some (.int .i64 p.A) ∧ w.cell? ⟨b, o + k * 2 + 1, none⟩ = some (.int .i64 p.B)
theorem RdP.below {w w' : World} {B : Nat} {A : Option Addr} {ps : List M.Pr} (h : RdP w B A ps) (hb : Below B w w') : RdP w' B A ps := fun k p hk => by
  obtain ⟨b, o, e, hB, c0, c1⟩ := h k p hk
  exact ⟨b, o, e, hB, (hb.cell (p := ⟨b, o + k * 2, none⟩) hB).trans c0, (hb.cell (p := ⟨b, o + k * 2 + 1, none⟩) hB).trans c1⟩
theorem RdP.mono {w : World} {B B' : Nat} {A : Option Addr} {ps : List M.Pr} (h : RdP w B A ps) (hB : B ≤ B') : RdP w B' A ps := fun k p hk => by
  obtain ⟨b, o, e, hB, c0, c1⟩ := h k p hk
  exact ⟨b, o, e, by omega, c0, c1⟩
theorem RdP.nil (w : World) (B : Nat) (A : Option Addr) : RdP w B A [] := fun k p h => by simp at h

end Go.Proofs.Ytlhbimifhclojaa

namespace Go.Proofs.Ytlhbimifhclojaa
open Go.RowKit
namespace M

def zero : Pr := ⟨0, 0⟩
def pts (s : Fm) (side : Int) (g : Pr) : Int := pointsOfGame s (isTie s g) zero side
def runF (s : Fm) (side : Int) : Nat → Pr → Int × Int
  | 0, g => (1, pts s side g)
  | m + 1, g => if endsSet s g side then (1, pts s side g) else (1 + (runF s side m (plus g side)).1, pts s side g + (runF s side m (plus g side)).2)
def Enough (s : Fm) (side : Int) (m : Nat) (g : Pr) : Prop := s.games ≤ of g side + m ∧ of g (1 - side) + 2 ≤ of g side + m
/-- how many games may come at most -/
def fuel (s : Fm) (side : Int) (g : Pr) : Nat := (max s.games (of g (1 - side) + 2) - of g side).toNat
def run (s : Fm) (side : Int) (g : Pr) : Int × Int := runF s side (fuel s side g) g

theorem of_plus {g : Pr} {side : Int} (h : side = 0 ∨ side = 1) : of (plus g side) side = of g side + 1 ∧ of (plus g side) (1 - side) = of g (1 - side) := by
  rcases h with rfl | rfl <;> simp [of, plus]
theorem near_of {g : Pr} {side : Int} (h : side = 0 ∨ side = 1) : near g = (decide (-2 < of g side - of g (1 - side)) && decide (of g side - of g (1 - side) < 2)) := by
  rcases h with rfl | rfl
  · simp [of, near]
  · simp only [of, near, Int.sub_self, if_true]
    rw [if_neg (by omega), Bool.and_comm]
    congr 1 <;> (rw [decide_eq_decide]; omega)
theorem enough_fuel (s : Fm) (side : Int) (g : Pr) : Enough s side (fuel s side g) g := by
  unfold Enough fuel; constructor <;> omega
theorem Enough.zero {s : Fm} {side : Int} {g : Pr} (hs : side = 0 ∨ side = 1) (h : Enough s side 0 g) : endsSet s g side = true := by
  obtain ⟨h1, h2⟩ := h
  obtain ⟨p1, p2⟩ := of_plus (g := g) hs
  unfold endsSet
  rw [near_of hs, p1, p2]
  simp only [Bool.or_eq_true, Bool.and_eq_true, decide_eq_true_eq, Bool.not_eq_true', Bool.and_eq_false_iff, decide_eq_false_iff_not]
  right; constructor
  · omega
  · right; omega
theorem Enough.next {s : Fm} {side : Int} {g : Pr} {m : Nat} (hs : side = 0 ∨ side = 1) (h : Enough s side (m + 1) g) : Enough s side m (plus g side) := by
  obtain ⟨h1, h2⟩ := h
  obtain ⟨p1, p2⟩ := of_plus (g := g) hs
  unfold Enough
  rw [p1, p2]
  constructor <;> omega
theorem runF_end {s : Fm} {side : Int} {g : Pr} {m : Nat} (h : endsSet s g side = true) : runF s side m g = (1, pts s side g) := by
  cases m with
  | zero => rfl
  | succ m => unfold runF; rw [if_pos h]
theorem runF_on {s : Fm} {side : Int} {g : Pr} {m : Nat} (h : endsSet s g side = false) : runF s side (m + 1) g = (1 + (runF s side m (plus g side)).1, pts s side g + (runF s side m (plus g side)).2) := by
  conv => lhs; unfold runF
  rw [if_neg (by simp [h])]
theorem pts_bd {s : Fm} (hv : Valid s) (side : Int) (g : Pr) : 1 ≤ pts s side g ∧ pts s side g ≤ 15 := by
  have a := aimTo_lo hv (isTie s g)
  have b := aimTo_hi hv (isTie s g)
  have c := aimLead_lo s (isTie s g)
  have d := aimLead_hi s (isTie s g)
  unfold pts pointsOfGame
  have e : ∀ x, of M.zero x = 0 := fun x => by unfold of M.zero; split <;> rfl
  rw [e, e]; omega
theorem runF_bd {s : Fm} (hv : Valid s) (side : Int) : ∀ (m : Nat) (g : Pr), 1 ≤ (runF s side m g).1 ∧ (runF s side m g).1 ≤ m + 1 ∧ 1 ≤ (runF s side m g).2 ∧ (runF s side m g).2 ≤ 15 * (m + 1)
  | 0, g => by have := pts_bd hv side g; unfold runF; dsimp; omega
  | m + 1, g => by
    have := pts_bd hv side g
    have h := runF_bd hv side m (plus g side)
    unfold runF; split <;> dsimp <;> omega

end M
end Go.Proofs.Ytlhbimifhclojaa

namespace Go.Proofs.Ytlhbimifhclojaa
open Go.RowKit
namespace M

def never : Int := 4611686018427387903
def mn (a b : Int) : Int := if b < a then b else a
def bestOf (cost : Nat → Int) : Nat → Int
  | 0 => never
  | k + 1 => mn (bestOf cost k) (cost k)
def lfg (f : Fm) (side : Int) : Nat → Pr → Pr → Int
  | 0, _, _ => 0
  | n + 1, won, g => if winner f won = side then 0 else if winner f won = 1 - side then never
    else bestOf (fun t => (run (ofSet f won) t g).2 + lfg f side n (plus won t) zero) 2

theorem bestOf_le (cost : Nat → Int) : ∀ k, bestOf cost k ≤ never
  | 0 => Int.le_refl _
  | k + 1 => by unfold bestOf mn; have := bestOf_le cost k; split <;> omega
theorem bestOf_ge {cost : Nat → Int} (h : ∀ k, 0 ≤ cost k) : ∀ k, 0 ≤ bestOf cost k
  | 0 => by unfold bestOf never; omega
  | k + 1 => by unfold bestOf mn; have := bestOf_ge h k; have := h k; split <;> omega
theorem lfg_le (f : Fm) (side : Int) : ∀ n won g, lfg f side n won g ≤ never
  | 0, _, _ => by unfold lfg never; omega
  | n + 1, won, g => by
    unfold lfg
    split
    · unfold never; omega
    · split
      · exact Int.le_refl _
      · exact bestOf_le _ _
theorem lfg_ge {f : Fm} (hv : Valid f) (side : Int) : ∀ n won g, 0 ≤ lfg f side n won g
  | 0, _, _ => by unfold lfg; omega
  | n + 1, won, g => by
    unfold lfg
    split
    · omega
    · split
      · unfold never; omega
      · refine bestOf_ge (fun k => ?_) 2
        have h1 := (runF_bd (hv.ofSet won) k (fuel (ofSet f won) k g) g).2.2.1
        have h2 := lfg_ge hv side n (plus won k) zero
        unfold run; omega
theorem fuel_le {s : Fm} (hv : Valid s) {side : Int} {g : Pr} (h0 : -1000 ≤ g.A ∧ -1000 ≤ g.B) (h2 : g.A ≤ 1000 ∧ g.B ≤ 1000) : fuel s side g ≤ 3000 := by
  have h := hv.g1
  have : ∀ x, -1000 ≤ of g x ∧ of g x ≤ 1000 := fun x => by unfold of; split <;> omega
  have a := this side
  have b := this (1 - side)
  unfold fuel; omega

end M
end Go.Proofs.Ytlhbimifhclojaa

namespace Go.Proofs.Ytlhbimifhclojaa
open Go.RowKit
namespace M

theorem setWinner_cases (s : Fm) (g : Pr) : setWinner s g = -1 ∨ setWinner s g = 0 ∨ setWinner s g = 1 := by
  unfold setWinner; split
  · exact .inr (.inl rfl)
  · split
    · exact .inr (.inr rfl)
    · exact .inl rfl
theorem wonBy_over {f : Fm} {won g : Pr} {r : List Pr} (h : winner f won ≠ -1) : wonBy f won (g :: r) = none := by
  unfold wonBy; rw [if_neg (fun x => h x.1)]
theorem wonBy_bad {f : Fm} {won g : Pr} {r : List Pr} (h : setWinner (ofSet f won) g = -1) : wonBy f won (g :: r) = none := by
  unfold wonBy; rw [if_neg (fun x => x.2 h)]
theorem wonBy_step {f : Fm} {won g : Pr} {r : List Pr} (h : winner f won = -1) (h2 : setWinner (ofSet f won) g ≠ -1) : wonBy f won (g :: r) = wonBy f (plus won (setWinner (ofSet f won) g)) r := by
  conv => lhs; unfold wonBy
  rw [if_pos ⟨h, h2⟩]
def standWon (f : Fm) (ps : List Pr) : Pr := (wonBy f zero ps).getD zero
def standB (f : Fm) (ps : List Pr) (g p : Pr) : Bool := match wonBy f zero ps with
  | none => false
  | some won => rest f won g p
def lfp (f : Fm) (side : Int) (n : Nat) (won g p : Pr) : Int :=
  bestOf (fun t => pointsOfGame (ofSet f won) (isTie (ofSet f won) g) p t + (if endsSet (ofSet f won) g t then lfg f side n (plus won t) zero else lfg f side n won (plus g t))) 2

end M
end Go.Proofs.Ytlhbimifhclojaa

namespace Go.Proofs.Ytlhbimifhclojaa
open Go.RowKit
namespace M

def swE (f : Fm) (ps : List Pr) (g p : Pr) : Int := if validB f then (if numbered ps g p then (if standB f ps g p then 0 else 12) else 12) else 10
def swWon (f : Fm) (ps : List Pr) (g p : Pr) : Pr := if validB f then (if numbered ps g p then (if standB f ps g p then standWon f ps else zero) else zero) else zero
def leastE (f : Fm) (ps : List Pr) (g p : Pr) (side : Int) : Int :=
  if swE f ps g p ≠ 0 then swE f ps g p else if within side 0 1 then (if winner f (swWon f ps g p) = side then 0 else if winner f (swWon f ps g p) = 1 - side then 3 else 0) else 1
def leastV (f : Fm) (ps : List Pr) (g p : Pr) (side : Int) : Int :=
  if swE f ps g p ≠ 0 then 0 else if within side 0 1 then (if winner f (swWon f ps g p) = side then 0 else if winner f (swWon f ps g p) = 1 - side then 0 else lfp f side 6 (swWon f ps g p) g p) else 0
def arisesE (f : Fm) (ps : List Pr) (g p : Pr) : Int := if validB f then (if numbered ps g p then 0 else 12) else 10
def arisesB (f : Fm) (ps : List Pr) (g p : Pr) : Bool := if validB f then (if numbered ps g p then standB f ps g p else false) else false

theorem wonBy_bd {f : Fm} : ∀ {ps : List Pr} {won r : Pr}, (0 ≤ won.A ∧ 0 ≤ won.B) ∧ won.A ≤ f.sets ∧ won.B ≤ f.sets → wonBy f won ps = some r → (0 ≤ r.A ∧ 0 ≤ r.B) ∧ r.A ≤ f.sets ∧ r.B ≤ f.sets
  | [], won, r, h, hw => by unfold wonBy at hw; injection hw with hw; rw [← hw]; exact h
  | g :: ps, won, r, h, hw => by
    unfold wonBy at hw
    split at hw
    · rename_i hc
      refine wonBy_bd (ps := ps) ?_ hw
      have h1 := hc.1
      have hne : won.A ≠ f.sets ∧ won.B ≠ f.sets := by
        unfold winner at h1
        by_cases e1 : won.A = f.sets
        · rw [if_pos e1] at h1; omega
        · by_cases e2 : won.B = f.sets
          · rw [if_neg e1, if_pos e2] at h1; omega
          · exact ⟨e1, e2⟩
      unfold plus; split <;> (dsimp; omega)
    · cases hw
theorem standWon_bd {f : Fm} (hv : Valid f) (ps : List Pr) : (0 ≤ (standWon f ps).A ∧ 0 ≤ (standWon f ps).B) ∧ (standWon f ps).A ≤ f.sets ∧ (standWon f ps).B ≤ f.sets := by
  have h := hv.s0
  unfold standWon
  cases hw : wonBy f zero ps with
  | none => exact ⟨by decide, by show (0 : Int) ≤ _; omega, by show (0 : Int) ≤ _; omega⟩
  | some r => exact wonBy_bd ⟨by decide, by show (0 : Int) ≤ _; omega, by show (0 : Int) ≤ _; omega⟩ hw
theorem winner_lt {f : Fm} {won : Pr} {s : Int} (hs : s = 0 ∨ s = 1) (hb : won.A ≤ f.sets ∧ won.B ≤ f.sets) (h0 : winner f won ≠ s) (h1 : winner f won ≠ 1 - s) : won.A < f.sets ∧ won.B < f.sets := by
  unfold winner at h0 h1
  by_cases e1 : won.A = f.sets
  · rw [if_pos e1] at h0 h1; omega
  · by_cases e2 : won.B = f.sets
    · rw [if_neg e1, if_pos e2] at h0 h1; omega
    · omega
theorem numbered_parts {ps : List Pr} {g p : Pr} (h : numbered ps g p = true) : ps.length ≤ 5 ∧ ps.all fine = true ∧ fine g = true ∧ fine p = true := by
  simpa [numbered, and_assoc] using h

end M
end Go.Proofs.Ytlhbimifhclojaa

namespace Go.Proofs.Ytlhbimifhclojaa
open Go.RowKit

/-- The slice at A reads as the numbers xs, below block B. -/
def RdI (w : World) (B : Nat) (A : Option Addr) (xs : List Int) : Prop :=
  ∀ (k : Nat) (x : Int), xs[k]? = some x → ∃ b o : Nat, A = some ⟨b, o, none⟩ ∧ b < B ∧ w.cell? ⟨b, o + k, none⟩ = some (.int .i64 x)
theorem RdI.below {w w' : World} {B : Nat} {A : Option Addr} {xs : List Int} (h : RdI w B A xs) (hb : Below B w w') : RdI w' B A xs := fun k p hk => by
  obtain ⟨b, o, e, hB, c0⟩ := h k p hk
  exact ⟨b, o, e, hB, (hb.cell (p := ⟨b, o + k, none⟩) hB).trans c0⟩
theorem RdI.mono {w : World} {B B' : Nat} {A : Option Addr} {xs : List Int} (h : RdI w B A xs) (hB : B ≤ B') : RdI w B' A xs := fun k p hk => by
  obtain ⟨b, o, e, hB, c0⟩ := h k p hk
  exact ⟨b, o, e, by omega, c0⟩
theorem RdI.nil (w : World) (B : Nat) (A : Option Addr) : RdI w B A [] := fun k p h => by simp at h

end Go.Proofs.Ytlhbimifhclojaa

