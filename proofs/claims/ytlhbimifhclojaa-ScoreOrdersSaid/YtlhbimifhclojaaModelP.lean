/-
  The plain functions: a match that is played.
-/
import Derived.Test.YtlhbimifhclojaaModel
namespace Go.Proofs.Ytlhbimifhclojaa
open Go.RowKit
namespace M

structure Gm where
  set : Int
  tie : Bool
  server : Int
  winner : Int
  pts : Pr
  fresh : Bool
deriving DecidableEq
structure Mt where
  f : Fm
  sets : List Pr
  games : Pr
  pts : Pr
  server : Int
  ends : Int
  balls : Int
  winner : Int
  opens : Int
  won : Pr
  fresh : Bool
  log : List Gm

def serverOf (opens : Int) (dbl : Bool) (game turn : Int) : Int :=
  if dbl && ((game + turn % 2) / 2 + turn / 2) % 2 == 1 then (opens + (game + turn % 2)) % 2 + 2 else (opens + (game + turn % 2)) % 2
def dueB (first next game : Int) : Bool := !(first == 0 || decide (game < first)) && (game == first || (decide (0 < next) && (game - first) % next == 0))
def tieAt (l : List Gm) (k : Nat) : Bool := (l[k]?.map (·.tie)).getD false
def changesB (m : Mt) : Bool :=
  (decide (2 ≤ m.log.length) && tieAt m.log (m.log.length - 2) && dueB m.f.first m.f.next ((m.log.length : Int) - 2)) ||
  (dueB m.f.first m.f.next m.log.length && !isTie (ofSet m.f m.won) m.games)
def begin (m : Mt) : Mt := { m with server := serverOf m.opens m.f.doubles m.log.length 0, fresh := changesB m, balls := if changesB m then m.balls + 1 else m.balls }
def gameOf (m : Mt) (side : Int) : Gm := { set := m.sets.length, tie := isTie (ofSet m.f m.won) m.games, server := serverOf m.opens m.f.doubles m.log.length 0, winner := side, pts := m.pts, fresh := m.fresh }
/-- behind the set's end, if it ends; the winner not yet said -/
def endSet (m : Mt) (side : Int) : Mt :=
  if endsSet (ofSet m.f m.won) m.games side then { m with log := m.log ++ [gameOf m side], sets := m.sets ++ [plus m.games side], games := zero, pts := zero, won := plus m.won side }
  else { m with log := m.log ++ [gameOf m side], games := plus m.games side, pts := zero }
def endGame (m : Mt) (side : Int) : Mt :=
  let n := { endSet m side with winner := M.winner m.f (endSet m side).won }
  if n.winner ≠ -1 then { n with server := -1 }
  else begin (if ((plus m.games side).A + (plus m.games side).B) % 2 = 1 then { n with ends := n.ends + 1 } else n)
def point (m : Mt) (side : Int) : Mt :=
  let s := ofSet m.f m.won
  let n := { m with pts := plus m.pts side }
  if endsGame s (isTie s m.games) n.pts side then endGame n side
  else if isTie s m.games then
    { n with ends := if (n.pts.A + n.pts.B) % 6 = 0 then n.ends + 1 else n.ends, server := serverOf m.opens m.f.doubles m.log.length ((n.pts.A + n.pts.B + 1) / 2) }
  else n
def start (f : Fm) (first : Int) : Mt := { f := f, sets := [], games := zero, pts := zero, server := first, ends := 0, balls := 0, winner := -1, opens := first, won := zero, fresh := false, log := [] }
def playF : Mt → List Int → Option Mt
  | m, [] => some m
  | m, p :: r => if (p ≠ 0 ∧ p ≠ 1) ∨ m.winner ≠ -1 then none else playF (point m p) r

end M
end Go.Proofs.Ytlhbimifhclojaa
