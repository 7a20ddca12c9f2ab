/-
  The plain functions, more: play, with its errors.
-/
import Derived.Test.YtlhbimifhclojaaOk
import Derived.Test.YtlhbimifhclojaaModel9
import Derived.Test.YtlhbimifhclojaaModel
namespace Go.Proofs.Ytlhbimifhclojaa
open Go.RowKit
namespace M

def noF : Fm := { sets := 0, games := 0, noAd := false, tie := 0, to := 0, lastTie := 0, lastTo := 0, first := 0, next := 0, doubles := false }
def noM : Mt := { f := noF, sets := [], games := zero, pts := zero, server := 0, ends := 0, balls := 0, winner := 0, opens := 0, won := zero, fresh := false, log := [] }
def playE (f : Fm) (first : Int) (ps : List Int) : Int :=
  if validB f then (if within first 0 1 then (if 600 < ps.length then 2 else match playF (start f first) ps with
    | none => 11
    | some _ => 0) else 1) else 10
def playM (f : Fm) (first : Int) (ps : List Int) : Mt :=
  if validB f then (if within first 0 1 then (if 600 < ps.length then noM else (playF (start f first) ps).getD noM) else noM) else noM
theorem playF_nil (m : Mt) : playF m [] = some m := rfl
theorem playF_cons (m : Mt) (p : Int) (r : List Int) : playF m (p :: r) = if (p ≠ 0 ∧ p ≠ 1) ∨ m.winner ≠ -1 then none else playF (point m p) r := rfl
theorem start_ok {f : Fm} {first : Int} (hv : Valid f) (h : 0 ≤ first ∧ first ≤ 1) : Ok (start f first) 0 :=
  ⟨hv, by simp [start], by simp [start], h, by simp [start], by simp [start], by simp [start, zero], by simp [start, zero], by simp [start, zero]⟩

end M

end Go.Proofs.Ytlhbimifhclojaa
