/-
  OWN TEXT: Plain3, InfoI.
-/
import Derived.Test.YthcjfoaejomfaaaRows
import Derived.Test.YthcjfoaejomfaaaB00
namespace Go.Proofs.Ythcjfoaejomfaaa

/-- The values of the used ones among the first k slots. -/
def recs (U : Nat → Bool) (V : Nat → Int) : Nat → List Int
  | 0 => []
  | k + 1 => if U k then recs U V k ++ [V k] else recs U V k
theorem recs_yes {U : Nat → Bool} {V : Nat → Int} {k : Nat} (h : U k = true) : recs U V (k + 1) = recs U V k ++ [V k] := by rw [recs, if_pos h]
theorem recs_no {U : Nat → Bool} {V : Nat → Int} {k : Nat} (h : U k = false) : recs U V (k + 1) = recs U V k := by rw [recs, h]; rfl
theorem recs_le (U : Nat → Bool) (V : Nat → Int) (k : Nat) : (recs U V k).length ≤ k := by
  induction k with
  | zero => exact Nat.le_refl _
  | succ k ih =>
    cases h : U k with
    | true => rw [recs_yes h]; simp; exact ih
    | false => rw [recs_no h]; omega
/-- Place j of a list of numbers. -/
def getI (l : List Int) (j : Nat) : Int := l.getD j 0
/-- The cells of a list of numbers. -/
def cellsI (l : List Int) : List Value := intList (getI l) l.length
theorem cellsI_snoc (l : List Int) (x : Int) : cellsI (l ++ [x]) = cellsI l ++ [.int .i64 x] := by
  unfold cellsI
  rw [List.length_append, List.length_singleton, intList_succ]
  congr 1
  · unfold intList
    refine List.map_congr_left fun j hj => ?_
    have hj' : j < l.length := by simpa using hj
    simp [getI, List.getElem?_append_left hj']
  · simp [getI]
theorem cellsI_nil : cellsI [] = [] := rfl

end Go.Proofs.Ythcjfoaejomfaaa

namespace Go.Proofs.Ythcjfoaejomfaaa
open Go.RowKit

theorem Try.infoInt : (Try.prog.info? 3).map (fun i => (i.zero, i.size, i.bytes)) = some (some (.int .i64 0), 1, 8) := by kernel_rfl

end Go.Proofs.Ythcjfoaejomfaaa
