/-
  OWN TEXT: seats in plain words; no theorem of the program.
-/
import Derived.Test.YtclcjnbjpelcjajKitSeat
import Derived.Test.YtclcjnbjpelcjajPlainH2
namespace Go.Proofs.Ytclcjnbjpelcjaj
open Go.RowKit

/-- Who has the seats j. -/
def whoT (S : Nat → Seat) (j : Nat) : Int := (S j).who
/-- How many sit, the first i together. -/
def sits (S : Nat → Seat) : Nat → Int
  | 0 => 0
  | i + 1 => sits S i + (S i).many
/-- Seats are good for most. -/
def SeatsOk (most : Int) (n : Nat) (S : Nat → Seat) : Prop :=
  In most 0 500 ∧ n ≤ 60 ∧ (∀ i, i < n → In (S i).who 1 9999 ∧ ¬ Has (whoT S) i (S i).who ∧ In (S i).many 1 20) ∧ sits S n ≤ most
theorem sits_bounds (S : Nat → Seat) (i : Nat) (h : ∀ j, j < i → In (S j).many 1 20) : 0 ≤ sits S i ∧ sits S i ≤ 20 * i := by
  induction i with
  | zero => exact ⟨Int.le_refl _, by unfold sits; omega⟩
  | succ i ih =>
    have := ih (fun j hj => h j (by omega))
    have hi := h i (by omega)
    unfold In at hi
    unfold sits
    omega
/-- The seats with these behind them. -/
def seatsWith (S : Nat → Seat) (n : Nat) (x many : Int) : Nat → Seat := seatCat S n (fun _ => ⟨x, many⟩)
/-- TakeSeats takes them. -/
def SeatsTake (most : Int) (n : Nat) (S : Nat → Seat) (x many : Int) : Prop := SeatsOk most n S ∧ SeatsOk most (n + 1) (seatsWith S n x many)
open Classical in
noncomputable def takeSOk (most : Int) (n : Nat) (S : Nat → Seat) (x many : Int) : Bool := decide (SeatsTake most n S x many)
noncomputable def takeSLen (most : Int) (n : Nat) (S : Nat → Seat) (x many : Int) : Nat := if takeSOk most n S x many then n + 1 else 0
theorem takeSOk_yes {most : Int} {n : Nat} {S : Nat → Seat} {x many : Int} (h : SeatsTake most n S x many) : takeSOk most n S x many = true := by unfold takeSOk; simpa using h
theorem takeSOk_no {most : Int} {n : Nat} {S : Nat → Seat} {x many : Int} (h : ¬ SeatsTake most n S x many) : takeSOk most n S x many = false := by unfold takeSOk; simpa using h
theorem takeSLen_le (most : Int) (n : Nat) (S : Nat → Seat) (x many : Int) : takeSLen most n S x many ≤ 60 := by
  unfold takeSLen
  by_cases h : SeatsTake most n S x many
  · have := h.2.2.1
    rw [takeSOk_yes h]; simp; omega
  · rw [takeSOk_no h]; simp
def SeatsRes (w' : World) (base t : Nat) (most : Int) (n : Nat) (S : Nat → Seat) (x many : Int) (e : Ending) : Prop :=
  ∃ v, e = .returned (.tuple #[v, .bool (takeSOk most n S x many)]) ∧ w'.ownsRow base t 2 v (takeSLen most n S x many) (seatList (seatsWith S n x many) (takeSLen most n S x many))
theorem seatsRes_no {w : World} {base t : Nat} {most : Int} {n : Nat} {S : Nat → Seat} {x many : Int} (h : ¬ SeatsTake most n S x many) : SeatsRes w base t most n S x many (.returned (.tuple #[.slice none 0 0, .bool false])) := by
  refine ⟨.slice none 0 0, by rw [takeSOk_no h], ?_⟩
  unfold takeSLen; rw [takeSOk_no h]; exact ⟨rfl, .inl ⟨rfl, rfl⟩⟩
theorem seatsRes_yes {w : World} {base t : Nat} {most : Int} {n : Nat} {S : Nat → Seat} {x many : Int} {v : Value} (h : SeatsTake most n S x many)
    (ho : w.ownsRow base t 2 v (n + 1) (seatList (seatsWith S n x many) (n + 1))) : SeatsRes w base t most n S x many (.returned (.tuple #[v, .bool true])) := by
  refine ⟨v, by rw [takeSOk_yes h], ?_⟩
  unfold takeSLen; rw [takeSOk_yes h]; exact ho

end Go.Proofs.Ytclcjnbjpelcjaj
