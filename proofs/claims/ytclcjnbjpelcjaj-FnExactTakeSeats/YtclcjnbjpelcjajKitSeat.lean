/-
  OWN TEXT: words of memory for lists of records of 2 cells (Seat).
-/
import Derived.Test.YtclcjnbjpelcjajKit2
namespace Go.Proofs.Ytclcjnbjpelcjaj
open Go.RowKit

structure Seat where
  who : Int
  many : Int
def Seat.zero : Seat := ⟨0, 0⟩
instance : Inhabited Seat := ⟨Seat.zero⟩
/-- The record as a value. -/
def Seat.v (s : Seat) : Value := .agg #[.int .i64 s.who, .int .i64 s.many]
/-- The slice at ao reads as n records. -/
def SeatsAt (w : World) (ao : Option Addr) (n : Nat) (S : Nat → Seat) : Prop :=
  ∀ k, k < n → ∃ b off, ao = some ⟨b, off, none⟩ ∧ w.cell? ⟨b, off + k * 2, none⟩ = some (.int .i64 (S k).who) ∧ w.cell? ⟨b, off + k * 2 + 1, none⟩ = some (.int .i64 (S k).many)
theorem SeatsAt.below {w w' : World} {ao : Option Addr} {n : Nat} {S : Nat → Seat} (h : SeatsAt w ao n S) (hb : Below w.heap.size w w') : SeatsAt w' ao n S := by
  intro k hk
  obtain ⟨b, off, e, h0, h1⟩ := h k hk
  have hlt : b < w.heap.size := World.block_lt_of_cell? w _ h0
  exact ⟨b, off, e, (hb.cell hlt).trans h0, (hb.cell hlt).trans h1⟩
theorem SeatsAt.upto {w : World} {ao : Option Addr} {n i : Nat} {S : Nat → Seat} (h : SeatsAt w ao n S) (hi : i ≤ n) : SeatsAt w ao i S := fun k hk => h k (by omega)
/-- The cell j of a row of records. -/
def seatCell (S : Nat → Seat) (j : Nat) : Value :=
  if j % 2 = 0 then .int .i64 (S (j / 2)).who else .int .i64 (S (j / 2)).many
theorem seatCell_0 (S : Nat → Seat) (k : Nat) : seatCell S (k * 2) = .int .i64 (S k).who := by
  unfold seatCell; rw [if_pos (by omega), show k * 2 / 2 = k by omega]
theorem seatCell_1 (S : Nat → Seat) (k : Nat) : seatCell S (k * 2 + 1) = .int .i64 (S k).many := by
  unfold seatCell; rw [if_neg (by omega), show (k * 2 + 1) / 2 = k by omega]
theorem SeatsAt.of_row {w : World} {g t n : Nat} {S : Nat → Seat} (h : w.rowIs g t (n * 2) (seatCell S)) : SeatsAt w (some ⟨g, 0, none⟩) n S := by
  intro k hk
  refine ⟨g, 0, rfl, ?_, ?_⟩
  · rw [Nat.zero_add, h.cell (by omega), seatCell_0]
  · rw [Nat.zero_add, h.cell (by omega), seatCell_1]
theorem made_seats (n : Nat) (j : Nat) (hj : j < n * 2) : (madeCells (Value.agg #[.int .i64 0, .int .i64 0]).cells (n * 2)).toList.getD j (.bool false) = seatCell (fun _ => Seat.zero) j := by
  have hz : (Value.agg #[.int .i64 0, .int .i64 0]).cells = #[.int .i64 0, .int .i64 0] := rfl
  rw [hz]
  simp only [madeCells, Array.toList_map, List.getD_eq_getElem?_getD, List.getElem?_map, Array.toList_range, List.getElem?_range hj, Option.map_some, Option.getD_some]
  unfold seatCell
  have : j % 2 = 0 ∨ j % 2 = 1 := by omega
  rcases this with h | h <;> simp [h, Seat.zero]
/-- A record is stored into a row. -/
theorem seat_set {w : World} {g t n k : Nat} {S S' : Nat → Seat} (h : w.rowIs g t n (seatCell S)) (hS : ∀ i, i ≠ k → S' i = S i) :
    ((w.setCell ⟨g, k * 2, none⟩ (.int .i64 (S' k).who)).setCell ⟨g, k * 2 + 1, none⟩ (.int .i64 (S' k).many)).rowIs g t n (seatCell S') := by
  refine ((h.set (k * 2) _).set (k * 2 + 1) _).congr fun j _ => ?_
  by_cases h1 : j = k * 2 + 1
  · subst h1; rw [if_pos rfl, seatCell_1]
  rw [if_neg h1]
  by_cases h0 : j = k * 2
  · subst h0; rw [if_pos rfl, seatCell_0]
  rw [if_neg h0]
  have hk : j / 2 ≠ k := by omega
  unfold seatCell
  rw [hS _ hk]
/-- The cells of the first n records. -/
def seatList (S : Nat → Seat) (n : Nat) : List Value := (List.range (n * 2)).map (seatCell S)
theorem seatList_length (S : Nat → Seat) (n : Nat) : (seatList S n).length = n * 2 := by simp [seatList]
theorem seatList_get {S : Nat → Seat} {n j : Nat} {u : Value} (h : (seatList S n)[j]? = some u) : j < n * 2 ∧ u = seatCell S j := by
  unfold seatList at h
  rw [List.getElem?_map] at h
  by_cases hj : j < n * 2
  · rw [List.getElem?_range hj] at h; simp at h; exact ⟨hj, h.symm⟩
  · rw [List.getElem?_eq_none (by simpa using hj)] at h; cases h
theorem seatList_one (S : Nat → Seat) (n : Nat) : ∀ u ∈ seatList S n, u.oneCell' = true := by
  intro u hu
  unfold seatList at hu
  simp only [List.mem_map] at hu
  obtain ⟨j, _, rfl⟩ := hu
  unfold seatCell
  repeat' split
  all_goals rfl
theorem seatList_succ (S : Nat → Seat) (k : Nat) : seatList S (k + 1) = seatList S k ++ [.int .i64 (S k).who, .int .i64 (S k).many] := by
  unfold seatList
  rw [show (k + 1) * 2 = k * 2 + 1 + 1 by omega, List.range_succ, List.range_succ]
  simp only [List.map_append, List.map_cons, List.map_nil, List.append_assoc, List.cons_append, List.nil_append, seatCell_0, seatCell_1]
theorem seatList_congr {S S' : Nat → Seat} {n : Nat} (h : ∀ i, i < n → S i = S' i) : seatList S n = seatList S' n := by
  unfold seatList
  refine List.map_congr_left (fun j hj => ?_)
  have hj' : j < n * 2 := by simpa using hj
  unfold seatCell
  rw [h (j / 2) (by omega)]
/-- n records of S and then those of T. -/
def seatCat (S : Nat → Seat) (n : Nat) (T : Nat → Seat) (i : Nat) : Seat := if i < n then S i else T (i - n)
theorem seatList_cat (S T : Nat → Seat) (n j : Nat) : seatList (seatCat S n T) (n + j) = seatList S n ++ seatList T j := by
  induction j with
  | zero =>
    have : seatList T 0 = [] := by simp [seatList]
    rw [this, List.append_nil, Nat.add_zero]
    exact seatList_congr (fun i hi => if_pos hi)
  | succ j ih =>
    rw [show n + (j + 1) = n + j + 1 by omega, seatList_succ, seatList_succ, ih, List.append_assoc]
    have : seatCat S n T (n + j) = T j := by unfold seatCat; rw [if_neg (by omega), show n + j - n = j by omega]
    rw [this]
/-- The cells of a list, read at its address. -/
theorem seats_cells {w : World} {ao : Option Addr} {n : Nat} {S : Nat → Seat} (h : SeatsAt w ao n S) : ∀ ad, ao = some ad → ∀ j u, (seatList S n)[j]? = some u → w.cell? (ad.add j) = some u := by
  intro ad e j u hu
  obtain ⟨hj, rfl⟩ := seatList_get hu
  obtain ⟨b, off, e', h0, h1⟩ := h (j / 2) (by omega)
  rw [e] at e'
  simp only [Option.some.injEq] at e'
  subst e'
  rw [Addr.add_lit]
  have hm : j % 2 = 0 ∨ j % 2 = 1 := by omega
  rcases hm with hm | hm
  · rw [show off + j = off + j / 2 * 2 by omega, h0]; unfold seatCell; simp [hm]
  · rw [show off + j = off + j / 2 * 2 + 1 by omega, h1]; unfold seatCell; simp [hm]
theorem seats_of_own {w : World} {base e n c : Nat} {ao : Option Addr} {S : Nat → Seat} (h : w.ownsRow base e 2 (.slice ao n c) n (seatList S n)) : SeatsAt w ao n S := by
  intro k hk
  obtain ⟨g, rfl, _, _⟩ := own_addr h (by omega)
  have c0 := own_cell h (k * 2) (by omega) rfl
  rw [seatCell_0] at c0
  have c1 := own_cell h (k * 2 + 1) (by omega) rfl
  rw [seatCell_1] at c1
  exact ⟨g, 0, rfl, by rw [Nat.zero_add]; exact c0, by rw [Nat.zero_add]; exact c1⟩
/-- Records with their address written out. -/
theorem seats_in {w : World} {ao : Option Addr} {n : Nat} {S : Nat → Seat} (h : SeatsAt w ao n S) : n = 0 ∨ ∃ b off, ao = some ⟨b, off, none⟩ ∧ b < w.heap.size := by
  by_cases h0 : n = 0
  · exact .inl h0
  · obtain ⟨b, off, rfl, h1, _⟩ := h 0 (by omega)
    exact .inr ⟨b, off, rfl, World.block_lt_of_cell? w _ h1⟩

end Go.Proofs.Ytclcjnbjpelcjaj
