/-
  OWN TEXT: KitMRow, InfoMRow.
-/
import Derived.Test.YtogbaoggebghdaaRows
import Derived.Test.YtogbaoggebghdaaB00
namespace Go.Proofs.Ytogbaoggebghdaa
open Go.RowKit

structure MRow where
  name : Int
  own : ByteArray
  pe : Int
  ln : Int
  cab : Int
def MRow.zero : MRow := ⟨0, ⟨#[]⟩, 0, 0, 0⟩
instance : Inhabited MRow := ⟨MRow.zero⟩
/-- The record as a value. -/
def MRow.v (s : MRow) : Value := .agg #[.int .i64 s.name, .string s.own, .int .i64 s.pe, .int .i64 s.ln, .int .i64 s.cab]
/-- The slice at ao reads as n records. -/
def MRowsAt (w : World) (ao : Option Addr) (n : Nat) (S : Nat → MRow) : Prop :=
  ∀ k, k < n → ∃ b off, ao = some ⟨b, off, none⟩ ∧ w.cell? ⟨b, off + k * 5, none⟩ = some (.int .i64 (S k).name) ∧ w.cell? ⟨b, off + k * 5 + 1, none⟩ = some (.string (S k).own) ∧ w.cell? ⟨b, off + k * 5 + 2, none⟩ = some (.int .i64 (S k).pe) ∧ w.cell? ⟨b, off + k * 5 + 3, none⟩ = some (.int .i64 (S k).ln) ∧ w.cell? ⟨b, off + k * 5 + 4, none⟩ = some (.int .i64 (S k).cab)
theorem MRowsAt.below {w w' : World} {ao : Option Addr} {n : Nat} {S : Nat → MRow} (h : MRowsAt w ao n S) (hb : Below w.heap.size w w') : MRowsAt w' ao n S := by
  intro k hk
  obtain ⟨b, off, e, h0, h1, h2, h3, h4⟩ := h k hk
  have hlt : b < w.heap.size := World.block_lt_of_cell? w _ h0
  exact ⟨b, off, e, (hb.cell hlt).trans h0, (hb.cell hlt).trans h1, (hb.cell hlt).trans h2, (hb.cell hlt).trans h3, (hb.cell hlt).trans h4⟩
theorem MRowsAt.upto {w : World} {ao : Option Addr} {n i : Nat} {S : Nat → MRow} (h : MRowsAt w ao n S) (hi : i ≤ n) : MRowsAt w ao i S := fun k hk => h k (by omega)
/-- The cell j of a row of records. -/
def rowCell (S : Nat → MRow) (j : Nat) : Value :=
  if j % 5 = 0 then .int .i64 (S (j / 5)).name else if j % 5 = 1 then .string (S (j / 5)).own else if j % 5 = 2 then .int .i64 (S (j / 5)).pe else if j % 5 = 3 then .int .i64 (S (j / 5)).ln else .int .i64 (S (j / 5)).cab
theorem rowCell_0 (S : Nat → MRow) (k : Nat) : rowCell S (k * 5) = .int .i64 (S k).name := by
  unfold rowCell; rw [if_pos (by omega), show k * 5 / 5 = k by omega]
theorem rowCell_1 (S : Nat → MRow) (k : Nat) : rowCell S (k * 5 + 1) = .string (S k).own := by
  unfold rowCell; rw [if_neg (by omega), if_pos (by omega), show (k * 5 + 1) / 5 = k by omega]
theorem rowCell_2 (S : Nat → MRow) (k : Nat) : rowCell S (k * 5 + 2) = .int .i64 (S k).pe := by
  unfold rowCell; rw [if_neg (by omega), if_neg (by omega), if_pos (by omega), show (k * 5 + 2) / 5 = k by omega]
theorem rowCell_3 (S : Nat → MRow) (k : Nat) : rowCell S (k * 5 + 3) = .int .i64 (S k).ln := by
  unfold rowCell; rw [if_neg (by omega), if_neg (by omega), if_neg (by omega), if_pos (by omega), show (k * 5 + 3) / 5 = k by omega]
theorem rowCell_4 (S : Nat → MRow) (k : Nat) : rowCell S (k * 5 + 4) = .int .i64 (S k).cab := by
  unfold rowCell; rw [if_neg (by omega), if_neg (by omega), if_neg (by omega), if_neg (by omega), show (k * 5 + 4) / 5 = k by omega]
theorem MRowsAt.of_row {w : World} {g t n : Nat} {S : Nat → MRow} (h : w.rowIs g t (n * 5) (rowCell S)) : MRowsAt w (some ⟨g, 0, none⟩) n S := by
  intro k hk
  refine ⟨g, 0, rfl, ?_, ?_, ?_, ?_, ?_⟩
  · rw [Nat.zero_add, h.cell (by omega), rowCell_0]
  · rw [Nat.zero_add, h.cell (by omega), rowCell_1]
  · rw [Nat.zero_add, h.cell (by omega), rowCell_2]
  · rw [Nat.zero_add, h.cell (by omega), rowCell_3]
  · rw [Nat.zero_add, h.cell (by omega), rowCell_4]
theorem made_rows (n : Nat) (j : Nat) (hj : j < n * 5) : (madeCells (Value.agg #[.int .i64 0, .string ⟨#[]⟩, .int .i64 0, .int .i64 0, .int .i64 0]).cells (n * 5)).toList.getD j (.bool false) = rowCell (fun _ => MRow.zero) j := by
  have hz : (Value.agg #[.int .i64 0, .string ⟨#[]⟩, .int .i64 0, .int .i64 0, .int .i64 0]).cells = #[.int .i64 0, .string ⟨#[]⟩, .int .i64 0, .int .i64 0, .int .i64 0] := rfl
  rw [hz]
  simp only [madeCells, Array.toList_map, List.getD_eq_getElem?_getD, List.getElem?_map, Array.toList_range, List.getElem?_range hj, Option.map_some, Option.getD_some]
  unfold rowCell
  have : j % 5 = 0 ∨ j % 5 = 1 ∨ j % 5 = 2 ∨ j % 5 = 3 ∨ j % 5 = 4 := by omega
  rcases this with h | h | h | h | h <;> simp [h, MRow.zero]
/-- A record is stored into a row. -/
theorem row_set {w : World} {g t n k : Nat} {S S' : Nat → MRow} (h : w.rowIs g t n (rowCell S)) (hS : ∀ i, i ≠ k → S' i = S i) :
    (((((w.setCell ⟨g, k * 5, none⟩ (.int .i64 (S' k).name)).setCell ⟨g, k * 5 + 1, none⟩ (.string (S' k).own)).setCell ⟨g, k * 5 + 2, none⟩ (.int .i64 (S' k).pe)).setCell ⟨g, k * 5 + 3, none⟩ (.int .i64 (S' k).ln)).setCell ⟨g, k * 5 + 4, none⟩ (.int .i64 (S' k).cab)).rowIs g t n (rowCell S') := by
  refine (((((h.set (k * 5) _).set (k * 5 + 1) _).set (k * 5 + 2) _).set (k * 5 + 3) _).set (k * 5 + 4) _).congr fun j _ => ?_
  by_cases h4 : j = k * 5 + 4
  · subst h4; rw [if_pos rfl, rowCell_4]
  rw [if_neg h4]
  by_cases h3 : j = k * 5 + 3
  · subst h3; rw [if_pos rfl, rowCell_3]
  rw [if_neg h3]
  by_cases h2 : j = k * 5 + 2
  · subst h2; rw [if_pos rfl, rowCell_2]
  rw [if_neg h2]
  by_cases h1 : j = k * 5 + 1
  · subst h1; rw [if_pos rfl, rowCell_1]
  rw [if_neg h1]
  by_cases h0 : j = k * 5
  · subst h0; rw [if_pos rfl, rowCell_0]
  rw [if_neg h0]
  have hk : j / 5 ≠ k := by omega
  unfold rowCell
  rw [hS _ hk]
/-- The cells of the first n records. -/
def rowList (S : Nat → MRow) (n : Nat) : List Value := (List.range (n * 5)).map (rowCell S)
theorem rowList_length (S : Nat → MRow) (n : Nat) : (rowList S n).length = n * 5 := by simp [rowList]
theorem rowList_get {S : Nat → MRow} {n j : Nat} {u : Value} (h : (rowList S n)[j]? = some u) : j < n * 5 ∧ u = rowCell S j := by
  unfold rowList at h
  rw [List.getElem?_map] at h
  by_cases hj : j < n * 5
  · rw [List.getElem?_range hj] at h; simp at h; exact ⟨hj, h.symm⟩
  · rw [List.getElem?_eq_none (by simpa using hj)] at h; cases h
theorem rowList_one (S : Nat → MRow) (n : Nat) : ∀ u ∈ rowList S n, u.oneCell' = true := by
  intro u hu
  unfold rowList at hu
  simp only [List.mem_map] at hu
  obtain ⟨j, _, rfl⟩ := hu
  unfold rowCell
  repeat' split
  all_goals rfl
theorem rowList_succ (S : Nat → MRow) (k : Nat) : rowList S (k + 1) = rowList S k ++ [.int .i64 (S k).name, .string (S k).own, .int .i64 (S k).pe, .int .i64 (S k).ln, .int .i64 (S k).cab] := by
  unfold rowList
  rw [show (k + 1) * 5 = k * 5 + 1 + 1 + 1 + 1 + 1 by omega, List.range_succ, List.range_succ, List.range_succ, List.range_succ, List.range_succ]
  simp only [List.map_append, List.map_cons, List.map_nil, List.append_assoc, List.cons_append, List.nil_append, rowCell_0, rowCell_1, rowCell_2, rowCell_3, rowCell_4]
theorem rowList_congr {S S' : Nat → MRow} {n : Nat} (h : ∀ i, i < n → S i = S' i) : rowList S n = rowList S' n := by
  unfold rowList
  refine List.map_congr_left (fun j hj => ?_)
  have hj' : j < n * 5 := by simpa using hj
  unfold rowCell
  rw [h (j / 5) (by omega)]
/-- n records of S and then those of T. -/
def rowCat (S : Nat → MRow) (n : Nat) (T : Nat → MRow) (i : Nat) : MRow := if i < n then S i else T (i - n)
theorem rowList_cat (S T : Nat → MRow) (n j : Nat) : rowList (rowCat S n T) (n + j) = rowList S n ++ rowList T j := by
  induction j with
  | zero =>
    have : rowList T 0 = [] := by simp [rowList]
    rw [this, List.append_nil, Nat.add_zero]
    exact rowList_congr (fun i hi => if_pos hi)
  | succ j ih =>
    rw [show n + (j + 1) = n + j + 1 by omega, rowList_succ, rowList_succ, ih, List.append_assoc]
    have : rowCat S n T (n + j) = T j := by unfold rowCat; rw [if_neg (by omega), show n + j - n = j by omega]
    rw [this]
/-- The cells of a list, read at its address. -/
theorem rows_cells {w : World} {ao : Option Addr} {n : Nat} {S : Nat → MRow} (h : MRowsAt w ao n S) : ∀ ad, ao = some ad → ∀ j u, (rowList S n)[j]? = some u → w.cell? (ad.add j) = some u := by
  intro ad e j u hu
  obtain ⟨hj, rfl⟩ := rowList_get hu
  obtain ⟨b, off, e', h0, h1, h2, h3, h4⟩ := h (j / 5) (by omega)
  rw [e] at e'
  simp only [Option.some.injEq] at e'
  subst e'
  rw [Addr.add_lit]
  have hm : j % 5 = 0 ∨ j % 5 = 1 ∨ j % 5 = 2 ∨ j % 5 = 3 ∨ j % 5 = 4 := by omega
  rcases hm with hm | hm | hm | hm | hm
  · rw [show off + j = off + j / 5 * 5 by omega, h0]; unfold rowCell; simp [hm]
  · rw [show off + j = off + j / 5 * 5 + 1 by omega, h1]; unfold rowCell; simp [hm]
  · rw [show off + j = off + j / 5 * 5 + 2 by omega, h2]; unfold rowCell; simp [hm]
  · rw [show off + j = off + j / 5 * 5 + 3 by omega, h3]; unfold rowCell; simp [hm]
  · rw [show off + j = off + j / 5 * 5 + 4 by omega, h4]; unfold rowCell; simp [hm]
theorem rows_of_own {w : World} {base e n c : Nat} {ao : Option Addr} {S : Nat → MRow} (h : w.ownsRow base e 5 (.slice ao n c) n (rowList S n)) : MRowsAt w ao n S := by
  intro k hk
  obtain ⟨g, rfl, _, _⟩ := own_addr h (by omega)
  have c0 := own_cell h (k * 5) (by omega) rfl
  rw [rowCell_0] at c0
  have c1 := own_cell h (k * 5 + 1) (by omega) rfl
  rw [rowCell_1] at c1
  have c2 := own_cell h (k * 5 + 2) (by omega) rfl
  rw [rowCell_2] at c2
  have c3 := own_cell h (k * 5 + 3) (by omega) rfl
  rw [rowCell_3] at c3
  have c4 := own_cell h (k * 5 + 4) (by omega) rfl
  rw [rowCell_4] at c4
  exact ⟨g, 0, rfl, by rw [Nat.zero_add]; exact c0, by rw [Nat.zero_add]; exact c1, by rw [Nat.zero_add]; exact c2, by rw [Nat.zero_add]; exact c3, by rw [Nat.zero_add]; exact c4⟩
/-- Records with their address written out. -/
theorem rows_in {w : World} {ao : Option Addr} {n : Nat} {S : Nat → MRow} (h : MRowsAt w ao n S) : n = 0 ∨ ∃ b off, ao = some ⟨b, off, none⟩ ∧ b < w.heap.size := by
  by_cases h0 : n = 0
  · exact .inl h0
  · obtain ⟨b, off, rfl, h1, _⟩ := h 0 (by omega)
    exact .inr ⟨b, off, rfl, World.block_lt_of_cell? w _ h1⟩

end Go.Proofs.Ytogbaoggebghdaa

namespace Go.Proofs.Ytogbaoggebghdaa
open Go.RowKit

theorem Try.infoRow : (Try.prog.info? 84).map (fun i => (i.zero, i.size, i.bytes)) = some (some (.agg #[.int .i64 0, .string ⟨#[]⟩, .int .i64 0, .int .i64 0, .int .i64 0]), 5, 48) := by kernel_rfl

end Go.Proofs.Ytogbaoggebghdaa
