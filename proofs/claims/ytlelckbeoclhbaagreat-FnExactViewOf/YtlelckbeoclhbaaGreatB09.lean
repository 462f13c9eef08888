/-
  OWN TEXT: KitSh, KitStay, KitRoom, KitSeat.
-/
import Derived.Test.YtlelckbeoclhbaaGreatRows
import Derived.Test.YtlelckbeoclhbaaGreatB00
set_option maxHeartbeats 12800000
set_option maxRecDepth 100000
namespace Go.Proofs.YtlelckbeoclhbaaGreat
open Go.RowKit
def ShortS (s : Sail) (B : Nat) : Prop := s.fr.size ≤ B ∧ s.dst.size ≤ B ∧ s.la.n ≤ B ∧ s.ca.n ≤ B
def ShortAll (N : Nat) (S : Nat → Sail) (B : Nat) : Prop := ∀ i, i < N → ShortS (S i) B
theorem Tryz.infoLane : (Tryz.prog.info? 122).map (fun i => (i.zero, i.size, i.bytes)) = some (some (.agg #[.int .i64 0, .int .i64 0]), 2, 16) := by kernel_rfl
theorem Tryz.infoCabin : (Tryz.prog.info? 124).map (fun i => (i.zero, i.size, i.bytes)) = some (some (.agg #[.int .i64 0, .int .i64 0]), 2, 16) := by kernel_rfl
theorem Tryz.infoSailing : (Tryz.prog.info? 54).map (fun i => (i.zero, i.size, i.bytes)) = some (some (.agg #[.int .i64 0, .string ⟨#[]⟩, .string ⟨#[]⟩, .int .i64 0, .int .i64 0, .slice none 0 0, .slice none 0 0, .int .i64 0]), 8, 112) := by kernel_rfl
end Go.Proofs.YtlelckbeoclhbaaGreat

namespace Go.Proofs.YtlelckbeoclhbaaGreat
open Go.RowKit
structure Stay where
  who : Int
  ln : Int
  len : Int
  hei : Int
def Stay.zero : Stay := ⟨0, 0, 0, 0⟩
instance : Inhabited Stay := ⟨Stay.zero⟩
def Stay.v (s : Stay) : Value := .agg #[.int .i64 s.who, .int .i64 s.ln, .int .i64 s.len, .int .i64 s.hei]
def StaysAt (w : World) (ao : Option Addr) (n : Nat) (S : Nat → Stay) : Prop :=
  ∀ k, k < n → ∃ b off, ao = some ⟨b, off, none⟩ ∧ w.cell? ⟨b, off + k * 4, none⟩ = some (.int .i64 (S k).who) ∧ w.cell? ⟨b, off + k * 4 + 1, none⟩ = some (.int .i64 (S k).ln) ∧ w.cell? ⟨b, off + k * 4 + 2, none⟩ = some (.int .i64 (S k).len) ∧ w.cell? ⟨b, off + k * 4 + 3, none⟩ = some (.int .i64 (S k).hei)
theorem StaysAt.below {w w' : World} {ao : Option Addr} {n : Nat} {S : Nat → Stay} (h : StaysAt w ao n S) (hb : Below w.heap.size w w') : StaysAt w' ao n S := by
  intro k hk
  obtain ⟨b, off, e, h0, h1, h2, h3⟩ := h k hk
  have hlt : b < w.heap.size := World.block_lt_of_cell? w _ h0
  exact ⟨b, off, e, (hb.cell hlt).trans h0, (hb.cell hlt).trans h1, (hb.cell hlt).trans h2, (hb.cell hlt).trans h3⟩
theorem StaysAt.upto {w : World} {ao : Option Addr} {n i : Nat} {S : Nat → Stay} (h : StaysAt w ao n S) (hi : i ≤ n) : StaysAt w ao i S := fun k hk => h k (by omega)
def stayCell (S : Nat → Stay) (j : Nat) : Value :=
  if j % 4 = 0 then .int .i64 (S (j / 4)).who else if j % 4 = 1 then .int .i64 (S (j / 4)).ln else if j % 4 = 2 then .int .i64 (S (j / 4)).len else .int .i64 (S (j / 4)).hei
theorem stayCell_0 (S : Nat → Stay) (k : Nat) : stayCell S (k * 4) = .int .i64 (S k).who := by
  unfold stayCell; rw [if_pos (by omega), show k * 4 / 4 = k by omega]
theorem stayCell_1 (S : Nat → Stay) (k : Nat) : stayCell S (k * 4 + 1) = .int .i64 (S k).ln := by
  unfold stayCell; rw [if_neg (by omega), if_pos (by omega), show (k * 4 + 1) / 4 = k by omega]
theorem stayCell_2 (S : Nat → Stay) (k : Nat) : stayCell S (k * 4 + 2) = .int .i64 (S k).len := by
  unfold stayCell; rw [if_neg (by omega), if_neg (by omega), if_pos (by omega), show (k * 4 + 2) / 4 = k by omega]
theorem stayCell_3 (S : Nat → Stay) (k : Nat) : stayCell S (k * 4 + 3) = .int .i64 (S k).hei := by
  unfold stayCell; rw [if_neg (by omega), if_neg (by omega), if_neg (by omega), show (k * 4 + 3) / 4 = k by omega]
theorem StaysAt.of_row {w : World} {g t n : Nat} {S : Nat → Stay} (h : w.rowIs g t (n * 4) (stayCell S)) : StaysAt w (some ⟨g, 0, none⟩) n S := by
  intro k hk
  refine ⟨g, 0, rfl, ?_, ?_, ?_, ?_⟩
  · rw [Nat.zero_add, h.cell (by omega), stayCell_0]
  · rw [Nat.zero_add, h.cell (by omega), stayCell_1]
  · rw [Nat.zero_add, h.cell (by omega), stayCell_2]
  · rw [Nat.zero_add, h.cell (by omega), stayCell_3]
theorem made_stays (n : Nat) (j : Nat) (hj : j < n * 4) : (madeCells (Value.agg #[.int .i64 0, .int .i64 0, .int .i64 0, .int .i64 0]).cells (n * 4)).toList.getD j (.bool false) = stayCell (fun _ => Stay.zero) j := by
  have hz : (Value.agg #[.int .i64 0, .int .i64 0, .int .i64 0, .int .i64 0]).cells = #[.int .i64 0, .int .i64 0, .int .i64 0, .int .i64 0] := rfl
  rw [hz]
  simp only [madeCells, Array.toList_map, List.getD_eq_getElem?_getD, List.getElem?_map, Array.toList_range, List.getElem?_range hj, Option.map_some, Option.getD_some]
  unfold stayCell
  have : j % 4 = 0 ∨ j % 4 = 1 ∨ j % 4 = 2 ∨ j % 4 = 3 := by omega
  rcases this with h | h | h | h <;> simp [h, Stay.zero]
theorem stay_set {w : World} {g t n k : Nat} {S S' : Nat → Stay} (h : w.rowIs g t n (stayCell S)) (hS : ∀ i, i ≠ k → S' i = S i) :
    ((((w.setCell ⟨g, k * 4, none⟩ (.int .i64 (S' k).who)).setCell ⟨g, k * 4 + 1, none⟩ (.int .i64 (S' k).ln)).setCell ⟨g, k * 4 + 2, none⟩ (.int .i64 (S' k).len)).setCell ⟨g, k * 4 + 3, none⟩ (.int .i64 (S' k).hei)).rowIs g t n (stayCell S') := by
  refine ((((h.set (k * 4) _).set (k * 4 + 1) _).set (k * 4 + 2) _).set (k * 4 + 3) _).congr fun j _ => ?_
  by_cases h3 : j = k * 4 + 3
  · subst h3; rw [if_pos rfl, stayCell_3]
  rw [if_neg h3]
  by_cases h2 : j = k * 4 + 2
  · subst h2; rw [if_pos rfl, stayCell_2]
  rw [if_neg h2]
  by_cases h1 : j = k * 4 + 1
  · subst h1; rw [if_pos rfl, stayCell_1]
  rw [if_neg h1]
  by_cases h0 : j = k * 4
  · subst h0; rw [if_pos rfl, stayCell_0]
  rw [if_neg h0]
  have hk : j / 4 ≠ k := by omega
  unfold stayCell
  rw [hS _ hk]
def stayList (S : Nat → Stay) (n : Nat) : List Value := (List.range (n * 4)).map (stayCell S)
theorem stayList_length (S : Nat → Stay) (n : Nat) : (stayList S n).length = n * 4 := by simp [stayList]
theorem stayList_get {S : Nat → Stay} {n j : Nat} {u : Value} (h : (stayList S n)[j]? = some u) : j < n * 4 ∧ u = stayCell S j := by
  unfold stayList at h
  rw [List.getElem?_map] at h
  by_cases hj : j < n * 4
  · rw [List.getElem?_range hj] at h; simp at h; exact ⟨hj, h.symm⟩
  · rw [List.getElem?_eq_none (by simpa using hj)] at h; cases h
theorem stayList_one (S : Nat → Stay) (n : Nat) : ∀ u ∈ stayList S n, u.oneCell' = true := by
  intro u hu
  unfold stayList at hu
  simp only [List.mem_map] at hu
  obtain ⟨j, _, rfl⟩ := hu
  unfold stayCell
  repeat' split
  all_goals rfl
theorem stayList_succ (S : Nat → Stay) (k : Nat) : stayList S (k + 1) = stayList S k ++ [.int .i64 (S k).who, .int .i64 (S k).ln, .int .i64 (S k).len, .int .i64 (S k).hei] := by
  unfold stayList
  rw [show (k + 1) * 4 = k * 4 + 1 + 1 + 1 + 1 by omega, List.range_succ, List.range_succ, List.range_succ, List.range_succ]
  simp only [List.map_append, List.map_cons, List.map_nil, List.append_assoc, List.cons_append, List.nil_append, stayCell_0, stayCell_1, stayCell_2, stayCell_3]
theorem stayList_congr {S S' : Nat → Stay} {n : Nat} (h : ∀ i, i < n → S i = S' i) : stayList S n = stayList S' n := by
  unfold stayList
  refine List.map_congr_left (fun j hj => ?_)
  have hj' : j < n * 4 := by simpa using hj
  unfold stayCell
  rw [h (j / 4) (by omega)]
def stayCat (S : Nat → Stay) (n : Nat) (T : Nat → Stay) (i : Nat) : Stay := if i < n then S i else T (i - n)
theorem stayList_cat (S T : Nat → Stay) (n j : Nat) : stayList (stayCat S n T) (n + j) = stayList S n ++ stayList T j := by
  induction j with
  | zero =>
    have : stayList T 0 = [] := by simp [stayList]
    rw [this, List.append_nil, Nat.add_zero]
    exact stayList_congr (fun i hi => if_pos hi)
  | succ j ih =>
    rw [show n + (j + 1) = n + j + 1 by omega, stayList_succ, stayList_succ, ih, List.append_assoc]
    have : stayCat S n T (n + j) = T j := by unfold stayCat; rw [if_neg (by omega), show n + j - n = j by omega]
    rw [this]
theorem stays_cells {w : World} {ao : Option Addr} {n : Nat} {S : Nat → Stay} (h : StaysAt w ao n S) : ∀ ad, ao = some ad → ∀ j u, (stayList S n)[j]? = some u → w.cell? (ad.add j) = some u := by
  intro ad e j u hu
  obtain ⟨hj, rfl⟩ := stayList_get hu
  obtain ⟨b, off, e', h0, h1, h2, h3⟩ := h (j / 4) (by omega)
  rw [e] at e'
  simp only [Option.some.injEq] at e'
  subst e'
  rw [Addr.add_lit]
  have hm : j % 4 = 0 ∨ j % 4 = 1 ∨ j % 4 = 2 ∨ j % 4 = 3 := by omega
  rcases hm with hm | hm | hm | hm
  · rw [show off + j = off + j / 4 * 4 by omega, h0]; unfold stayCell; simp [hm]
  · rw [show off + j = off + j / 4 * 4 + 1 by omega, h1]; unfold stayCell; simp [hm]
  · rw [show off + j = off + j / 4 * 4 + 2 by omega, h2]; unfold stayCell; simp [hm]
  · rw [show off + j = off + j / 4 * 4 + 3 by omega, h3]; unfold stayCell; simp [hm]
theorem stays_of_own {w : World} {base e n c : Nat} {ao : Option Addr} {S : Nat → Stay} (h : w.ownsRow base e 4 (.slice ao n c) n (stayList S n)) : StaysAt w ao n S := by
  intro k hk
  obtain ⟨g, rfl, _, _⟩ := own_addr h (by omega)
  have c0 := own_cell h (k * 4) (by omega) rfl
  rw [stayCell_0] at c0
  have c1 := own_cell h (k * 4 + 1) (by omega) rfl
  rw [stayCell_1] at c1
  have c2 := own_cell h (k * 4 + 2) (by omega) rfl
  rw [stayCell_2] at c2
  have c3 := own_cell h (k * 4 + 3) (by omega) rfl
  rw [stayCell_3] at c3
  exact ⟨g, 0, rfl, by rw [Nat.zero_add]; exact c0, by rw [Nat.zero_add]; exact c1, by rw [Nat.zero_add]; exact c2, by rw [Nat.zero_add]; exact c3⟩
theorem stays_in {w : World} {ao : Option Addr} {n : Nat} {S : Nat → Stay} (h : StaysAt w ao n S) : n = 0 ∨ ∃ b off, ao = some ⟨b, off, none⟩ ∧ b < w.heap.size := by
  by_cases h0 : n = 0
  · exact .inl h0
  · obtain ⟨b, off, rfl, h1, _⟩ := h 0 (by omega)
    exact .inr ⟨b, off, rfl, World.block_lt_of_cell? w _ h1⟩
end Go.Proofs.YtlelckbeoclhbaaGreat

namespace Go.Proofs.YtlelckbeoclhbaaGreat
open Go.RowKit
structure Room where
  who : Int
  cab : Int
  many : Int
  all : Bool
def Room.zero : Room := ⟨0, 0, 0, false⟩
instance : Inhabited Room := ⟨Room.zero⟩
def Room.v (s : Room) : Value := .agg #[.int .i64 s.who, .int .i64 s.cab, .int .i64 s.many, .bool s.all]
def RoomsAt (w : World) (ao : Option Addr) (n : Nat) (S : Nat → Room) : Prop :=
  ∀ k, k < n → ∃ b off, ao = some ⟨b, off, none⟩ ∧ w.cell? ⟨b, off + k * 4, none⟩ = some (.int .i64 (S k).who) ∧ w.cell? ⟨b, off + k * 4 + 1, none⟩ = some (.int .i64 (S k).cab) ∧ w.cell? ⟨b, off + k * 4 + 2, none⟩ = some (.int .i64 (S k).many) ∧ w.cell? ⟨b, off + k * 4 + 3, none⟩ = some (.bool (S k).all)
theorem RoomsAt.below {w w' : World} {ao : Option Addr} {n : Nat} {S : Nat → Room} (h : RoomsAt w ao n S) (hb : Below w.heap.size w w') : RoomsAt w' ao n S := by
  intro k hk
  obtain ⟨b, off, e, h0, h1, h2, h3⟩ := h k hk
  have hlt : b < w.heap.size := World.block_lt_of_cell? w _ h0
  exact ⟨b, off, e, (hb.cell hlt).trans h0, (hb.cell hlt).trans h1, (hb.cell hlt).trans h2, (hb.cell hlt).trans h3⟩
theorem RoomsAt.upto {w : World} {ao : Option Addr} {n i : Nat} {S : Nat → Room} (h : RoomsAt w ao n S) (hi : i ≤ n) : RoomsAt w ao i S := fun k hk => h k (by omega)
def roomCell (S : Nat → Room) (j : Nat) : Value :=
  if j % 4 = 0 then .int .i64 (S (j / 4)).who else if j % 4 = 1 then .int .i64 (S (j / 4)).cab else if j % 4 = 2 then .int .i64 (S (j / 4)).many else .bool (S (j / 4)).all
theorem roomCell_0 (S : Nat → Room) (k : Nat) : roomCell S (k * 4) = .int .i64 (S k).who := by
  unfold roomCell; rw [if_pos (by omega), show k * 4 / 4 = k by omega]
theorem roomCell_1 (S : Nat → Room) (k : Nat) : roomCell S (k * 4 + 1) = .int .i64 (S k).cab := by
  unfold roomCell; rw [if_neg (by omega), if_pos (by omega), show (k * 4 + 1) / 4 = k by omega]
theorem roomCell_2 (S : Nat → Room) (k : Nat) : roomCell S (k * 4 + 2) = .int .i64 (S k).many := by
  unfold roomCell; rw [if_neg (by omega), if_neg (by omega), if_pos (by omega), show (k * 4 + 2) / 4 = k by omega]
theorem roomCell_3 (S : Nat → Room) (k : Nat) : roomCell S (k * 4 + 3) = .bool (S k).all := by
  unfold roomCell; rw [if_neg (by omega), if_neg (by omega), if_neg (by omega), show (k * 4 + 3) / 4 = k by omega]
theorem RoomsAt.of_row {w : World} {g t n : Nat} {S : Nat → Room} (h : w.rowIs g t (n * 4) (roomCell S)) : RoomsAt w (some ⟨g, 0, none⟩) n S := by
  intro k hk
  refine ⟨g, 0, rfl, ?_, ?_, ?_, ?_⟩
  · rw [Nat.zero_add, h.cell (by omega), roomCell_0]
  · rw [Nat.zero_add, h.cell (by omega), roomCell_1]
  · rw [Nat.zero_add, h.cell (by omega), roomCell_2]
  · rw [Nat.zero_add, h.cell (by omega), roomCell_3]
theorem made_rooms (n : Nat) (j : Nat) (hj : j < n * 4) : (madeCells (Value.agg #[.int .i64 0, .int .i64 0, .int .i64 0, .bool false]).cells (n * 4)).toList.getD j (.bool false) = roomCell (fun _ => Room.zero) j := by
  have hz : (Value.agg #[.int .i64 0, .int .i64 0, .int .i64 0, .bool false]).cells = #[.int .i64 0, .int .i64 0, .int .i64 0, .bool false] := rfl
  rw [hz]
  simp only [madeCells, Array.toList_map, List.getD_eq_getElem?_getD, List.getElem?_map, Array.toList_range, List.getElem?_range hj, Option.map_some, Option.getD_some]
  unfold roomCell
  have : j % 4 = 0 ∨ j % 4 = 1 ∨ j % 4 = 2 ∨ j % 4 = 3 := by omega
  rcases this with h | h | h | h <;> simp [h, Room.zero]
theorem room_set {w : World} {g t n k : Nat} {S S' : Nat → Room} (h : w.rowIs g t n (roomCell S)) (hS : ∀ i, i ≠ k → S' i = S i) :
    ((((w.setCell ⟨g, k * 4, none⟩ (.int .i64 (S' k).who)).setCell ⟨g, k * 4 + 1, none⟩ (.int .i64 (S' k).cab)).setCell ⟨g, k * 4 + 2, none⟩ (.int .i64 (S' k).many)).setCell ⟨g, k * 4 + 3, none⟩ (.bool (S' k).all)).rowIs g t n (roomCell S') := by
  refine ((((h.set (k * 4) _).set (k * 4 + 1) _).set (k * 4 + 2) _).set (k * 4 + 3) _).congr fun j _ => ?_
  by_cases h3 : j = k * 4 + 3
  · subst h3; rw [if_pos rfl, roomCell_3]
  rw [if_neg h3]
  by_cases h2 : j = k * 4 + 2
  · subst h2; rw [if_pos rfl, roomCell_2]
  rw [if_neg h2]
  by_cases h1 : j = k * 4 + 1
  · subst h1; rw [if_pos rfl, roomCell_1]
  rw [if_neg h1]
  by_cases h0 : j = k * 4
  · subst h0; rw [if_pos rfl, roomCell_0]
  rw [if_neg h0]
  have hk : j / 4 ≠ k := by omega
  unfold roomCell
  rw [hS _ hk]
def roomList (S : Nat → Room) (n : Nat) : List Value := (List.range (n * 4)).map (roomCell S)
theorem roomList_length (S : Nat → Room) (n : Nat) : (roomList S n).length = n * 4 := by simp [roomList]
theorem roomList_get {S : Nat → Room} {n j : Nat} {u : Value} (h : (roomList S n)[j]? = some u) : j < n * 4 ∧ u = roomCell S j := by
  unfold roomList at h
  rw [List.getElem?_map] at h
  by_cases hj : j < n * 4
  · rw [List.getElem?_range hj] at h; simp at h; exact ⟨hj, h.symm⟩
  · rw [List.getElem?_eq_none (by simpa using hj)] at h; cases h
theorem roomList_one (S : Nat → Room) (n : Nat) : ∀ u ∈ roomList S n, u.oneCell' = true := by
  intro u hu
  unfold roomList at hu
  simp only [List.mem_map] at hu
  obtain ⟨j, _, rfl⟩ := hu
  unfold roomCell
  repeat' split
  all_goals rfl
theorem roomList_succ (S : Nat → Room) (k : Nat) : roomList S (k + 1) = roomList S k ++ [.int .i64 (S k).who, .int .i64 (S k).cab, .int .i64 (S k).many, .bool (S k).all] := by
  unfold roomList
  rw [show (k + 1) * 4 = k * 4 + 1 + 1 + 1 + 1 by omega, List.range_succ, List.range_succ, List.range_succ, List.range_succ]
  simp only [List.map_append, List.map_cons, List.map_nil, List.append_assoc, List.cons_append, List.nil_append, roomCell_0, roomCell_1, roomCell_2, roomCell_3]
theorem roomList_congr {S S' : Nat → Room} {n : Nat} (h : ∀ i, i < n → S i = S' i) : roomList S n = roomList S' n := by
  unfold roomList
  refine List.map_congr_left (fun j hj => ?_)
  have hj' : j < n * 4 := by simpa using hj
  unfold roomCell
  rw [h (j / 4) (by omega)]
def roomCat (S : Nat → Room) (n : Nat) (T : Nat → Room) (i : Nat) : Room := if i < n then S i else T (i - n)
theorem roomList_cat (S T : Nat → Room) (n j : Nat) : roomList (roomCat S n T) (n + j) = roomList S n ++ roomList T j := by
  induction j with
  | zero =>
    have : roomList T 0 = [] := by simp [roomList]
    rw [this, List.append_nil, Nat.add_zero]
    exact roomList_congr (fun i hi => if_pos hi)
  | succ j ih =>
    rw [show n + (j + 1) = n + j + 1 by omega, roomList_succ, roomList_succ, ih, List.append_assoc]
    have : roomCat S n T (n + j) = T j := by unfold roomCat; rw [if_neg (by omega), show n + j - n = j by omega]
    rw [this]
theorem rooms_cells {w : World} {ao : Option Addr} {n : Nat} {S : Nat → Room} (h : RoomsAt w ao n S) : ∀ ad, ao = some ad → ∀ j u, (roomList S n)[j]? = some u → w.cell? (ad.add j) = some u := by
  intro ad e j u hu
  obtain ⟨hj, rfl⟩ := roomList_get hu
  obtain ⟨b, off, e', h0, h1, h2, h3⟩ := h (j / 4) (by omega)
  rw [e] at e'
  simp only [Option.some.injEq] at e'
  subst e'
  rw [Addr.add_lit]
  have hm : j % 4 = 0 ∨ j % 4 = 1 ∨ j % 4 = 2 ∨ j % 4 = 3 := by omega
  rcases hm with hm | hm | hm | hm
  · rw [show off + j = off + j / 4 * 4 by omega, h0]; unfold roomCell; simp [hm]
  · rw [show off + j = off + j / 4 * 4 + 1 by omega, h1]; unfold roomCell; simp [hm]
  · rw [show off + j = off + j / 4 * 4 + 2 by omega, h2]; unfold roomCell; simp [hm]
  · rw [show off + j = off + j / 4 * 4 + 3 by omega, h3]; unfold roomCell; simp [hm]
theorem rooms_of_own {w : World} {base e n c : Nat} {ao : Option Addr} {S : Nat → Room} (h : w.ownsRow base e 4 (.slice ao n c) n (roomList S n)) : RoomsAt w ao n S := by
  intro k hk
  obtain ⟨g, rfl, _, _⟩ := own_addr h (by omega)
  have c0 := own_cell h (k * 4) (by omega) rfl
  rw [roomCell_0] at c0
  have c1 := own_cell h (k * 4 + 1) (by omega) rfl
  rw [roomCell_1] at c1
  have c2 := own_cell h (k * 4 + 2) (by omega) rfl
  rw [roomCell_2] at c2
  have c3 := own_cell h (k * 4 + 3) (by omega) rfl
  rw [roomCell_3] at c3
  exact ⟨g, 0, rfl, by rw [Nat.zero_add]; exact c0, by rw [Nat.zero_add]; exact c1, by rw [Nat.zero_add]; exact c2, by rw [Nat.zero_add]; exact c3⟩
theorem rooms_in {w : World} {ao : Option Addr} {n : Nat} {S : Nat → Room} (h : RoomsAt w ao n S) : n = 0 ∨ ∃ b off, ao = some ⟨b, off, none⟩ ∧ b < w.heap.size := by
  by_cases h0 : n = 0
  · exact .inl h0
  · obtain ⟨b, off, rfl, h1, _⟩ := h 0 (by omega)
    exact .inr ⟨b, off, rfl, World.block_lt_of_cell? w _ h1⟩
end Go.Proofs.YtlelckbeoclhbaaGreat

namespace Go.Proofs.YtlelckbeoclhbaaGreat
open Go.RowKit
structure Seat where
  who : Int
  many : Int
def Seat.zero : Seat := ⟨0, 0⟩
instance : Inhabited Seat := ⟨Seat.zero⟩
def Seat.v (s : Seat) : Value := .agg #[.int .i64 s.who, .int .i64 s.many]
def SeatsAt (w : World) (ao : Option Addr) (n : Nat) (S : Nat → Seat) : Prop :=
  ∀ k, k < n → ∃ b off, ao = some ⟨b, off, none⟩ ∧ w.cell? ⟨b, off + k * 2, none⟩ = some (.int .i64 (S k).who) ∧ w.cell? ⟨b, off + k * 2 + 1, none⟩ = some (.int .i64 (S k).many)
theorem SeatsAt.below {w w' : World} {ao : Option Addr} {n : Nat} {S : Nat → Seat} (h : SeatsAt w ao n S) (hb : Below w.heap.size w w') : SeatsAt w' ao n S := by
  intro k hk
  obtain ⟨b, off, e, h0, h1⟩ := h k hk
  have hlt : b < w.heap.size := World.block_lt_of_cell? w _ h0
  exact ⟨b, off, e, (hb.cell hlt).trans h0, (hb.cell hlt).trans h1⟩
theorem SeatsAt.upto {w : World} {ao : Option Addr} {n i : Nat} {S : Nat → Seat} (h : SeatsAt w ao n S) (hi : i ≤ n) : SeatsAt w ao i S := fun k hk => h k (by omega)
def seatCell (S : Nat → Seat) (j : Nat) : Value :=
  if j % 2 = 0 then .int .i64 (S (j / 2)).who else .int .i64 (S (j / 2)).many
theorem seatCell_0 (S : Nat → Seat) (k : Nat) : seatCell S (k * 2) = .int .i64 (S k).who := by
  unfold seatCell; rw [if_pos (by omega), show k * 2 / 2 = k by omega]
theorem seatCell_1 (S : Nat → Seat) (k : Nat) : seatCell S (k * 2 + 1) = .int .i64 (S k).many := by
  unfold seatCell; rw [if_neg (by omega), show (k * 2 + 1) / 2 = k by omega]
theorem SeatsAt.of_row {w : World} {g t n : Nat} {S : Nat → Seat} (h : w.rowIs g t (n * 2) (seatCell S)) : SeatsAt w (some ⟨g, 0, none⟩) n S := by
  intro k hk
  refine ⟨g, 0, rfl, ?_, ?_⟩
  · rw [Nat.zero_add, h.cell (by omega), seatCell_0]
  · rw [Nat.zero_add, h.cell (by omega), seatCell_1]
theorem made_seats (n : Nat) (j : Nat) (hj : j < n * 2) : (madeCells (Value.agg #[.int .i64 0, .int .i64 0]).cells (n * 2)).toList.getD j (.bool false) = seatCell (fun _ => Seat.zero) j := by
  have hz : (Value.agg #[.int .i64 0, .int .i64 0]).cells = #[.int .i64 0, .int .i64 0] := rfl
  rw [hz]
  simp only [madeCells, Array.toList_map, List.getD_eq_getElem?_getD, List.getElem?_map, Array.toList_range, List.getElem?_range hj, Option.map_some, Option.getD_some]
  unfold seatCell
  have : j % 2 = 0 ∨ j % 2 = 1 := by omega
  rcases this with h | h <;> simp [h, Seat.zero]
theorem seat_set {w : World} {g t n k : Nat} {S S' : Nat → Seat} (h : w.rowIs g t n (seatCell S)) (hS : ∀ i, i ≠ k → S' i = S i) :
    ((w.setCell ⟨g, k * 2, none⟩ (.int .i64 (S' k).who)).setCell ⟨g, k * 2 + 1, none⟩ (.int .i64 (S' k).many)).rowIs g t n (seatCell S') := by
  refine ((h.set (k * 2) _).set (k * 2 + 1) _).congr fun j _ => ?_
  by_cases h1 : j = k * 2 + 1
  · subst h1; rw [if_pos rfl, seatCell_1]
  rw [if_neg h1]
  by_cases h0 : j = k * 2
  · subst h0; rw [if_pos rfl, seatCell_0]
  rw [if_neg h0]
  have hk : j / 2 ≠ k := by omega
  unfold seatCell
  rw [hS _ hk]
def seatList (S : Nat → Seat) (n : Nat) : List Value := (List.range (n * 2)).map (seatCell S)
theorem seatList_length (S : Nat → Seat) (n : Nat) : (seatList S n).length = n * 2 := by simp [seatList]
theorem seatList_get {S : Nat → Seat} {n j : Nat} {u : Value} (h : (seatList S n)[j]? = some u) : j < n * 2 ∧ u = seatCell S j := by
  unfold seatList at h
  rw [List.getElem?_map] at h
  by_cases hj : j < n * 2
  · rw [List.getElem?_range hj] at h; simp at h; exact ⟨hj, h.symm⟩
  · rw [List.getElem?_eq_none (by simpa using hj)] at h; cases h
theorem seatList_one (S : Nat → Seat) (n : Nat) : ∀ u ∈ seatList S n, u.oneCell' = true := by
  intro u hu
  unfold seatList at hu
  simp only [List.mem_map] at hu
  obtain ⟨j, _, rfl⟩ := hu
  unfold seatCell
  repeat' split
  all_goals rfl
theorem seatList_succ (S : Nat → Seat) (k : Nat) : seatList S (k + 1) = seatList S k ++ [.int .i64 (S k).who, .int .i64 (S k).many] := by
  unfold seatList
  rw [show (k + 1) * 2 = k * 2 + 1 + 1 by omega, List.range_succ, List.range_succ]
  simp only [List.map_append, List.map_cons, List.map_nil, List.append_assoc, List.cons_append, List.nil_append, seatCell_0, seatCell_1]
theorem seatList_congr {S S' : Nat → Seat} {n : Nat} (h : ∀ i, i < n → S i = S' i) : seatList S n = seatList S' n := by
  unfold seatList
  refine List.map_congr_left (fun j hj => ?_)
  have hj' : j < n * 2 := by simpa using hj
  unfold seatCell
  rw [h (j / 2) (by omega)]
def seatCat (S : Nat → Seat) (n : Nat) (T : Nat → Seat) (i : Nat) : Seat := if i < n then S i else T (i - n)
theorem seatList_cat (S T : Nat → Seat) (n j : Nat) : seatList (seatCat S n T) (n + j) = seatList S n ++ seatList T j := by
  induction j with
  | zero =>
    have : seatList T 0 = [] := by simp [seatList]
    rw [this, List.append_nil, Nat.add_zero]
    exact seatList_congr (fun i hi => if_pos hi)
  | succ j ih =>
    rw [show n + (j + 1) = n + j + 1 by omega, seatList_succ, seatList_succ, ih, List.append_assoc]
    have : seatCat S n T (n + j) = T j := by unfold seatCat; rw [if_neg (by omega), show n + j - n = j by omega]
    rw [this]
theorem seats_cells {w : World} {ao : Option Addr} {n : Nat} {S : Nat → Seat} (h : SeatsAt w ao n S) : ∀ ad, ao = some ad → ∀ j u, (seatList S n)[j]? = some u → w.cell? (ad.add j) = some u := by
  intro ad e j u hu
  obtain ⟨hj, rfl⟩ := seatList_get hu
  obtain ⟨b, off, e', h0, h1⟩ := h (j / 2) (by omega)
  rw [e] at e'
  simp only [Option.some.injEq] at e'
  subst e'
  rw [Addr.add_lit]
  have hm : j % 2 = 0 ∨ j % 2 = 1 := by omega
  rcases hm with hm | hm
  · rw [show off + j = off + j / 2 * 2 by omega, h0]; unfold seatCell; simp [hm]
  · rw [show off + j = off + j / 2 * 2 + 1 by omega, h1]; unfold seatCell; simp [hm]
theorem seats_of_own {w : World} {base e n c : Nat} {ao : Option Addr} {S : Nat → Seat} (h : w.ownsRow base e 2 (.slice ao n c) n (seatList S n)) : SeatsAt w ao n S := by
  intro k hk
  obtain ⟨g, rfl, _, _⟩ := own_addr h (by omega)
  have c0 := own_cell h (k * 2) (by omega) rfl
  rw [seatCell_0] at c0
  have c1 := own_cell h (k * 2 + 1) (by omega) rfl
  rw [seatCell_1] at c1
  exact ⟨g, 0, rfl, by rw [Nat.zero_add]; exact c0, by rw [Nat.zero_add]; exact c1⟩
theorem seats_in {w : World} {ao : Option Addr} {n : Nat} {S : Nat → Seat} (h : SeatsAt w ao n S) : n = 0 ∨ ∃ b off, ao = some ⟨b, off, none⟩ ∧ b < w.heap.size := by
  by_cases h0 : n = 0
  · exact .inl h0
  · obtain ⟨b, off, rfl, h1, _⟩ := h 0 (by omega)
    exact .inr ⟨b, off, rfl, World.block_lt_of_cell? w _ h1⟩
end Go.Proofs.YtlelckbeoclhbaaGreat
