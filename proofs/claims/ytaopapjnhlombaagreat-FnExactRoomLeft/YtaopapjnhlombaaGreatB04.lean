/-
  OWN TEXT: LRoom, KitSeat, InfoSeat.
-/
import Derived.Test.YtaopapjnhlombaaGreatRows
import Derived.Deep.RegionHeld3
import Derived.Test.YtaopapjnhlombaaGreatB03
import Derived.Test.YtaopapjnhlombaaGreatB01
namespace Go.Proofs.YtaopapjnhlombaaGreat
open Go.RowKit

set_option maxHeartbeats 400000 in
theorem toRoom_any (a0 : Int) (a1 : Int) (a2 : Int) (a3 : Bool) (w : World) :
    Calls Tryz.prog 146 #[.agg #[.int .i64 a0, .int .i64 a1, .int .i64 a2, .bool a3]] w fun e w' => e = .returned (.agg #[.int .i64 a0, .int .i64 a1, .int .i64 a2, .bool a3]) ∧ Below w.heap.size w w' := by
  go_enter Tryz.func146, Tryz.ntmps146
  go_wp2
  exact bodyPost_ret (v := .agg #[.int .i64 a0, .int .i64 a1, .int .i64 a2, .bool a3]) (by simp [results, Tryz.results146, go_sem]) rfl ⟨rfl, push (push (push (Below.refl _ _) _) _) _⟩

set_option maxHeartbeats 400000 in
theorem eqRoom_same (a0 : Int) (a1 : Int) (a2 : Int) (a3 : Bool) (w : World) :
    Calls Tryz.prog 167 #[.agg #[.int .i64 a0, .int .i64 a1, .int .i64 a2, .bool a3], .agg #[.int .i64 a0, .int .i64 a1, .int .i64 a2, .bool a3]] w fun e w' => e = .returned (.bool true) ∧ Below w.heap.size w w' := by
  go_enter Tryz.func167, Tryz.ntmps167
  go_wp2
  go_ret
  exact ⟨rfl, push (push (Below.refl _ _) _) _⟩

set_option maxHeartbeats 800000 in
set_option maxRecDepth 100000 in
/-- toRoomS: a copy in a new row. -/
theorem toRoomS_any (ao : Option Addr) (n cap : Nat) (S : Nat → Room) (w : World) (hn : n ≤ 1048576) (hz : RoomsAt w ao n S) :
    Calls Tryz.prog 109 #[.slice ao n cap] w fun e w' => ∃ g, e = .returned (.slice (some ⟨g, 0, none⟩) n n) ∧ w.heap.size ≤ g ∧
      w'.rowIs g 128 (n * 4) (roomCell S) ∧ Below w.heap.size w w' := by
  obtain ⟨i0, hi, hz0, hz1, hz2⟩ := info_parts Tryz.infoRoom
  go_enter Tryz.func109, Tryz.ntmps109
  go_wp2_with (first | (at_make; refine wpList_make_full _ rfl _ _ 61 rfl w.heap.size 128 i0 _ 4 Tryz.underlying61 hi hz0 hz1 .i64 .i64 _ _ n rfl rfl rfl rfl (by rw [hz2]; omega) (by unfold maxLen; omega) (Nat.le_refl _) ?_; intro w1 hown1 hgrow1))
  go_loopw [4] (fun i wr => ∃ k : Nat, k ≤ n ∧ i = .int .i64 k ∧ wr.rowIs w.heap.size 128 (n * 4) (roomCell (upto k S Room.zero)) ∧ Below w.heap.size w wr)
    (fun i _ => n - (intOf i).toNat)
  case atStart => exact ⟨0, Nat.zero_le _, rfl, (row_of_own hown1).congr (fun j hj => made_rooms n j hj), (Below.refl _ _).grown hgrow1 (Nat.le_refl _) (by simp)⟩
  case round =>
    obtain ⟨k, hk, rfl, hrow, hbel⟩ := hrel
    clear hown1 hgrow1
    by_cases hlt : k < n
    · obtain ⟨b, off, rfl, h0, h1, h2, h3⟩ := hz k (by omega)
      have hb := World.block_lt_of_cell? w _ h0
      have c0 := (hbel.cell (p := ⟨b, off + k * 4, none⟩) hb).trans h0
      have c1 := (hbel.cell (p := ⟨b, off + k * 4 + 1, none⟩) hb).trans h1
      have c2 := (hbel.cell (p := ⟨b, off + k * 4 + 2, none⟩) hb).trans h2
      have c3 := (hbel.cell (p := ⟨b, off + k * 4 + 3, none⟩) hb).trans h3
      clear h0 h1 h2 h3
      go_wp2_with (first | (go_at_call 146; refine (toRoom_any _ _ _ _ _).mono ?_; rintro e w2 ⟨rfl, hb2⟩; have hr2 := hrow.of_block (hb2.block _ hrow.lt); have o0 := hr2.cell (i := k * 4) (by omega); have o1 := hr2.cell (i := k * 4 + 1) (by omega); have o2 := hr2.cell (i := k * 4 + 2) (by omega); have o3 := hr2.cell (i := k * 4 + 3) (by omega); have f0 := hr2.frozen (k * 4); have f1 := hr2.frozen (k * 4 + 1); have f2 := hr2.frozen (k * 4 + 2); have f3 := hr2.frozen (k * 4 + 3)))
      go_roundw
      case rel =>
        refine ⟨k + 1, by omega, by go_num, ?_, ?_⟩
        · have := room_set (k := k) (S' := upto (k + 1) S Room.zero) hr2 (fun i h => upto_step _ _ _ _ h)
          simp only [upto_lt _ _ (Nat.lt_succ_self k)] at this
          exact this
        · exact (((((after hbel hb2).setCell (Nat.le_refl _) _).setCell (Nat.le_refl _) _).setCell (Nat.le_refl _) _).setCell (Nat.le_refl _) _)
      case measure => simp [intOf]; omega
    · go_wp2
      go_ret
      exact ⟨_, rfl, Nat.le_refl _, hrow.congr (fun j hj => by unfold roomCell; rw [upto_lt _ _ (by omega)]), hbel⟩

set_option maxHeartbeats 800000 in
set_option maxRecDepth 100000 in
/-- eqRoomS at two lists that are one. -/
theorem eqRoomS_same (ao bo : Option Addr) (n c1 c2 : Nat) (S : Nat → Room) (w : World) (hn : n ≤ 2097152) (hx : RoomsAt w ao n S) (hy : RoomsAt w bo n S) :
    Calls Tryz.prog 136 #[.slice ao n c1, .slice bo n c2] w fun e w' => e = .returned (.bool true) ∧ Below w.heap.size w w' := by
  go_enter Tryz.func136, Tryz.ntmps136
  go_wp2
  go_loopw [5] (fun i wr => ∃ k : Nat, k ≤ n ∧ i = .int .i64 k ∧ Below w.heap.size w wr) (fun i _ => n - (intOf i).toNat)
  case atStart => exact ⟨0, Nat.zero_le _, rfl, Below.refl _ _⟩
  case round =>
    obtain ⟨k, hk, rfl, hbel⟩ := hrel
    by_cases hlt : k < n
    · obtain ⟨b, off, rfl, h0, h1, h2, h3⟩ := hx k (by omega)
      obtain ⟨b2, off2, rfl, g0, g1, g2, g3⟩ := hy k (by omega)
      have hb := World.block_lt_of_cell? w _ h0
      have hb2 := World.block_lt_of_cell? w _ g0
      have c0 := (hbel.cell (p := ⟨b, off + k * 4, none⟩) hb).trans h0
      have d0 := (hbel.cell (p := ⟨b2, off2 + k * 4, none⟩) hb2).trans g0
      have c1 := (hbel.cell (p := ⟨b, off + k * 4 + 1, none⟩) hb).trans h1
      have d1 := (hbel.cell (p := ⟨b2, off2 + k * 4 + 1, none⟩) hb2).trans g1
      have c2 := (hbel.cell (p := ⟨b, off + k * 4 + 2, none⟩) hb).trans h2
      have d2 := (hbel.cell (p := ⟨b2, off2 + k * 4 + 2, none⟩) hb2).trans g2
      have c3 := (hbel.cell (p := ⟨b, off + k * 4 + 3, none⟩) hb).trans h3
      have d3 := (hbel.cell (p := ⟨b2, off2 + k * 4 + 3, none⟩) hb2).trans g3
      clear h0 g0 h1 g1 h2 g2 h3 g3
      have hbw : b < wr.heap.size := Nat.lt_of_lt_of_le hb hbel.size
      have hbw2 : b2 < wr.heap.size := Nat.lt_of_lt_of_le hb2 hbel.size
      have i1 : (0 : Int) ≤ (k : Int) := by omega
      have i2 : (k : Int) < (n : Int) := by omega
      go_wp2
      go_region_held3 (fun w' => w'.cell? ⟨b, off + k * 4, none⟩ = some (.int .i64 (S k).who) ∧ w'.cell? ⟨b, off + k * 4 + 1, none⟩ = some (.int .i64 (S k).cab) ∧ w'.cell? ⟨b, off + k * 4 + 2, none⟩ = some (.int .i64 (S k).many) ∧ w'.cell? ⟨b, off + k * 4 + 3, none⟩ = some (.bool (S k).all) ∧ w'.cell? ⟨b2, off2 + k * 4, none⟩ = some (.int .i64 (S k).who) ∧ w'.cell? ⟨b2, off2 + k * 4 + 1, none⟩ = some (.int .i64 (S k).cab) ∧ w'.cell? ⟨b2, off2 + k * 4 + 2, none⟩ = some (.int .i64 (S k).many) ∧ w'.cell? ⟨b2, off2 + k * 4 + 3, none⟩ = some (.bool (S k).all))
        (first | exact ⟨c0, c1, c2, c3, d0, d1, d2, d3⟩ | exact ⟨(hbb.cell hbw).trans c0, (hbb.cell hbw).trans c1, (hbb.cell hbw).trans c2, (hbb.cell hbw).trans c3, (hbb.cell hbw2).trans d0, (hbb.cell hbw2).trans d1, (hbb.cell hbw2).trans d2, (hbb.cell hbw2).trans d3⟩)
        (first | (go_at_call 167; refine (eqRoom_same _ _ _ _ _).mono ?_; rintro e w2 ⟨rfl, hbb⟩))
      go_wp2
      go_roundw
      case rel => exact ⟨k + 1, by omega, by go_num, after hbel.drew hbb⟩
      case measure => simp [intOf]; omega
    · go_wp2
      go_ret
      exact ⟨rfl, hbel⟩

set_option maxHeartbeats 400000 in
theorem szRoomS_any (ao : Option Addr) (n c : Nat) (L : Int) (w : World) (h0 : 0 ≤ L) (hL : L ≤ 1048576) (hn : n ≤ 1000000000000000) :
    Calls Tryz.prog 92 #[.slice ao n c, .int .i64 L] w fun e w' => ∃ r : Int, e = .returned (.int .i64 r) ∧ (r = -1 ∨ (0 ≤ r ∧ r ≤ L ∧ n ≤ 1048576)) ∧ Below w.heap.size w w' := by
  by_cases h : (n : Int) ≤ L
  · go_enter Tryz.func92, Tryz.ntmps92
    go_wp2
    go_ret
    exact ⟨_, rfl, .inr ⟨by omega, by omega, by omega⟩, Below.refl _ _⟩
  · go_enter Tryz.func92, Tryz.ntmps92
    go_wp2
    go_ret
    exact ⟨_, rfl, .inl rfl, Below.refl _ _⟩

end Go.Proofs.YtaopapjnhlombaaGreat

namespace Go.Proofs.YtaopapjnhlombaaGreat
open Go.RowKit

structure Seat where
  who : Int
  many : Int
def Seat.zero : Seat := ⟨0, 0⟩
instance : Inhabited Seat := ⟨Seat.zero⟩
/-- The record as a value. -/
def Seat.v (s : Seat) : Value := .agg #[.int .i64 s.who, .int .i64 s.many]
/-- The slice at ao reads as n records. -/
def SeatsAt (w : World) (ao : Option Addr) (n : Nat) (S : Nat → Seat) : Prop :=
  ∀ k, k < n → ∃ b off, ao = some ⟨b, off, none⟩ ∧ w.cell? ⟨b, off + k * 2, none⟩ = some (.int .i64 (S k).who) ∧ w.cell? ⟨b, off + k * 2 + 1, none⟩ = some (.int .i64 (S k).many)
theorem SeatsAt.below {w w' : World} {ao : Option Addr} {n : Nat} {S : Nat → Seat} (h : SeatsAt w ao n S) (hb : Below w.heap.size w w') : SeatsAt w' ao n S := by
  intro k hk
  obtain ⟨b, off, e, h0, h1⟩ := h k hk
  have hlt : b < w.heap.size := World.block_lt_of_cell? w _ h0
  exact ⟨b, off, e, (hb.cell hlt).trans h0, (hb.cell hlt).trans h1⟩
theorem SeatsAt.upto {w : World} {ao : Option Addr} {n i : Nat} {S : Nat → Seat} (h : SeatsAt w ao n S) (hi : i ≤ n) : SeatsAt w ao i S := fun k hk => h k (by omega)
/-- The cell j of a row of records. -/
def seatCell (S : Nat → Seat) (j : Nat) : Value :=
  if j % 2 = 0 then .int .i64 (S (j / 2)).who else .int .i64 (S (j / 2)).many
theorem seatCell_0 (S : Nat → Seat) (k : Nat) : seatCell S (k * 2) = .int .i64 (S k).who := by
  unfold seatCell; rw [if_pos (by omega), show k * 2 / 2 = k by omega]
theorem seatCell_1 (S : Nat → Seat) (k : Nat) : seatCell S (k * 2 + 1) = .int .i64 (S k).many := by
  unfold seatCell; rw [if_neg (by omega), show (k * 2 + 1) / 2 = k by omega]
theorem SeatsAt.of_row {w : World} {g t n : Nat} {S : Nat → Seat} (h : w.rowIs g t (n * 2) (seatCell S)) : SeatsAt w (some ⟨g, 0, none⟩) n S := by
  intro k hk
  refine ⟨g, 0, rfl, ?_, ?_⟩
  · rw [Nat.zero_add, h.cell (by omega), seatCell_0]
  · rw [Nat.zero_add, h.cell (by omega), seatCell_1]
theorem made_seats (n : Nat) (j : Nat) (hj : j < n * 2) : (madeCells (Value.agg #[.int .i64 0, .int .i64 0]).cells (n * 2)).toList.getD j (.bool false) = seatCell (fun _ => Seat.zero) j := by
  have hz : (Value.agg #[.int .i64 0, .int .i64 0]).cells = #[.int .i64 0, .int .i64 0] := rfl
  rw [hz]
  simp only [madeCells, Array.toList_map, List.getD_eq_getElem?_getD, List.getElem?_map, Array.toList_range, List.getElem?_range hj, Option.map_some, Option.getD_some]
  unfold seatCell
  have : j % 2 = 0 ∨ j % 2 = 1 := by omega
  rcases this with h | h <;> simp [h, Seat.zero]
/-- A record is stored into a row. -/
theorem seat_set {w : World} {g t n k : Nat} {S S' : Nat → Seat} (h : w.rowIs g t n (seatCell S)) (hS : ∀ i, i ≠ k → S' i = S i) :
    ((w.setCell ⟨g, k * 2, none⟩ (.int .i64 (S' k).who)).setCell ⟨g, k * 2 + 1, none⟩ (.int .i64 (S' k).many)).rowIs g t n (seatCell S') := by
  refine ((h.set (k * 2) _).set (k * 2 + 1) _).congr fun j _ => ?_
  by_cases h1 : j = k * 2 + 1
  · subst h1; rw [if_pos rfl, seatCell_1]
  rw [if_neg h1]
  by_cases h0 : j = k * 2
  · subst h0; rw [if_pos rfl, seatCell_0]
  rw [if_neg h0]
  have hk : j / 2 ≠ k := by omega
  unfold seatCell
  rw [hS _ hk]
/-- The cells of the first n records. -/
def seatList (S : Nat → Seat) (n : Nat) : List Value := (List.range (n * 2)).map (seatCell S)
theorem seatList_length (S : Nat → Seat) (n : Nat) : (seatList S n).length = n * 2 := by simp [seatList]
theorem seatList_get {S : Nat → Seat} {n j : Nat} {u : Value} (h : (seatList S n)[j]? = some u) : j < n * 2 ∧ u = seatCell S j := by
  unfold seatList at h
  rw [List.getElem?_map] at h
  by_cases hj : j < n * 2
  · rw [List.getElem?_range hj] at h; simp at h; exact ⟨hj, h.symm⟩
  · rw [List.getElem?_eq_none (by simpa using hj)] at h; cases h
theorem seatList_one (S : Nat → Seat) (n : Nat) : ∀ u ∈ seatList S n, u.oneCell' = true := by
  intro u hu
  unfold seatList at hu
  simp only [List.mem_map] at hu
  obtain ⟨j, _, rfl⟩ := hu
  unfold seatCell
  repeat' split
  all_goals rfl
theorem seatList_succ (S : Nat → Seat) (k : Nat) : seatList S (k + 1) = seatList S k ++ [.int .i64 (S k).who, .int .i64 (S k).many] := by
  unfold seatList
  rw [show (k + 1) * 2 = k * 2 + 1 + 1 by omega, List.range_succ, List.range_succ]
  simp only [List.map_append, List.map_cons, List.map_nil, List.append_assoc, List.cons_append, List.nil_append, seatCell_0, seatCell_1]
theorem seatList_congr {S S' : Nat → Seat} {n : Nat} (h : ∀ i, i < n → S i = S' i) : seatList S n = seatList S' n := by
  unfold seatList
  refine List.map_congr_left (fun j hj => ?_)
  have hj' : j < n * 2 := by simpa using hj
  unfold seatCell
  rw [h (j / 2) (by omega)]
/-- n records of S and then those of T. -/
def seatCat (S : Nat → Seat) (n : Nat) (T : Nat → Seat) (i : Nat) : Seat := if i < n then S i else T (i - n)
theorem seatList_cat (S T : Nat → Seat) (n j : Nat) : seatList (seatCat S n T) (n + j) = seatList S n ++ seatList T j := by
  induction j with
  | zero =>
    have : seatList T 0 = [] := by simp [seatList]
    rw [this, List.append_nil, Nat.add_zero]
    exact seatList_congr (fun i hi => if_pos hi)
  | succ j ih =>
    rw [show n + (j + 1) = n + j + 1 by omega, seatList_succ, seatList_succ, ih, List.append_assoc]
    have : seatCat S n T (n + j) = T j := by unfold seatCat; rw [if_neg (by omega), show n + j - n = j by omega]
    rw [this]
/-- The cells of a list, read at its address. -/
theorem seats_cells {w : World} {ao : Option Addr} {n : Nat} {S : Nat → Seat} (h : SeatsAt w ao n S) : ∀ ad, ao = some ad → ∀ j u, (seatList S n)[j]? = some u → w.cell? (ad.add j) = some u := by
  intro ad e j u hu
  obtain ⟨hj, rfl⟩ := seatList_get hu
  obtain ⟨b, off, e', h0, h1⟩ := h (j / 2) (by omega)
  rw [e] at e'
  simp only [Option.some.injEq] at e'
  subst e'
  rw [Addr.add_lit]
  have hm : j % 2 = 0 ∨ j % 2 = 1 := by omega
  rcases hm with hm | hm
  · rw [show off + j = off + j / 2 * 2 by omega, h0]; unfold seatCell; simp [hm]
  · rw [show off + j = off + j / 2 * 2 + 1 by omega, h1]; unfold seatCell; simp [hm]
theorem seats_of_own {w : World} {base e n c : Nat} {ao : Option Addr} {S : Nat → Seat} (h : w.ownsRow base e 2 (.slice ao n c) n (seatList S n)) : SeatsAt w ao n S := by
  intro k hk
  obtain ⟨g, rfl, _, _⟩ := own_addr h (by omega)
  have c0 := own_cell h (k * 2) (by omega) rfl
  rw [seatCell_0] at c0
  have c1 := own_cell h (k * 2 + 1) (by omega) rfl
  rw [seatCell_1] at c1
  exact ⟨g, 0, rfl, by rw [Nat.zero_add]; exact c0, by rw [Nat.zero_add]; exact c1⟩
/-- Records with their address written out. -/
theorem seats_in {w : World} {ao : Option Addr} {n : Nat} {S : Nat → Seat} (h : SeatsAt w ao n S) : n = 0 ∨ ∃ b off, ao = some ⟨b, off, none⟩ ∧ b < w.heap.size := by
  by_cases h0 : n = 0
  · exact .inl h0
  · obtain ⟨b, off, rfl, h1, _⟩ := h 0 (by omega)
    exact .inr ⟨b, off, rfl, World.block_lt_of_cell? w _ h1⟩

end Go.Proofs.YtaopapjnhlombaaGreat

namespace Go.Proofs.YtaopapjnhlombaaGreat
open Go.RowKit

theorem Tryz.infoSeat : (Tryz.prog.info? 130).map (fun i => (i.zero, i.size, i.bytes)) = some (some (.agg #[.int .i64 0, .int .i64 0]), 2, 16) := by kernel_rfl

end Go.Proofs.YtaopapjnhlombaaGreat
