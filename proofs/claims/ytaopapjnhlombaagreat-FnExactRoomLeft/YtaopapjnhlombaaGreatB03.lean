/-
  OWN TEXT: LStay, KitRoom, InfoRoom.
-/
import Derived.Test.YtaopapjnhlombaaGreatRows
import Derived.Deep.RegionHeld3
import Derived.Test.YtaopapjnhlombaaGreatB02
import Derived.Test.YtaopapjnhlombaaGreatB01
namespace Go.Proofs.YtaopapjnhlombaaGreat
open Go.RowKit

set_option maxHeartbeats 400000 in
theorem toStay_any (a0 : Int) (a1 : Int) (a2 : Int) (a3 : Int) (w : World) :
    Calls Tryz.prog 145 #[.agg #[.int .i64 a0, .int .i64 a1, .int .i64 a2, .int .i64 a3]] w fun e w' => e = .returned (.agg #[.int .i64 a0, .int .i64 a1, .int .i64 a2, .int .i64 a3]) ∧ Below w.heap.size w w' := by
  go_enter Tryz.func145, Tryz.ntmps145
  go_wp2
  exact bodyPost_ret (v := .agg #[.int .i64 a0, .int .i64 a1, .int .i64 a2, .int .i64 a3]) (by simp [results, Tryz.results145, go_sem]) rfl ⟨rfl, push (push (push (Below.refl _ _) _) _) _⟩

set_option maxHeartbeats 400000 in
theorem eqStay_same (a0 : Int) (a1 : Int) (a2 : Int) (a3 : Int) (w : World) :
    Calls Tryz.prog 166 #[.agg #[.int .i64 a0, .int .i64 a1, .int .i64 a2, .int .i64 a3], .agg #[.int .i64 a0, .int .i64 a1, .int .i64 a2, .int .i64 a3]] w fun e w' => e = .returned (.bool true) ∧ Below w.heap.size w w' := by
  go_enter Tryz.func166, Tryz.ntmps166
  go_wp2
  go_ret
  exact ⟨rfl, push (push (Below.refl _ _) _) _⟩

set_option maxHeartbeats 800000 in
set_option maxRecDepth 100000 in
/-- toStayS: a copy in a new row. -/
theorem toStayS_any (ao : Option Addr) (n cap : Nat) (S : Nat → Stay) (w : World) (hn : n ≤ 1048576) (hz : StaysAt w ao n S) :
    Calls Tryz.prog 108 #[.slice ao n cap] w fun e w' => ∃ g, e = .returned (.slice (some ⟨g, 0, none⟩) n n) ∧ w.heap.size ≤ g ∧
      w'.rowIs g 124 (n * 4) (stayCell S) ∧ Below w.heap.size w w' := by
  obtain ⟨i0, hi, hz0, hz1, hz2⟩ := info_parts Tryz.infoStay
  go_enter Tryz.func108, Tryz.ntmps108
  go_wp2_with (first | (at_make; refine wpList_make_full _ rfl _ _ 60 rfl w.heap.size 124 i0 _ 4 Tryz.underlying60 hi hz0 hz1 .i64 .i64 _ _ n rfl rfl rfl rfl (by rw [hz2]; omega) (by unfold maxLen; omega) (Nat.le_refl _) ?_; intro w1 hown1 hgrow1))
  go_loopw [4] (fun i wr => ∃ k : Nat, k ≤ n ∧ i = .int .i64 k ∧ wr.rowIs w.heap.size 124 (n * 4) (stayCell (upto k S Stay.zero)) ∧ Below w.heap.size w wr)
    (fun i _ => n - (intOf i).toNat)
  case atStart => exact ⟨0, Nat.zero_le _, rfl, (row_of_own hown1).congr (fun j hj => made_stays n j hj), (Below.refl _ _).grown hgrow1 (Nat.le_refl _) (by simp)⟩
  case round =>
    obtain ⟨k, hk, rfl, hrow, hbel⟩ := hrel
    clear hown1 hgrow1
    by_cases hlt : k < n
    · obtain ⟨b, off, rfl, h0, h1, h2, h3⟩ := hz k (by omega)
      have hb := World.block_lt_of_cell? w _ h0
      have c0 := (hbel.cell (p := ⟨b, off + k * 4, none⟩) hb).trans h0
      have c1 := (hbel.cell (p := ⟨b, off + k * 4 + 1, none⟩) hb).trans h1
      have c2 := (hbel.cell (p := ⟨b, off + k * 4 + 2, none⟩) hb).trans h2
      have c3 := (hbel.cell (p := ⟨b, off + k * 4 + 3, none⟩) hb).trans h3
      clear h0 h1 h2 h3
      go_wp2_with (first | (go_at_call 145; refine (toStay_any _ _ _ _ _).mono ?_; rintro e w2 ⟨rfl, hb2⟩; have hr2 := hrow.of_block (hb2.block _ hrow.lt); have o0 := hr2.cell (i := k * 4) (by omega); have o1 := hr2.cell (i := k * 4 + 1) (by omega); have o2 := hr2.cell (i := k * 4 + 2) (by omega); have o3 := hr2.cell (i := k * 4 + 3) (by omega); have f0 := hr2.frozen (k * 4); have f1 := hr2.frozen (k * 4 + 1); have f2 := hr2.frozen (k * 4 + 2); have f3 := hr2.frozen (k * 4 + 3)))
      go_roundw
      case rel =>
        refine ⟨k + 1, by omega, by go_num, ?_, ?_⟩
        · have := stay_set (k := k) (S' := upto (k + 1) S Stay.zero) hr2 (fun i h => upto_step _ _ _ _ h)
          simp only [upto_lt _ _ (Nat.lt_succ_self k)] at this
          exact this
        · exact (((((after hbel hb2).setCell (Nat.le_refl _) _).setCell (Nat.le_refl _) _).setCell (Nat.le_refl _) _).setCell (Nat.le_refl _) _)
      case measure => simp [intOf]; omega
    · go_wp2
      go_ret
      exact ⟨_, rfl, Nat.le_refl _, hrow.congr (fun j hj => by unfold stayCell; rw [upto_lt _ _ (by omega)]), hbel⟩

set_option maxHeartbeats 800000 in
set_option maxRecDepth 100000 in
/-- eqStayS at two lists that are one. -/
theorem eqStayS_same (ao bo : Option Addr) (n c1 c2 : Nat) (S : Nat → Stay) (w : World) (hn : n ≤ 2097152) (hx : StaysAt w ao n S) (hy : StaysAt w bo n S) :
    Calls Tryz.prog 135 #[.slice ao n c1, .slice bo n c2] w fun e w' => e = .returned (.bool true) ∧ Below w.heap.size w w' := by
  go_enter Tryz.func135, Tryz.ntmps135
  go_wp2
  go_loopw [5] (fun i wr => ∃ k : Nat, k ≤ n ∧ i = .int .i64 k ∧ Below w.heap.size w wr) (fun i _ => n - (intOf i).toNat)
  case atStart => exact ⟨0, Nat.zero_le _, rfl, Below.refl _ _⟩
  case round =>
    obtain ⟨k, hk, rfl, hbel⟩ := hrel
    by_cases hlt : k < n
    · obtain ⟨b, off, rfl, h0, h1, h2, h3⟩ := hx k (by omega)
      obtain ⟨b2, off2, rfl, g0, g1, g2, g3⟩ := hy k (by omega)
      have hb := World.block_lt_of_cell? w _ h0
      have hb2 := World.block_lt_of_cell? w _ g0
      have c0 := (hbel.cell (p := ⟨b, off + k * 4, none⟩) hb).trans h0
      have d0 := (hbel.cell (p := ⟨b2, off2 + k * 4, none⟩) hb2).trans g0
      have c1 := (hbel.cell (p := ⟨b, off + k * 4 + 1, none⟩) hb).trans h1
      have d1 := (hbel.cell (p := ⟨b2, off2 + k * 4 + 1, none⟩) hb2).trans g1
      have c2 := (hbel.cell (p := ⟨b, off + k * 4 + 2, none⟩) hb).trans h2
      have d2 := (hbel.cell (p := ⟨b2, off2 + k * 4 + 2, none⟩) hb2).trans g2
      have c3 := (hbel.cell (p := ⟨b, off + k * 4 + 3, none⟩) hb).trans h3
      have d3 := (hbel.cell (p := ⟨b2, off2 + k * 4 + 3, none⟩) hb2).trans g3
      clear h0 g0 h1 g1 h2 g2 h3 g3
      have hbw : b < wr.heap.size := Nat.lt_of_lt_of_le hb hbel.size
      have hbw2 : b2 < wr.heap.size := Nat.lt_of_lt_of_le hb2 hbel.size
      have i1 : (0 : Int) ≤ (k : Int) := by omega
      have i2 : (k : Int) < (n : Int) := by omega
      go_wp2
      go_region_held3 (fun w' => w'.cell? ⟨b, off + k * 4, none⟩ = some (.int .i64 (S k).who) ∧ w'.cell? ⟨b, off + k * 4 + 1, none⟩ = some (.int .i64 (S k).ln) ∧ w'.cell? ⟨b, off + k * 4 + 2, none⟩ = some (.int .i64 (S k).len) ∧ w'.cell? ⟨b, off + k * 4 + 3, none⟩ = some (.int .i64 (S k).hei) ∧ w'.cell? ⟨b2, off2 + k * 4, none⟩ = some (.int .i64 (S k).who) ∧ w'.cell? ⟨b2, off2 + k * 4 + 1, none⟩ = some (.int .i64 (S k).ln) ∧ w'.cell? ⟨b2, off2 + k * 4 + 2, none⟩ = some (.int .i64 (S k).len) ∧ w'.cell? ⟨b2, off2 + k * 4 + 3, none⟩ = some (.int .i64 (S k).hei))
        (first | exact ⟨c0, c1, c2, c3, d0, d1, d2, d3⟩ | exact ⟨(hbb.cell hbw).trans c0, (hbb.cell hbw).trans c1, (hbb.cell hbw).trans c2, (hbb.cell hbw).trans c3, (hbb.cell hbw2).trans d0, (hbb.cell hbw2).trans d1, (hbb.cell hbw2).trans d2, (hbb.cell hbw2).trans d3⟩)
        (first | (go_at_call 166; refine (eqStay_same _ _ _ _ _).mono ?_; rintro e w2 ⟨rfl, hbb⟩))
      go_wp2
      go_roundw
      case rel => exact ⟨k + 1, by omega, by go_num, after hbel.drew hbb⟩
      case measure => simp [intOf]; omega
    · go_wp2
      go_ret
      exact ⟨rfl, hbel⟩

set_option maxHeartbeats 400000 in
theorem szStayS_any (ao : Option Addr) (n c : Nat) (L : Int) (w : World) (h0 : 0 ≤ L) (hL : L ≤ 1048576) (hn : n ≤ 1000000000000000) :
    Calls Tryz.prog 91 #[.slice ao n c, .int .i64 L] w fun e w' => ∃ r : Int, e = .returned (.int .i64 r) ∧ (r = -1 ∨ (0 ≤ r ∧ r ≤ L ∧ n ≤ 1048576)) ∧ Below w.heap.size w w' := by
  by_cases h : (n : Int) ≤ L
  · go_enter Tryz.func91, Tryz.ntmps91
    go_wp2
    go_ret
    exact ⟨_, rfl, .inr ⟨by omega, by omega, by omega⟩, Below.refl _ _⟩
  · go_enter Tryz.func91, Tryz.ntmps91
    go_wp2
    go_ret
    exact ⟨_, rfl, .inl rfl, Below.refl _ _⟩

end Go.Proofs.YtaopapjnhlombaaGreat

namespace Go.Proofs.YtaopapjnhlombaaGreat
open Go.RowKit

structure Room where
  who : Int
  cab : Int
  many : Int
  all : Bool
def Room.zero : Room := ⟨0, 0, 0, false⟩
instance : Inhabited Room := ⟨Room.zero⟩
/-- The record as a value. -/
def Room.v (s : Room) : Value := .agg #[.int .i64 s.who, .int .i64 s.cab, .int .i64 s.many, .bool s.all]
/-- The slice at ao reads as n records. -/
def RoomsAt (w : World) (ao : Option Addr) (n : Nat) (S : Nat → Room) : Prop :=
  ∀ k, k < n → ∃ b off, ao = some ⟨b, off, none⟩ ∧ w.cell? ⟨b, off + k * 4, none⟩ = some (.int .i64 (S k).who) ∧ w.cell? ⟨b, off + k * 4 + 1, none⟩ = some (.int .i64 (S k).cab) ∧ w.cell? ⟨b, off + k * 4 + 2, none⟩ = some (.int .i64 (S k).many) ∧ w.cell? ⟨b, off + k * 4 + 3, none⟩ = some (.bool (S k).all)
theorem RoomsAt.below {w w' : World} {ao : Option Addr} {n : Nat} {S : Nat → Room} (h : RoomsAt w ao n S) (hb : Below w.heap.size w w') : RoomsAt w' ao n S := by
  intro k hk
  obtain ⟨b, off, e, h0, h1, h2, h3⟩ := h k hk
  have hlt : b < w.heap.size := World.block_lt_of_cell? w _ h0
  exact ⟨b, off, e, (hb.cell hlt).trans h0, (hb.cell hlt).trans h1, (hb.cell hlt).trans h2, (hb.cell hlt).trans h3⟩
theorem RoomsAt.upto {w : World} {ao : Option Addr} {n i : Nat} {S : Nat → Room} (h : RoomsAt w ao n S) (hi : i ≤ n) : RoomsAt w ao i S := fun k hk => h k (by omega)
/-- The cell j of a row of records. -/
def roomCell (S : Nat → Room) (j : Nat) : Value :=
  if j % 4 = 0 then .int .i64 (S (j / 4)).who else if j % 4 = 1 then .int .i64 (S (j / 4)).cab else if j % 4 = 2 then .int .i64 (S (j / 4)).many else .bool (S (j / 4)).all
theorem roomCell_0 (S : Nat → Room) (k : Nat) : roomCell S (k * 4) = .int .i64 (S k).who := by
  unfold roomCell; rw [if_pos (by omega), show k * 4 / 4 = k by omega]
theorem roomCell_1 (S : Nat → Room) (k : Nat) : roomCell S (k * 4 + 1) = .int .i64 (S k).cab := by
  unfold roomCell; rw [if_neg (by omega), if_pos (by omega), show (k * 4 + 1) / 4 = k by omega]
theorem roomCell_2 (S : Nat → Room) (k : Nat) : roomCell S (k * 4 + 2) = .int .i64 (S k).many := by
  unfold roomCell; rw [if_neg (by omega), if_neg (by omega), if_pos (by omega), show (k * 4 + 2) / 4 = k by omega]
theorem roomCell_3 (S : Nat → Room) (k : Nat) : roomCell S (k * 4 + 3) = .bool (S k).all := by
  unfold roomCell; rw [if_neg (by omega), if_neg (by omega), if_neg (by omega), show (k * 4 + 3) / 4 = k by omega]
theorem RoomsAt.of_row {w : World} {g t n : Nat} {S : Nat → Room} (h : w.rowIs g t (n * 4) (roomCell S)) : RoomsAt w (some ⟨g, 0, none⟩) n S := by
  intro k hk
  refine ⟨g, 0, rfl, ?_, ?_, ?_, ?_⟩
  · rw [Nat.zero_add, h.cell (by omega), roomCell_0]
  · rw [Nat.zero_add, h.cell (by omega), roomCell_1]
  · rw [Nat.zero_add, h.cell (by omega), roomCell_2]
  · rw [Nat.zero_add, h.cell (by omega), roomCell_3]
theorem made_rooms (n : Nat) (j : Nat) (hj : j < n * 4) : (madeCells (Value.agg #[.int .i64 0, .int .i64 0, .int .i64 0, .bool false]).cells (n * 4)).toList.getD j (.bool false) = roomCell (fun _ => Room.zero) j := by
  have hz : (Value.agg #[.int .i64 0, .int .i64 0, .int .i64 0, .bool false]).cells = #[.int .i64 0, .int .i64 0, .int .i64 0, .bool false] := rfl
  rw [hz]
  simp only [madeCells, Array.toList_map, List.getD_eq_getElem?_getD, List.getElem?_map, Array.toList_range, List.getElem?_range hj, Option.map_some, Option.getD_some]
  unfold roomCell
  have : j % 4 = 0 ∨ j % 4 = 1 ∨ j % 4 = 2 ∨ j % 4 = 3 := by omega
  rcases this with h | h | h | h <;> simp [h, Room.zero]
/-- A record is stored into a row. -/
theorem room_set {w : World} {g t n k : Nat} {S S' : Nat → Room} (h : w.rowIs g t n (roomCell S)) (hS : ∀ i, i ≠ k → S' i = S i) :
    ((((w.setCell ⟨g, k * 4, none⟩ (.int .i64 (S' k).who)).setCell ⟨g, k * 4 + 1, none⟩ (.int .i64 (S' k).cab)).setCell ⟨g, k * 4 + 2, none⟩ (.int .i64 (S' k).many)).setCell ⟨g, k * 4 + 3, none⟩ (.bool (S' k).all)).rowIs g t n (roomCell S') := by
  refine ((((h.set (k * 4) _).set (k * 4 + 1) _).set (k * 4 + 2) _).set (k * 4 + 3) _).congr fun j _ => ?_
  by_cases h3 : j = k * 4 + 3
  · subst h3; rw [if_pos rfl, roomCell_3]
  rw [if_neg h3]
  by_cases h2 : j = k * 4 + 2
  · subst h2; rw [if_pos rfl, roomCell_2]
  rw [if_neg h2]
  by_cases h1 : j = k * 4 + 1
  · subst h1; rw [if_pos rfl, roomCell_1]
  rw [if_neg h1]
  by_cases h0 : j = k * 4
  · subst h0; rw [if_pos rfl, roomCell_0]
  rw [if_neg h0]
  have hk : j / 4 ≠ k := by omega
  unfold roomCell
  rw [hS _ hk]
/-- The cells of the first n records. -/
def roomList (S : Nat → Room) (n : Nat) : List Value := (List.range (n * 4)).map (roomCell S)
theorem roomList_length (S : Nat → Room) (n : Nat) : (roomList S n).length = n * 4 := by simp [roomList]
theorem roomList_get {S : Nat → Room} {n j : Nat} {u : Value} (h : (roomList S n)[j]? = some u) : j < n * 4 ∧ u = roomCell S j := by
  unfold roomList at h
  rw [List.getElem?_map] at h
  by_cases hj : j < n * 4
  · rw [List.getElem?_range hj] at h; simp at h; exact ⟨hj, h.symm⟩
  · rw [List.getElem?_eq_none (by simpa using hj)] at h; cases h
theorem roomList_one (S : Nat → Room) (n : Nat) : ∀ u ∈ roomList S n, u.oneCell' = true := by
  intro u hu
  unfold roomList at hu
  simp only [List.mem_map] at hu
  obtain ⟨j, _, rfl⟩ := hu
  unfold roomCell
  repeat' split
  all_goals rfl
theorem roomList_succ (S : Nat → Room) (k : Nat) : roomList S (k + 1) = roomList S k ++ [.int .i64 (S k).who, .int .i64 (S k).cab, .int .i64 (S k).many, .bool (S k).all] := by
  unfold roomList
  rw [show (k + 1) * 4 = k * 4 + 1 + 1 + 1 + 1 by omega, List.range_succ, List.range_succ, List.range_succ, List.range_succ]
  simp only [List.map_append, List.map_cons, List.map_nil, List.append_assoc, List.cons_append, List.nil_append, roomCell_0, roomCell_1, roomCell_2, roomCell_3]
theorem roomList_congr {S S' : Nat → Room} {n : Nat} (h : ∀ i, i < n → S i = S' i) : roomList S n = roomList S' n := by
  unfold roomList
  refine List.map_congr_left (fun j hj => ?_)
  have hj' : j < n * 4 := by simpa using hj
  unfold roomCell
  rw [h (j / 4) (by omega)]
/-- n records of S and then those of T. -/
def roomCat (S : Nat → Room) (n : Nat) (T : Nat → Room) (i : Nat) : Room := if i < n then S i else T (i - n)
theorem roomList_cat (S T : Nat → Room) (n j : Nat) : roomList (roomCat S n T) (n + j) = roomList S n ++ roomList T j := by
  induction j with
  | zero =>
    have : roomList T 0 = [] := by simp [roomList]
    rw [this, List.append_nil, Nat.add_zero]
    exact roomList_congr (fun i hi => if_pos hi)
  | succ j ih =>
    rw [show n + (j + 1) = n + j + 1 by omega, roomList_succ, roomList_succ, ih, List.append_assoc]
    have : roomCat S n T (n + j) = T j := by unfold roomCat; rw [if_neg (by omega), show n + j - n = j by omega]
    rw [this]
/-- The cells of a list, read at its address. -/
theorem rooms_cells {w : World} {ao : Option Addr} {n : Nat} {S : Nat → Room} (h : RoomsAt w ao n S) : ∀ ad, ao = some ad → ∀ j u, (roomList S n)[j]? = some u → w.cell? (ad.add j) = some u := by
  intro ad e j u hu
  obtain ⟨hj, rfl⟩ := roomList_get hu
  obtain ⟨b, off, e', h0, h1, h2, h3⟩ := h (j / 4) (by omega)
  rw [e] at e'
  simp only [Option.some.injEq] at e'
  subst e'
  rw [Addr.add_lit]
  have hm : j % 4 = 0 ∨ j % 4 = 1 ∨ j % 4 = 2 ∨ j % 4 = 3 := by omega
  rcases hm with hm | hm | hm | hm
  · rw [show off + j = off + j / 4 * 4 by omega, h0]; unfold roomCell; simp [hm]
  · rw [show off + j = off + j / 4 * 4 + 1 by omega, h1]; unfold roomCell; simp [hm]
  · rw [show off + j = off + j / 4 * 4 + 2 by omega, h2]; unfold roomCell; simp [hm]
  · rw [show off + j = off + j / 4 * 4 + 3 by omega, h3]; unfold roomCell; simp [hm]
theorem rooms_of_own {w : World} {base e n c : Nat} {ao : Option Addr} {S : Nat → Room} (h : w.ownsRow base e 4 (.slice ao n c) n (roomList S n)) : RoomsAt w ao n S := by
  intro k hk
  obtain ⟨g, rfl, _, _⟩ := own_addr h (by omega)
  have c0 := own_cell h (k * 4) (by omega) rfl
  rw [roomCell_0] at c0
  have c1 := own_cell h (k * 4 + 1) (by omega) rfl
  rw [roomCell_1] at c1
  have c2 := own_cell h (k * 4 + 2) (by omega) rfl
  rw [roomCell_2] at c2
  have c3 := own_cell h (k * 4 + 3) (by omega) rfl
  rw [roomCell_3] at c3
  exact ⟨g, 0, rfl, by rw [Nat.zero_add]; exact c0, by rw [Nat.zero_add]; exact c1, by rw [Nat.zero_add]; exact c2, by rw [Nat.zero_add]; exact c3⟩
/-- Records with their address written out. -/
theorem rooms_in {w : World} {ao : Option Addr} {n : Nat} {S : Nat → Room} (h : RoomsAt w ao n S) : n = 0 ∨ ∃ b off, ao = some ⟨b, off, none⟩ ∧ b < w.heap.size := by
  by_cases h0 : n = 0
  · exact .inl h0
  · obtain ⟨b, off, rfl, h1, _⟩ := h 0 (by omega)
    exact .inr ⟨b, off, rfl, World.block_lt_of_cell? w _ h1⟩

end Go.Proofs.YtaopapjnhlombaaGreat

namespace Go.Proofs.YtaopapjnhlombaaGreat
open Go.RowKit

theorem Tryz.infoRoom : (Tryz.prog.info? 128).map (fun i => (i.zero, i.size, i.bytes)) = some (some (.agg #[.int .i64 0, .int .i64 0, .int .i64 0, .bool false]), 4, 32) := by kernel_rfl

end Go.Proofs.YtaopapjnhlombaaGreat
