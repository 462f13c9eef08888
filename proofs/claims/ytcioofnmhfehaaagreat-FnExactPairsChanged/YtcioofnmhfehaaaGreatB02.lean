/-
  OWN TEXT: EqStay, KitRoom, EqRoom.
-/
import Derived.Test.YtcioofnmhfehaaaGreatRows
import Derived.Deep.RegionHeld3
import Derived.Deep.DeepCutAuto
import Derived.Test.YtcioofnmhfehaaaGreatB01
import Derived.Test.YtcioofnmhfehaaaGreatB00
namespace Go.Proofs.YtcioofnmhfehaaaGreat
open Go.RowKit Classical

set_option maxHeartbeats 800000 in
theorem stay_neq (a b : Stay) (w : World) : (binOp .neq 57 (.agg #[.int .i64 a.who, .int .i64 a.ln, .int .i64 a.len, .int .i64 a.hei]) (.agg #[.int .i64 b.who, .int .i64 b.ln, .int .i64 b.len, .int .i64 b.hei])).run Tryz.prog w = .ok (.bool (!decide (a = b))) w := by
  obtain ⟨a0, a1, a2, a3⟩ := a
  obtain ⟨b0, b1, b2, b3⟩ := b
  simp only [Stay.mk.injEq]
  by_cases h0 : a0 = b0
  case neg => go_simp
  subst h0
  by_cases h1 : a1 = b1
  case neg => go_simp
  subst h1
  by_cases h2 : a2 = b2
  case neg => go_simp
  subst h2
  by_cases h3 : a3 = b3
  case neg => go_simp
  subst h3
  go_simp

/-- The first n of two lists are alike. -/
def staysAlike (n m : Nat) (S T : Nat → Stay) : Prop := n = m ∧ ∀ i, i < n → S i = T i

set_option maxHeartbeats 1600000 in
set_option maxRecDepth 100000 in
theorem equalStay_any (ao bo : Option Addr) (n c m d : Nat) (S T : Nat → Stay) (w : World) (hn : n ≤ 1048576) (hm : m ≤ 1048576) (hx : StaysAt w ao n S) (hy : StaysAt w bo m T) :
    Calls Tryz.prog 73 #[.slice ao n c, .slice bo m d] w fun e w' => e = .returned (.bool (decide (staysAlike n m S T))) ∧ Below w.heap.size w w' := by
  by_cases hnm : n = m
  case neg =>
    have e1 : decide (staysAlike n m S T) = false := decide_eq_false (fun h => hnm h.1)
    rw [e1]
    have e2 : ((n : Int) = (m : Int)) = False := by simp; omega
    go_enter Tryz.func73, Tryz.ntmps73
    go_wp2
    go_ret
    exact ⟨rfl, Below.refl _ _⟩
  subst hnm
  have HX : Hid (StaysAt w ao n S) := hx
  have HY : Hid (StaysAt w bo n T) := hy
  clear hx hy
  obtain ⟨q, hq⟩ : ∃ q : Bool, q = decide (staysAlike n n S T) := ⟨_, rfl⟩
  have HQ : Hid (q = true ↔ ∀ i, i < n → S i = T i) := by rw [hq]; exact ⟨fun h => (of_decide_eq_true h).2, fun h => decide_eq_true ⟨rfl, h⟩⟩
  rw [← hq]
  clear hq
  go_enter Tryz.func73, Tryz.ntmps73
  go_wp2
  go_loopw [5, 13] (fun _ i wr => ∃ k : Nat, k ≤ n ∧ i = .int .i64 k ∧ (∀ j, j < k → S j = T j) ∧ Below w.heap.size w wr) (fun _ i _ => n - (intOf i).toNat)
  case atStart => exact ⟨0, Nat.zero_le _, rfl, fun j hj => absurd hj (Nat.not_lt_zero _), Below.refl _ _⟩
  case round =>
    obtain ⟨k, hk, rfl, hal, hbel⟩ := hrel
    have HA : Hid (∀ j, j < k → S j = T j) := hal
    clear hal
    by_cases hlt : k < n
    · obtain ⟨b, off, rfl, g0, g1, g2, g3⟩ := HX.out k hlt
      obtain ⟨b2, off2, rfl, f0, f1, f2, f3⟩ := HY.out k hlt
      have l1 : b < w.heap.size := World.block_lt_of_cell? w _ g0
      have l2 : b2 < w.heap.size := World.block_lt_of_cell? w _ f0
      have i1 : (0 : Int) ≤ (k : Int) := by omega
      have i2 : (k : Int) < (n : Int) := by omega
      have z0 : ∀ g : Grown wr, g.val.cell? ⟨b, off + k * 4, none⟩ = some (.int .i64 (S k).who) := fun g => ((hbel.trans (g.bel.mono hbel.size)).cell (p := ⟨b, off + k * 4, none⟩) l1).trans g0
      have y0 : ∀ g : Grown wr, g.val.cell? ⟨b2, off2 + k * 4, none⟩ = some (.int .i64 (T k).who) := fun g => ((hbel.trans (g.bel.mono hbel.size)).cell (p := ⟨b2, off2 + k * 4, none⟩) l2).trans f0
      have z1 : ∀ g : Grown wr, g.val.cell? ⟨b, off + k * 4 + 1, none⟩ = some (.int .i64 (S k).ln) := fun g => ((hbel.trans (g.bel.mono hbel.size)).cell (p := ⟨b, off + k * 4 + 1, none⟩) l1).trans g1
      have y1 : ∀ g : Grown wr, g.val.cell? ⟨b2, off2 + k * 4 + 1, none⟩ = some (.int .i64 (T k).ln) := fun g => ((hbel.trans (g.bel.mono hbel.size)).cell (p := ⟨b2, off2 + k * 4 + 1, none⟩) l2).trans f1
      have z2 : ∀ g : Grown wr, g.val.cell? ⟨b, off + k * 4 + 2, none⟩ = some (.int .i64 (S k).len) := fun g => ((hbel.trans (g.bel.mono hbel.size)).cell (p := ⟨b, off + k * 4 + 2, none⟩) l1).trans g2
      have y2 : ∀ g : Grown wr, g.val.cell? ⟨b2, off2 + k * 4 + 2, none⟩ = some (.int .i64 (T k).len) := fun g => ((hbel.trans (g.bel.mono hbel.size)).cell (p := ⟨b2, off2 + k * 4 + 2, none⟩) l2).trans f2
      have z3 : ∀ g : Grown wr, g.val.cell? ⟨b, off + k * 4 + 3, none⟩ = some (.int .i64 (S k).hei) := fun g => ((hbel.trans (g.bel.mono hbel.size)).cell (p := ⟨b, off + k * 4 + 3, none⟩) l1).trans g3
      have y3 : ∀ g : Grown wr, g.val.cell? ⟨b2, off2 + k * 4 + 3, none⟩ = some (.int .i64 (T k).hei) := fun g => ((hbel.trans (g.bel.mono hbel.size)).cell (p := ⟨b2, off2 + k * 4 + 3, none⟩) l2).trans f3
      obtain ⟨p, hp⟩ : ∃ p : Bool, p = decide (S k = T k) := ⟨_, rfl⟩
      have qn := stay_neq (S k) (T k)
      rw [← hp] at qn
      have HP : Hid (p = true ↔ S k = T k) := by rw [hp]; exact decide_eq_true_iff
      clear hp g0 f0 g1 f1 g2 f2 g3 f3
      go_upto_region 6 with fail
      refine wp_region_grow (by kernel_rfl) (by kernel_rfl) ?_
      repeat (first | go_big_quiet_skip | (go_big_quiet_want; go_big_quiet_op; go_big_quiet_on))
      refine wpQuiet_nil ?_
      rintro _ ⟨g, rfl⟩
      clear z0 y0 z1 y1 z2 y2 z3 y3 qn
      cases p with
      | true =>
        go_wp2
        go_roundw
        case rel =>
          refine ⟨k + 1, by omega, by go_num, fun j hj => ?_, after hbel g.bel⟩
          by_cases e : j = k
          · subst e; exact HP.out.1 rfl
          · exact HA.out j (by omega)
        case measure => simp [intOf]; omega
      | false =>
        have hqf : q = false := by
          cases q with
          | false => rfl
          | true => exact absurd (HP.out.2 (HQ.out.1 rfl k hlt)) (by decide)
        subst hqf
        go_wp2
        go_ret
        exact ⟨rfl, after hbel g.bel⟩
    · obtain rfl : k = n := by omega
      have hqt : q = true := HQ.out.2 HA.out
      subst hqt
      go_wp2
      go_ret
      exact ⟨rfl, hbel⟩

end Go.Proofs.YtcioofnmhfehaaaGreat

namespace Go.Proofs.YtcioofnmhfehaaaGreat
open Go.RowKit

structure Room where
  who : Int
  cab : Int
  many : Int
  all : Bool
def Room.zero : Room := ⟨0, 0, 0, false⟩
instance : Inhabited Room := ⟨Room.zero⟩
/-- The record as a value. -/
def Room.v (s : Room) : Value := .agg #[.int .i64 s.who, .int .i64 s.cab, .int .i64 s.many, .bool s.all]
/-- The slice at ao reads as n records. -/
def RoomsAt (w : World) (ao : Option Addr) (n : Nat) (S : Nat → Room) : Prop :=
  ∀ k, k < n → ∃ b off, ao = some ⟨b, off, none⟩ ∧ w.cell? ⟨b, off + k * 4, none⟩ = some (.int .i64 (S k).who) ∧ w.cell? ⟨b, off + k * 4 + 1, none⟩ = some (.int .i64 (S k).cab) ∧ w.cell? ⟨b, off + k * 4 + 2, none⟩ = some (.int .i64 (S k).many) ∧ w.cell? ⟨b, off + k * 4 + 3, none⟩ = some (.bool (S k).all)
theorem RoomsAt.below {w w' : World} {ao : Option Addr} {n : Nat} {S : Nat → Room} (h : RoomsAt w ao n S) (hb : Below w.heap.size w w') : RoomsAt w' ao n S := by
  intro k hk
  obtain ⟨b, off, e, h0, h1, h2, h3⟩ := h k hk
  have hlt : b < w.heap.size := World.block_lt_of_cell? w _ h0
  exact ⟨b, off, e, (hb.cell hlt).trans h0, (hb.cell hlt).trans h1, (hb.cell hlt).trans h2, (hb.cell hlt).trans h3⟩
theorem RoomsAt.upto {w : World} {ao : Option Addr} {n i : Nat} {S : Nat → Room} (h : RoomsAt w ao n S) (hi : i ≤ n) : RoomsAt w ao i S := fun k hk => h k (by omega)
/-- The cell j of a row of records. -/
def roomCell (S : Nat → Room) (j : Nat) : Value :=
  if j % 4 = 0 then .int .i64 (S (j / 4)).who else if j % 4 = 1 then .int .i64 (S (j / 4)).cab else if j % 4 = 2 then .int .i64 (S (j / 4)).many else .bool (S (j / 4)).all
theorem roomCell_0 (S : Nat → Room) (k : Nat) : roomCell S (k * 4) = .int .i64 (S k).who := by
  unfold roomCell; rw [if_pos (by omega), show k * 4 / 4 = k by omega]
theorem roomCell_1 (S : Nat → Room) (k : Nat) : roomCell S (k * 4 + 1) = .int .i64 (S k).cab := by
  unfold roomCell; rw [if_neg (by omega), if_pos (by omega), show (k * 4 + 1) / 4 = k by omega]
theorem roomCell_2 (S : Nat → Room) (k : Nat) : roomCell S (k * 4 + 2) = .int .i64 (S k).many := by
  unfold roomCell; rw [if_neg (by omega), if_neg (by omega), if_pos (by omega), show (k * 4 + 2) / 4 = k by omega]
theorem roomCell_3 (S : Nat → Room) (k : Nat) : roomCell S (k * 4 + 3) = .bool (S k).all := by
  unfold roomCell; rw [if_neg (by omega), if_neg (by omega), if_neg (by omega), show (k * 4 + 3) / 4 = k by omega]
theorem RoomsAt.of_row {w : World} {g t n : Nat} {S : Nat → Room} (h : w.rowIs g t (n * 4) (roomCell S)) : RoomsAt w (some ⟨g, 0, none⟩) n S := by
  intro k hk
  refine ⟨g, 0, rfl, ?_, ?_, ?_, ?_⟩
  · rw [Nat.zero_add, h.cell (by omega), roomCell_0]
  · rw [Nat.zero_add, h.cell (by omega), roomCell_1]
  · rw [Nat.zero_add, h.cell (by omega), roomCell_2]
  · rw [Nat.zero_add, h.cell (by omega), roomCell_3]
theorem made_rooms (n : Nat) (j : Nat) (hj : j < n * 4) : (madeCells (Value.agg #[.int .i64 0, .int .i64 0, .int .i64 0, .bool false]).cells (n * 4)).toList.getD j (.bool false) = roomCell (fun _ => Room.zero) j := by
  have hz : (Value.agg #[.int .i64 0, .int .i64 0, .int .i64 0, .bool false]).cells = #[.int .i64 0, .int .i64 0, .int .i64 0, .bool false] := rfl
  rw [hz]
  simp only [madeCells, Array.toList_map, List.getD_eq_getElem?_getD, List.getElem?_map, Array.toList_range, List.getElem?_range hj, Option.map_some, Option.getD_some]
  unfold roomCell
  have : j % 4 = 0 ∨ j % 4 = 1 ∨ j % 4 = 2 ∨ j % 4 = 3 := by omega
  rcases this with h | h | h | h <;> simp [h, Room.zero]
/-- A record is stored into a row. -/
theorem room_set {w : World} {g t n k : Nat} {S S' : Nat → Room} (h : w.rowIs g t n (roomCell S)) (hS : ∀ i, i ≠ k → S' i = S i) :
    ((((w.setCell ⟨g, k * 4, none⟩ (.int .i64 (S' k).who)).setCell ⟨g, k * 4 + 1, none⟩ (.int .i64 (S' k).cab)).setCell ⟨g, k * 4 + 2, none⟩ (.int .i64 (S' k).many)).setCell ⟨g, k * 4 + 3, none⟩ (.bool (S' k).all)).rowIs g t n (roomCell S') := by
  refine ((((h.set (k * 4) _).set (k * 4 + 1) _).set (k * 4 + 2) _).set (k * 4 + 3) _).congr fun j _ => ?_
  by_cases h3 : j = k * 4 + 3
  · subst h3; rw [if_pos rfl, roomCell_3]
  rw [if_neg h3]
  by_cases h2 : j = k * 4 + 2
  · subst h2; rw [if_pos rfl, roomCell_2]
  rw [if_neg h2]
  by_cases h1 : j = k * 4 + 1
  · subst h1; rw [if_pos rfl, roomCell_1]
  rw [if_neg h1]
  by_cases h0 : j = k * 4
  · subst h0; rw [if_pos rfl, roomCell_0]
  rw [if_neg h0]
  have hk : j / 4 ≠ k := by omega
  unfold roomCell
  rw [hS _ hk]
/-- The cells of the first n records. -/
def roomList (S : Nat → Room) (n : Nat) : List Value := (List.range (n * 4)).map (roomCell S)
theorem roomList_length (S : Nat → Room) (n : Nat) : (roomList S n).length = n * 4 := by simp [roomList]
theorem roomList_get {S : Nat → Room} {n j : Nat} {u : Value} (h : (roomList S n)[j]? = some u) : j < n * 4 ∧ u = roomCell S j := by
  unfold roomList at h
  rw [List.getElem?_map] at h
  by_cases hj : j < n * 4
  · rw [List.getElem?_range hj] at h; simp at h; exact ⟨hj, h.symm⟩
  · rw [List.getElem?_eq_none (by simpa using hj)] at h; cases h
theorem roomList_one (S : Nat → Room) (n : Nat) : ∀ u ∈ roomList S n, u.oneCell' = true := by
  intro u hu
  unfold roomList at hu
  simp only [List.mem_map] at hu
  obtain ⟨j, _, rfl⟩ := hu
  unfold roomCell
  repeat' split
  all_goals rfl
theorem roomList_succ (S : Nat → Room) (k : Nat) : roomList S (k + 1) = roomList S k ++ [.int .i64 (S k).who, .int .i64 (S k).cab, .int .i64 (S k).many, .bool (S k).all] := by
  unfold roomList
  rw [show (k + 1) * 4 = k * 4 + 1 + 1 + 1 + 1 by omega, List.range_succ, List.range_succ, List.range_succ, List.range_succ]
  simp only [List.map_append, List.map_cons, List.map_nil, List.append_assoc, List.cons_append, List.nil_append, roomCell_0, roomCell_1, roomCell_2, roomCell_3]
theorem roomList_congr {S S' : Nat → Room} {n : Nat} (h : ∀ i, i < n → S i = S' i) : roomList S n = roomList S' n := by
  unfold roomList
  refine List.map_congr_left (fun j hj => ?_)
  have hj' : j < n * 4 := by simpa using hj
  unfold roomCell
  rw [h (j / 4) (by omega)]
/-- n records of S and then those of T. -/
def roomCat (S : Nat → Room) (n : Nat) (T : Nat → Room) (i : Nat) : Room := if i < n then S i else T (i - n)
theorem roomList_cat (S T : Nat → Room) (n j : Nat) : roomList (roomCat S n T) (n + j) = roomList S n ++ roomList T j := by
  induction j with
  | zero =>
    have : roomList T 0 = [] := by simp [roomList]
    rw [this, List.append_nil, Nat.add_zero]
    exact roomList_congr (fun i hi => if_pos hi)
  | succ j ih =>
    rw [show n + (j + 1) = n + j + 1 by omega, roomList_succ, roomList_succ, ih, List.append_assoc]
    have : roomCat S n T (n + j) = T j := by unfold roomCat; rw [if_neg (by omega), show n + j - n = j by omega]
    rw [this]
/-- The cells of a list, read at its address. -/
theorem rooms_cells {w : World} {ao : Option Addr} {n : Nat} {S : Nat → Room} (h : RoomsAt w ao n S) : ∀ ad, ao = some ad → ∀ j u, (roomList S n)[j]? = some u → w.cell? (ad.add j) = some u := by
  intro ad e j u hu
  obtain ⟨hj, rfl⟩ := roomList_get hu
  obtain ⟨b, off, e', h0, h1, h2, h3⟩ := h (j / 4) (by omega)
  rw [e] at e'
  simp only [Option.some.injEq] at e'
  subst e'
  rw [Addr.add_lit]
  have hm : j % 4 = 0 ∨ j % 4 = 1 ∨ j % 4 = 2 ∨ j % 4 = 3 := by omega
  rcases hm with hm | hm | hm | hm
  · rw [show off + j = off + j / 4 * 4 by omega, h0]; unfold roomCell; simp [hm]
  · rw [show off + j = off + j / 4 * 4 + 1 by omega, h1]; unfold roomCell; simp [hm]
  · rw [show off + j = off + j / 4 * 4 + 2 by omega, h2]; unfold roomCell; simp [hm]
  · rw [show off + j = off + j / 4 * 4 + 3 by omega, h3]; unfold roomCell; simp [hm]
theorem rooms_of_own {w : World} {base e n c : Nat} {ao : Option Addr} {S : Nat → Room} (h : w.ownsRow base e 4 (.slice ao n c) n (roomList S n)) : RoomsAt w ao n S := by
  intro k hk
  obtain ⟨g, rfl, _, _⟩ := own_addr h (by omega)
  have c0 := own_cell h (k * 4) (by omega) rfl
  rw [roomCell_0] at c0
  have c1 := own_cell h (k * 4 + 1) (by omega) rfl
  rw [roomCell_1] at c1
  have c2 := own_cell h (k * 4 + 2) (by omega) rfl
  rw [roomCell_2] at c2
  have c3 := own_cell h (k * 4 + 3) (by omega) rfl
  rw [roomCell_3] at c3
  exact ⟨g, 0, rfl, by rw [Nat.zero_add]; exact c0, by rw [Nat.zero_add]; exact c1, by rw [Nat.zero_add]; exact c2, by rw [Nat.zero_add]; exact c3⟩
/-- Records with their address written out. -/
theorem rooms_in {w : World} {ao : Option Addr} {n : Nat} {S : Nat → Room} (h : RoomsAt w ao n S) : n = 0 ∨ ∃ b off, ao = some ⟨b, off, none⟩ ∧ b < w.heap.size := by
  by_cases h0 : n = 0
  · exact .inl h0
  · obtain ⟨b, off, rfl, h1, _⟩ := h 0 (by omega)
    exact .inr ⟨b, off, rfl, World.block_lt_of_cell? w _ h1⟩

end Go.Proofs.YtcioofnmhfehaaaGreat

namespace Go.Proofs.YtcioofnmhfehaaaGreat
open Go.RowKit Classical

set_option maxHeartbeats 800000 in
theorem room_neq (a b : Room) (w : World) : (binOp .neq 59 (.agg #[.int .i64 a.who, .int .i64 a.cab, .int .i64 a.many, .bool a.all]) (.agg #[.int .i64 b.who, .int .i64 b.cab, .int .i64 b.many, .bool b.all])).run Tryz.prog w = .ok (.bool (!decide (a = b))) w := by
  obtain ⟨a0, a1, a2, a3⟩ := a
  obtain ⟨b0, b1, b2, b3⟩ := b
  simp only [Room.mk.injEq]
  by_cases h0 : a0 = b0
  case neg => go_simp
  subst h0
  by_cases h1 : a1 = b1
  case neg => go_simp
  subst h1
  by_cases h2 : a2 = b2
  case neg => go_simp
  subst h2
  by_cases h3 : a3 = b3
  case neg => go_simp
  subst h3
  go_simp

/-- The first n of two lists are alike. -/
def roomsAlike (n m : Nat) (S T : Nat → Room) : Prop := n = m ∧ ∀ i, i < n → S i = T i

set_option maxHeartbeats 1600000 in
set_option maxRecDepth 100000 in
theorem equalRoom_any (ao bo : Option Addr) (n c m d : Nat) (S T : Nat → Room) (w : World) (hn : n ≤ 1048576) (hm : m ≤ 1048576) (hx : RoomsAt w ao n S) (hy : RoomsAt w bo m T) :
    Calls Tryz.prog 74 #[.slice ao n c, .slice bo m d] w fun e w' => e = .returned (.bool (decide (roomsAlike n m S T))) ∧ Below w.heap.size w w' := by
  by_cases hnm : n = m
  case neg =>
    have e1 : decide (roomsAlike n m S T) = false := decide_eq_false (fun h => hnm h.1)
    rw [e1]
    have e2 : ((n : Int) = (m : Int)) = False := by simp; omega
    go_enter Tryz.func74, Tryz.ntmps74
    go_wp2
    go_ret
    exact ⟨rfl, Below.refl _ _⟩
  subst hnm
  have HX : Hid (RoomsAt w ao n S) := hx
  have HY : Hid (RoomsAt w bo n T) := hy
  clear hx hy
  obtain ⟨q, hq⟩ : ∃ q : Bool, q = decide (roomsAlike n n S T) := ⟨_, rfl⟩
  have HQ : Hid (q = true ↔ ∀ i, i < n → S i = T i) := by rw [hq]; exact ⟨fun h => (of_decide_eq_true h).2, fun h => decide_eq_true ⟨rfl, h⟩⟩
  rw [← hq]
  clear hq
  go_enter Tryz.func74, Tryz.ntmps74
  go_wp2
  go_loopw [5, 13] (fun _ i wr => ∃ k : Nat, k ≤ n ∧ i = .int .i64 k ∧ (∀ j, j < k → S j = T j) ∧ Below w.heap.size w wr) (fun _ i _ => n - (intOf i).toNat)
  case atStart => exact ⟨0, Nat.zero_le _, rfl, fun j hj => absurd hj (Nat.not_lt_zero _), Below.refl _ _⟩
  case round =>
    obtain ⟨k, hk, rfl, hal, hbel⟩ := hrel
    have HA : Hid (∀ j, j < k → S j = T j) := hal
    clear hal
    by_cases hlt : k < n
    · obtain ⟨b, off, rfl, g0, g1, g2, g3⟩ := HX.out k hlt
      obtain ⟨b2, off2, rfl, f0, f1, f2, f3⟩ := HY.out k hlt
      have l1 : b < w.heap.size := World.block_lt_of_cell? w _ g0
      have l2 : b2 < w.heap.size := World.block_lt_of_cell? w _ f0
      have i1 : (0 : Int) ≤ (k : Int) := by omega
      have i2 : (k : Int) < (n : Int) := by omega
      have z0 : ∀ g : Grown wr, g.val.cell? ⟨b, off + k * 4, none⟩ = some (.int .i64 (S k).who) := fun g => ((hbel.trans (g.bel.mono hbel.size)).cell (p := ⟨b, off + k * 4, none⟩) l1).trans g0
      have y0 : ∀ g : Grown wr, g.val.cell? ⟨b2, off2 + k * 4, none⟩ = some (.int .i64 (T k).who) := fun g => ((hbel.trans (g.bel.mono hbel.size)).cell (p := ⟨b2, off2 + k * 4, none⟩) l2).trans f0
      have z1 : ∀ g : Grown wr, g.val.cell? ⟨b, off + k * 4 + 1, none⟩ = some (.int .i64 (S k).cab) := fun g => ((hbel.trans (g.bel.mono hbel.size)).cell (p := ⟨b, off + k * 4 + 1, none⟩) l1).trans g1
      have y1 : ∀ g : Grown wr, g.val.cell? ⟨b2, off2 + k * 4 + 1, none⟩ = some (.int .i64 (T k).cab) := fun g => ((hbel.trans (g.bel.mono hbel.size)).cell (p := ⟨b2, off2 + k * 4 + 1, none⟩) l2).trans f1
      have z2 : ∀ g : Grown wr, g.val.cell? ⟨b, off + k * 4 + 2, none⟩ = some (.int .i64 (S k).many) := fun g => ((hbel.trans (g.bel.mono hbel.size)).cell (p := ⟨b, off + k * 4 + 2, none⟩) l1).trans g2
      have y2 : ∀ g : Grown wr, g.val.cell? ⟨b2, off2 + k * 4 + 2, none⟩ = some (.int .i64 (T k).many) := fun g => ((hbel.trans (g.bel.mono hbel.size)).cell (p := ⟨b2, off2 + k * 4 + 2, none⟩) l2).trans f2
      have z3 : ∀ g : Grown wr, g.val.cell? ⟨b, off + k * 4 + 3, none⟩ = some (.bool (S k).all) := fun g => ((hbel.trans (g.bel.mono hbel.size)).cell (p := ⟨b, off + k * 4 + 3, none⟩) l1).trans g3
      have y3 : ∀ g : Grown wr, g.val.cell? ⟨b2, off2 + k * 4 + 3, none⟩ = some (.bool (T k).all) := fun g => ((hbel.trans (g.bel.mono hbel.size)).cell (p := ⟨b2, off2 + k * 4 + 3, none⟩) l2).trans f3
      obtain ⟨p, hp⟩ : ∃ p : Bool, p = decide (S k = T k) := ⟨_, rfl⟩
      have qn := room_neq (S k) (T k)
      rw [← hp] at qn
      have HP : Hid (p = true ↔ S k = T k) := by rw [hp]; exact decide_eq_true_iff
      clear hp g0 f0 g1 f1 g2 f2 g3 f3
      go_upto_region 6 with fail
      refine wp_region_grow (by kernel_rfl) (by kernel_rfl) ?_
      repeat (first | go_big_quiet_skip | (go_big_quiet_want; go_big_quiet_op; go_big_quiet_on))
      refine wpQuiet_nil ?_
      rintro _ ⟨g, rfl⟩
      clear z0 y0 z1 y1 z2 y2 z3 y3 qn
      cases p with
      | true =>
        go_wp2
        go_roundw
        case rel =>
          refine ⟨k + 1, by omega, by go_num, fun j hj => ?_, after hbel g.bel⟩
          by_cases e : j = k
          · subst e; exact HP.out.1 rfl
          · exact HA.out j (by omega)
        case measure => simp [intOf]; omega
      | false =>
        have hqf : q = false := by
          cases q with
          | false => rfl
          | true => exact absurd (HP.out.2 (HQ.out.1 rfl k hlt)) (by decide)
        subst hqf
        go_wp2
        go_ret
        exact ⟨rfl, after hbel g.bel⟩
    · obtain rfl : k = n := by omega
      have hqt : q = true := HQ.out.2 HA.out
      subst hqt
      go_wp2
      go_ret
      exact ⟨rfl, hbel⟩

end Go.Proofs.YtcioofnmhfehaaaGreat
