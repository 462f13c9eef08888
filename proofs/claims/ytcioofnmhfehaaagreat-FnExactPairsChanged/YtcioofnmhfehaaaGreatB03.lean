/-
  OWN TEXT: KitSeat, EqSeat, LPair.
-/
import Derived.Test.YtcioofnmhfehaaaGreatRows
import Derived.Deep.RegionHeld3
import Derived.Deep.DeepCutAuto
import Derived.Test.YtcioofnmhfehaaaGreatB01
import Derived.Test.YtcioofnmhfehaaaGreatB00
namespace Go.Proofs.YtcioofnmhfehaaaGreat
open Go.RowKit

structure Seat where
  who : Int
  many : Int
def Seat.zero : Seat := ⟨0, 0⟩
instance : Inhabited Seat := ⟨Seat.zero⟩
/-- The record as a value. -/
def Seat.v (s : Seat) : Value := .agg #[.int .i64 s.who, .int .i64 s.many]
/-- The slice at ao reads as n records. -/
def SeatsAt (w : World) (ao : Option Addr) (n : Nat) (S : Nat → Seat) : Prop :=
  ∀ k, k < n → ∃ b off, ao = some ⟨b, off, none⟩ ∧ w.cell? ⟨b, off + k * 2, none⟩ = some (.int .i64 (S k).who) ∧ w.cell? ⟨b, off + k * 2 + 1, none⟩ = some (.int .i64 (S k).many)
theorem SeatsAt.below {w w' : World} {ao : Option Addr} {n : Nat} {S : Nat → Seat} (h : SeatsAt w ao n S) (hb : Below w.heap.size w w') : SeatsAt w' ao n S := by
  intro k hk
  obtain ⟨b, off, e, h0, h1⟩ := h k hk
  have hlt : b < w.heap.size := World.block_lt_of_cell? w _ h0
  exact ⟨b, off, e, (hb.cell hlt).trans h0, (hb.cell hlt).trans h1⟩
theorem SeatsAt.upto {w : World} {ao : Option Addr} {n i : Nat} {S : Nat → Seat} (h : SeatsAt w ao n S) (hi : i ≤ n) : SeatsAt w ao i S := fun k hk => h k (by omega)
/-- The cell j of a row of records. -/
def seatCell (S : Nat → Seat) (j : Nat) : Value :=
  if j % 2 = 0 then .int .i64 (S (j / 2)).who else .int .i64 (S (j / 2)).many
theorem seatCell_0 (S : Nat → Seat) (k : Nat) : seatCell S (k * 2) = .int .i64 (S k).who := by
  unfold seatCell; rw [if_pos (by omega), show k * 2 / 2 = k by omega]
theorem seatCell_1 (S : Nat → Seat) (k : Nat) : seatCell S (k * 2 + 1) = .int .i64 (S k).many := by
  unfold seatCell; rw [if_neg (by omega), show (k * 2 + 1) / 2 = k by omega]
theorem SeatsAt.of_row {w : World} {g t n : Nat} {S : Nat → Seat} (h : w.rowIs g t (n * 2) (seatCell S)) : SeatsAt w (some ⟨g, 0, none⟩) n S := by
  intro k hk
  refine ⟨g, 0, rfl, ?_, ?_⟩
  · rw [Nat.zero_add, h.cell (by omega), seatCell_0]
  · rw [Nat.zero_add, h.cell (by omega), seatCell_1]
theorem made_seats (n : Nat) (j : Nat) (hj : j < n * 2) : (madeCells (Value.agg #[.int .i64 0, .int .i64 0]).cells (n * 2)).toList.getD j (.bool false) = seatCell (fun _ => Seat.zero) j := by
  have hz : (Value.agg #[.int .i64 0, .int .i64 0]).cells = #[.int .i64 0, .int .i64 0] := rfl
  rw [hz]
  simp only [madeCells, Array.toList_map, List.getD_eq_getElem?_getD, List.getElem?_map, Array.toList_range, List.getElem?_range hj, Option.map_some, Option.getD_some]
  unfold seatCell
  have : j % 2 = 0 ∨ j % 2 = 1 := by omega
  rcases this with h | h <;> simp [h, Seat.zero]
/-- A record is stored into a row. -/
theorem seat_set {w : World} {g t n k : Nat} {S S' : Nat → Seat} (h : w.rowIs g t n (seatCell S)) (hS : ∀ i, i ≠ k → S' i = S i) :
    ((w.setCell ⟨g, k * 2, none⟩ (.int .i64 (S' k).who)).setCell ⟨g, k * 2 + 1, none⟩ (.int .i64 (S' k).many)).rowIs g t n (seatCell S') := by
  refine ((h.set (k * 2) _).set (k * 2 + 1) _).congr fun j _ => ?_
  by_cases h1 : j = k * 2 + 1
  · subst h1; rw [if_pos rfl, seatCell_1]
  rw [if_neg h1]
  by_cases h0 : j = k * 2
  · subst h0; rw [if_pos rfl, seatCell_0]
  rw [if_neg h0]
  have hk : j / 2 ≠ k := by omega
  unfold seatCell
  rw [hS _ hk]
/-- The cells of the first n records. -/
def seatList (S : Nat → Seat) (n : Nat) : List Value := (List.range (n * 2)).map (seatCell S)
theorem seatList_length (S : Nat → Seat) (n : Nat) : (seatList S n).length = n * 2 := by simp [seatList]
theorem seatList_get {S : Nat → Seat} {n j : Nat} {u : Value} (h : (seatList S n)[j]? = some u) : j < n * 2 ∧ u = seatCell S j := by
  unfold seatList at h
  rw [List.getElem?_map] at h
  by_cases hj : j < n * 2
  · rw [List.getElem?_range hj] at h; simp at h; exact ⟨hj, h.symm⟩
  · rw [List.getElem?_eq_none (by simpa using hj)] at h; cases h
theorem seatList_one (S : Nat → Seat) (n : Nat) : ∀ u ∈ seatList S n, u.oneCell' = true := by
  intro u hu
  unfold seatList at hu
  simp only [List.mem_map] at hu
  obtain ⟨j, _, rfl⟩ := hu
  unfold seatCell
  repeat' split
  all_goals rfl
theorem seatList_succ (S : Nat → Seat) (k : Nat) : seatList S (k + 1) = seatList S k ++ [.int .i64 (S k).who, .int .i64 (S k).many] := by
  unfold seatList
  rw [show (k + 1) * 2 = k * 2 + 1 + 1 by omega, List.range_succ, List.range_succ]
  simp only [List.map_append, List.map_cons, List.map_nil, List.append_assoc, List.cons_append, List.nil_append, seatCell_0, seatCell_1]
theorem seatList_congr {S S' : Nat → Seat} {n : Nat} (h : ∀ i, i < n → S i = S' i) : seatList S n = seatList S' n := by
  unfold seatList
  refine List.map_congr_left (fun j hj => ?_)
  have hj' : j < n * 2 := by simpa using hj
  unfold seatCell
  rw [h (j / 2) (by omega)]
/-- n records of S and then those of T. -/
def seatCat (S : Nat → Seat) (n : Nat) (T : Nat → Seat) (i : Nat) : Seat := if i < n then S i else T (i - n)
theorem seatList_cat (S T : Nat → Seat) (n j : Nat) : seatList (seatCat S n T) (n + j) = seatList S n ++ seatList T j := by
  induction j with
  | zero =>
    have : seatList T 0 = [] := by simp [seatList]
    rw [this, List.append_nil, Nat.add_zero]
    exact seatList_congr (fun i hi => if_pos hi)
  | succ j ih =>
    rw [show n + (j + 1) = n + j + 1 by omega, seatList_succ, seatList_succ, ih, List.append_assoc]
    have : seatCat S n T (n + j) = T j := by unfold seatCat; rw [if_neg (by omega), show n + j - n = j by omega]
    rw [this]
/-- The cells of a list, read at its address. -/
theorem seats_cells {w : World} {ao : Option Addr} {n : Nat} {S : Nat → Seat} (h : SeatsAt w ao n S) : ∀ ad, ao = some ad → ∀ j u, (seatList S n)[j]? = some u → w.cell? (ad.add j) = some u := by
  intro ad e j u hu
  obtain ⟨hj, rfl⟩ := seatList_get hu
  obtain ⟨b, off, e', h0, h1⟩ := h (j / 2) (by omega)
  rw [e] at e'
  simp only [Option.some.injEq] at e'
  subst e'
  rw [Addr.add_lit]
  have hm : j % 2 = 0 ∨ j % 2 = 1 := by omega
  rcases hm with hm | hm
  · rw [show off + j = off + j / 2 * 2 by omega, h0]; unfold seatCell; simp [hm]
  · rw [show off + j = off + j / 2 * 2 + 1 by omega, h1]; unfold seatCell; simp [hm]
theorem seats_of_own {w : World} {base e n c : Nat} {ao : Option Addr} {S : Nat → Seat} (h : w.ownsRow base e 2 (.slice ao n c) n (seatList S n)) : SeatsAt w ao n S := by
  intro k hk
  obtain ⟨g, rfl, _, _⟩ := own_addr h (by omega)
  have c0 := own_cell h (k * 2) (by omega) rfl
  rw [seatCell_0] at c0
  have c1 := own_cell h (k * 2 + 1) (by omega) rfl
  rw [seatCell_1] at c1
  exact ⟨g, 0, rfl, by rw [Nat.zero_add]; exact c0, by rw [Nat.zero_add]; exact c1⟩
/-- Records with their address written out. -/
theorem seats_in {w : World} {ao : Option Addr} {n : Nat} {S : Nat → Seat} (h : SeatsAt w ao n S) : n = 0 ∨ ∃ b off, ao = some ⟨b, off, none⟩ ∧ b < w.heap.size := by
  by_cases h0 : n = 0
  · exact .inl h0
  · obtain ⟨b, off, rfl, h1, _⟩ := h 0 (by omega)
    exact .inr ⟨b, off, rfl, World.block_lt_of_cell? w _ h1⟩

end Go.Proofs.YtcioofnmhfehaaaGreat

namespace Go.Proofs.YtcioofnmhfehaaaGreat
open Go.RowKit Classical

set_option maxHeartbeats 800000 in
theorem seat_neq (a b : Seat) (w : World) : (binOp .neq 61 (.agg #[.int .i64 a.who, .int .i64 a.many]) (.agg #[.int .i64 b.who, .int .i64 b.many])).run Tryz.prog w = .ok (.bool (!decide (a = b))) w := by
  obtain ⟨a0, a1⟩ := a
  obtain ⟨b0, b1⟩ := b
  simp only [Seat.mk.injEq]
  by_cases h0 : a0 = b0
  case neg => go_simp
  subst h0
  by_cases h1 : a1 = b1
  case neg => go_simp
  subst h1
  go_simp

/-- The first n of two lists are alike. -/
def seatsAlike (n m : Nat) (S T : Nat → Seat) : Prop := n = m ∧ ∀ i, i < n → S i = T i

set_option maxHeartbeats 1600000 in
set_option maxRecDepth 100000 in
theorem equalSeat_any (ao bo : Option Addr) (n c m d : Nat) (S T : Nat → Seat) (w : World) (hn : n ≤ 1048576) (hm : m ≤ 1048576) (hx : SeatsAt w ao n S) (hy : SeatsAt w bo m T) :
    Calls Tryz.prog 75 #[.slice ao n c, .slice bo m d] w fun e w' => e = .returned (.bool (decide (seatsAlike n m S T))) ∧ Below w.heap.size w w' := by
  by_cases hnm : n = m
  case neg =>
    have e1 : decide (seatsAlike n m S T) = false := decide_eq_false (fun h => hnm h.1)
    rw [e1]
    have e2 : ((n : Int) = (m : Int)) = False := by simp; omega
    go_enter Tryz.func75, Tryz.ntmps75
    go_wp2
    go_ret
    exact ⟨rfl, Below.refl _ _⟩
  subst hnm
  have HX : Hid (SeatsAt w ao n S) := hx
  have HY : Hid (SeatsAt w bo n T) := hy
  clear hx hy
  obtain ⟨q, hq⟩ : ∃ q : Bool, q = decide (seatsAlike n n S T) := ⟨_, rfl⟩
  have HQ : Hid (q = true ↔ ∀ i, i < n → S i = T i) := by rw [hq]; exact ⟨fun h => (of_decide_eq_true h).2, fun h => decide_eq_true ⟨rfl, h⟩⟩
  rw [← hq]
  clear hq
  go_enter Tryz.func75, Tryz.ntmps75
  go_wp2
  go_loopw [5, 13] (fun _ i wr => ∃ k : Nat, k ≤ n ∧ i = .int .i64 k ∧ (∀ j, j < k → S j = T j) ∧ Below w.heap.size w wr) (fun _ i _ => n - (intOf i).toNat)
  case atStart => exact ⟨0, Nat.zero_le _, rfl, fun j hj => absurd hj (Nat.not_lt_zero _), Below.refl _ _⟩
  case round =>
    obtain ⟨k, hk, rfl, hal, hbel⟩ := hrel
    have HA : Hid (∀ j, j < k → S j = T j) := hal
    clear hal
    by_cases hlt : k < n
    · obtain ⟨b, off, rfl, g0, g1⟩ := HX.out k hlt
      obtain ⟨b2, off2, rfl, f0, f1⟩ := HY.out k hlt
      have l1 : b < w.heap.size := World.block_lt_of_cell? w _ g0
      have l2 : b2 < w.heap.size := World.block_lt_of_cell? w _ f0
      have i1 : (0 : Int) ≤ (k : Int) := by omega
      have i2 : (k : Int) < (n : Int) := by omega
      have z0 : ∀ g : Grown wr, g.val.cell? ⟨b, off + k * 2, none⟩ = some (.int .i64 (S k).who) := fun g => ((hbel.trans (g.bel.mono hbel.size)).cell (p := ⟨b, off + k * 2, none⟩) l1).trans g0
      have y0 : ∀ g : Grown wr, g.val.cell? ⟨b2, off2 + k * 2, none⟩ = some (.int .i64 (T k).who) := fun g => ((hbel.trans (g.bel.mono hbel.size)).cell (p := ⟨b2, off2 + k * 2, none⟩) l2).trans f0
      have z1 : ∀ g : Grown wr, g.val.cell? ⟨b, off + k * 2 + 1, none⟩ = some (.int .i64 (S k).many) := fun g => ((hbel.trans (g.bel.mono hbel.size)).cell (p := ⟨b, off + k * 2 + 1, none⟩) l1).trans g1
      have y1 : ∀ g : Grown wr, g.val.cell? ⟨b2, off2 + k * 2 + 1, none⟩ = some (.int .i64 (T k).many) := fun g => ((hbel.trans (g.bel.mono hbel.size)).cell (p := ⟨b2, off2 + k * 2 + 1, none⟩) l2).trans f1
      obtain ⟨p, hp⟩ : ∃ p : Bool, p = decide (S k = T k) := ⟨_, rfl⟩
      have qn := seat_neq (S k) (T k)
      rw [← hp] at qn
      have HP : Hid (p = true ↔ S k = T k) := by rw [hp]; exact decide_eq_true_iff
      clear hp g0 f0 g1 f1
      go_upto_region 6 with fail
      refine wp_region_grow (by kernel_rfl) (by kernel_rfl) ?_
      repeat (first | go_big_quiet_skip | (go_big_quiet_want; go_big_quiet_op; go_big_quiet_on))
      refine wpQuiet_nil ?_
      rintro _ ⟨g, rfl⟩
      clear z0 y0 z1 y1 qn
      cases p with
      | true =>
        go_wp2
        go_roundw
        case rel =>
          refine ⟨k + 1, by omega, by go_num, fun j hj => ?_, after hbel g.bel⟩
          by_cases e : j = k
          · subst e; exact HP.out.1 rfl
          · exact HA.out j (by omega)
        case measure => simp [intOf]; omega
      | false =>
        have hqf : q = false := by
          cases q with
          | false => rfl
          | true => exact absurd (HP.out.2 (HQ.out.1 rfl k hlt)) (by decide)
        subst hqf
        go_wp2
        go_ret
        exact ⟨rfl, after hbel g.bel⟩
    · obtain rfl : k = n := by omega
      have hqt : q = true := HQ.out.2 HA.out
      subst hqt
      go_wp2
      go_ret
      exact ⟨rfl, hbel⟩

end Go.Proofs.YtcioofnmhfehaaaGreat

namespace Go.Proofs.YtcioofnmhfehaaaGreat
open Go.RowKit


theorem Tryz.infoLane : (Tryz.prog.info? 93).map (fun i => (i.zero, i.size, i.bytes)) = some (some (.agg #[.int .i64 0, .int .i64 0]), 2, 16) := by kernel_rfl

set_option maxHeartbeats 400000 in
theorem toLane_any (a u : Int) (w : World) :
    Calls Tryz.prog 95 #[.agg #[.int .i64 a, .int .i64 u]] w fun e w' => e = .returned (.agg #[.int .i64 a, .int .i64 u]) ∧ Below w.heap.size w w' := by
  go_enter Tryz.func95, Tryz.ntmps95
  go_wp2
  exact bodyPost_ret (v := .agg #[.int .i64 a, .int .i64 u]) (by simp [results, Tryz.results95, go_sem]) rfl ⟨rfl, push (push (push (Below.refl _ _) _) _) _⟩

set_option maxHeartbeats 400000 in
theorem eqLane_same (a u : Int) (w : World) :
    Calls Tryz.prog 109 #[.agg #[.int .i64 a, .int .i64 u], .agg #[.int .i64 a, .int .i64 u]] w fun e w' => e = .returned (.bool true) ∧ Below w.heap.size w w' := by
  go_enter Tryz.func109, Tryz.ntmps109
  go_wp2
  go_ret
  exact ⟨rfl, push (push (Below.refl _ _) _) _⟩

set_option maxHeartbeats 400000 in
set_option maxRecDepth 100000 in
/-- toLaneS: a copy of the pairs in a new row. -/
theorem toLaneS_any (ao : Option Addr) (n cap : Nat) (l : Pairs) (w : World) (hl : l.n = n) (hn : n ≤ 1048576) (hz : PairsAt w ao l) :
    Calls Tryz.prog 63 #[.slice ao n cap] w fun e w' => ∃ g, e = .returned (.slice (some ⟨g, 0, none⟩) n n) ∧ w.heap.size ≤ g ∧
      w'.rowIs g 93 (n * 2) (pairCell l) ∧ Below w.heap.size w w' := by
  obtain ⟨i0, hi, hz0, hz1, hz2⟩ := info_parts Tryz.infoLane
  have HL : Hid (l.n = n) := hl
  clear hl
  go_enter Tryz.func63, Tryz.ntmps63
  go_wp2_with (first | (at_make; refine wpList_make_full _ rfl _ _ 47 rfl w.heap.size 93 i0 _ 2 Tryz.underlying47 hi hz0 hz1 .i64 .i64 _ _ n rfl rfl rfl rfl (by rw [hz2]; omega) (by unfold maxLen; omega) (Nat.le_refl _) ?_; intro w1 hown1 hgrow1))
  go_loopw [4] (fun i wr => ∃ k : Nat, k ≤ n ∧ i = .int .i64 k ∧ wr.rowIs w.heap.size 93 (n * 2) (pairCell (pairsTo k l)) ∧ Below w.heap.size w wr)
    (fun i _ => n - (intOf i).toNat)
  case atStart => exact ⟨0, Nat.zero_le _, rfl, (row_of_own hown1).congr (fun j hj => made_pairs n j hj), (Below.refl _ _).grown hgrow1 (Nat.le_refl _) (by simp)⟩
  case round =>
    obtain ⟨k, hk, rfl, hrow, hbel⟩ := hrel
    clear hown1 hgrow1
    by_cases hlt : k < n
    · obtain ⟨b, off, rfl, h1, h2⟩ := hz k (by rw [HL.out]; omega)
      have hb := World.block_lt_of_cell? w _ h1
      have c1 := (hbel.cell (p := ⟨b, off + k * 2, none⟩) hb).trans h1
      have c2 := (hbel.cell (p := ⟨b, off + k * 2 + 1, none⟩) hb).trans h2
      clear h1 h2
      go_wp2_with (first | (go_at_call 95; refine (toLane_any _ _ _).mono ?_; rintro e w2 ⟨rfl, hb2⟩; have hr2 := hrow.of_block (hb2.block _ hrow.lt); have o1 := hr2.cell (i := k * 2) (by omega); have o2 := hr2.cell (i := k * 2 + 1) (by omega); have f1 := hr2.frozen (k * 2); have f2 := hr2.frozen (k * 2 + 1)))
      go_roundw
      case rel =>
        refine ⟨k + 1, by omega, by go_num, ?_, ?_⟩
        · have := pair_set (k := k) (p' := pairsTo (k + 1) l) hr2 (fun i h => upto_step _ _ _ _ h) (fun i h => upto_step _ _ _ _ h)
          simp only [pairsTo, upto_lt _ _ (Nat.lt_succ_self k)] at this
          exact this
        · exact ((after hbel hb2).setCell (Nat.le_refl _) _).setCell (Nat.le_refl _) _
      case measure => simp [intOf]; omega
    · go_wp2
      go_ret
      exact ⟨_, rfl, Nat.le_refl _, hrow.congr (fun j hj => by unfold pairCell pairsTo; simp only; rw [upto_lt _ _ (by omega), upto_lt _ _ (by omega)]), hbel⟩

set_option maxHeartbeats 400000 in
set_option maxRecDepth 100000 in
/-- eqLaneS at two lists that are one. -/
theorem eqLaneS_same (ao bo : Option Addr) (n c1 c2 : Nat) (l : Pairs) (w : World) (hl : l.n = n) (hn : n ≤ 1048576) (hx : PairsAt w ao l) (hy : PairsAt w bo l) :
    Calls Tryz.prog 89 #[.slice ao n c1, .slice bo n c2] w fun e w' => e = .returned (.bool true) ∧ Below w.heap.size w w' := by
  have HL : Hid (l.n = n) := hl
  clear hl
  go_enter Tryz.func89, Tryz.ntmps89
  go_wp2
  go_loopw [5] (fun i wr => ∃ k : Nat, k ≤ n ∧ i = .int .i64 k ∧ Below w.heap.size w wr) (fun i _ => n - (intOf i).toNat)
  case atStart => exact ⟨0, Nat.zero_le _, rfl, Below.refl _ _⟩
  case round =>
    obtain ⟨k, hk, rfl, hbel⟩ := hrel
    by_cases hlt : k < n
    · obtain ⟨b, off, rfl, h1, h2⟩ := hx k (by rw [HL.out]; omega)
      obtain ⟨b2, off2, rfl, g1, g2⟩ := hy k (by rw [HL.out]; omega)
      have hb := World.block_lt_of_cell? w _ h1
      have hb2 := World.block_lt_of_cell? w _ g1
      have c1 := (hbel.cell (p := ⟨b, off + k * 2, none⟩) hb).trans h1
      have c2 := (hbel.cell (p := ⟨b, off + k * 2 + 1, none⟩) hb).trans h2
      have d1 := (hbel.cell (p := ⟨b2, off2 + k * 2, none⟩) hb2).trans g1
      have d2 := (hbel.cell (p := ⟨b2, off2 + k * 2 + 1, none⟩) hb2).trans g2
      clear h1 h2 g1 g2
      have hbw : b < wr.heap.size := Nat.lt_of_lt_of_le hb hbel.size
      have hbw2 : b2 < wr.heap.size := Nat.lt_of_lt_of_le hb2 hbel.size
      have i1 : (0 : Int) ≤ (k : Int) := by omega
      have i2 : (k : Int) < (n : Int) := by omega
      go_wp2
      go_region_held3 (fun w' => w'.cell? ⟨b, off + k * 2, none⟩ = some (.int .i64 (l.A k)) ∧ w'.cell? ⟨b, off + k * 2 + 1, none⟩ = some (.int .i64 (l.B k)) ∧ w'.cell? ⟨b2, off2 + k * 2, none⟩ = some (.int .i64 (l.A k)) ∧ w'.cell? ⟨b2, off2 + k * 2 + 1, none⟩ = some (.int .i64 (l.B k)))
        (first | exact ⟨c1, c2, d1, d2⟩ | exact ⟨(hbb.cell hbw).trans c1, (hbb.cell hbw).trans c2, (hbb.cell hbw2).trans d1, (hbb.cell hbw2).trans d2⟩)
        (first | (go_at_call 109; refine (eqLane_same _ _ _).mono ?_; rintro e w2 ⟨rfl, hbb⟩))
      go_wp2
      go_roundw
      case rel => exact ⟨k + 1, by omega, by go_num, after hbel.drew hbb⟩
      case measure => simp [intOf]; omega
    · go_wp2
      go_ret
      exact ⟨rfl, hbel⟩

set_option maxHeartbeats 400000 in
theorem szLaneS_any (ao : Option Addr) (n c : Nat) (L : Int) (w : World) (h0 : 0 ≤ L) (hL : L ≤ 1048576) (hn : n ≤ 1000000000000000) :
    Calls Tryz.prog 56 #[.slice ao n c, .int .i64 L] w fun e w' => ∃ r : Int, e = .returned (.int .i64 r) ∧ (r = -1 ∨ (0 ≤ r ∧ r ≤ L ∧ n ≤ 1048576)) ∧ Below w.heap.size w w' := by
  by_cases h : (n : Int) ≤ L
  · go_enter Tryz.func56, Tryz.ntmps56
    go_wp2
    go_ret
    exact ⟨_, rfl, .inr ⟨by omega, by omega, by omega⟩, Below.refl _ _⟩
  · go_enter Tryz.func56, Tryz.ntmps56
    go_wp2
    go_ret
    exact ⟨_, rfl, .inl rfl, Below.refl _ _⟩

theorem Tryz.infoCabin : (Tryz.prog.info? 95).map (fun i => (i.zero, i.size, i.bytes)) = some (some (.agg #[.int .i64 0, .int .i64 0]), 2, 16) := by kernel_rfl

set_option maxHeartbeats 400000 in
theorem toCabin_any (a u : Int) (w : World) :
    Calls Tryz.prog 96 #[.agg #[.int .i64 a, .int .i64 u]] w fun e w' => e = .returned (.agg #[.int .i64 a, .int .i64 u]) ∧ Below w.heap.size w w' := by
  go_enter Tryz.func96, Tryz.ntmps96
  go_wp2
  exact bodyPost_ret (v := .agg #[.int .i64 a, .int .i64 u]) (by simp [results, Tryz.results96, go_sem]) rfl ⟨rfl, push (push (push (Below.refl _ _) _) _) _⟩

set_option maxHeartbeats 400000 in
theorem eqCabin_same (a u : Int) (w : World) :
    Calls Tryz.prog 110 #[.agg #[.int .i64 a, .int .i64 u], .agg #[.int .i64 a, .int .i64 u]] w fun e w' => e = .returned (.bool true) ∧ Below w.heap.size w w' := by
  go_enter Tryz.func110, Tryz.ntmps110
  go_wp2
  go_ret
  exact ⟨rfl, push (push (Below.refl _ _) _) _⟩

set_option maxHeartbeats 400000 in
set_option maxRecDepth 100000 in
/-- toCabinS: a copy of the pairs in a new row. -/
theorem toCabinS_any (ao : Option Addr) (n cap : Nat) (l : Pairs) (w : World) (hl : l.n = n) (hn : n ≤ 1048576) (hz : PairsAt w ao l) :
    Calls Tryz.prog 64 #[.slice ao n cap] w fun e w' => ∃ g, e = .returned (.slice (some ⟨g, 0, none⟩) n n) ∧ w.heap.size ≤ g ∧
      w'.rowIs g 95 (n * 2) (pairCell l) ∧ Below w.heap.size w w' := by
  obtain ⟨i0, hi, hz0, hz1, hz2⟩ := info_parts Tryz.infoCabin
  have HL : Hid (l.n = n) := hl
  clear hl
  go_enter Tryz.func64, Tryz.ntmps64
  go_wp2_with (first | (at_make; refine wpList_make_full _ rfl _ _ 48 rfl w.heap.size 95 i0 _ 2 Tryz.underlying48 hi hz0 hz1 .i64 .i64 _ _ n rfl rfl rfl rfl (by rw [hz2]; omega) (by unfold maxLen; omega) (Nat.le_refl _) ?_; intro w1 hown1 hgrow1))
  go_loopw [4] (fun i wr => ∃ k : Nat, k ≤ n ∧ i = .int .i64 k ∧ wr.rowIs w.heap.size 95 (n * 2) (pairCell (pairsTo k l)) ∧ Below w.heap.size w wr)
    (fun i _ => n - (intOf i).toNat)
  case atStart => exact ⟨0, Nat.zero_le _, rfl, (row_of_own hown1).congr (fun j hj => made_pairs n j hj), (Below.refl _ _).grown hgrow1 (Nat.le_refl _) (by simp)⟩
  case round =>
    obtain ⟨k, hk, rfl, hrow, hbel⟩ := hrel
    clear hown1 hgrow1
    by_cases hlt : k < n
    · obtain ⟨b, off, rfl, h1, h2⟩ := hz k (by rw [HL.out]; omega)
      have hb := World.block_lt_of_cell? w _ h1
      have c1 := (hbel.cell (p := ⟨b, off + k * 2, none⟩) hb).trans h1
      have c2 := (hbel.cell (p := ⟨b, off + k * 2 + 1, none⟩) hb).trans h2
      clear h1 h2
      go_wp2_with (first | (go_at_call 96; refine (toCabin_any _ _ _).mono ?_; rintro e w2 ⟨rfl, hb2⟩; have hr2 := hrow.of_block (hb2.block _ hrow.lt); have o1 := hr2.cell (i := k * 2) (by omega); have o2 := hr2.cell (i := k * 2 + 1) (by omega); have f1 := hr2.frozen (k * 2); have f2 := hr2.frozen (k * 2 + 1)))
      go_roundw
      case rel =>
        refine ⟨k + 1, by omega, by go_num, ?_, ?_⟩
        · have := pair_set (k := k) (p' := pairsTo (k + 1) l) hr2 (fun i h => upto_step _ _ _ _ h) (fun i h => upto_step _ _ _ _ h)
          simp only [pairsTo, upto_lt _ _ (Nat.lt_succ_self k)] at this
          exact this
        · exact ((after hbel hb2).setCell (Nat.le_refl _) _).setCell (Nat.le_refl _) _
      case measure => simp [intOf]; omega
    · go_wp2
      go_ret
      exact ⟨_, rfl, Nat.le_refl _, hrow.congr (fun j hj => by unfold pairCell pairsTo; simp only; rw [upto_lt _ _ (by omega), upto_lt _ _ (by omega)]), hbel⟩

set_option maxHeartbeats 400000 in
set_option maxRecDepth 100000 in
/-- eqCabinS at two lists that are one. -/
theorem eqCabinS_same (ao bo : Option Addr) (n c1 c2 : Nat) (l : Pairs) (w : World) (hl : l.n = n) (hn : n ≤ 1048576) (hx : PairsAt w ao l) (hy : PairsAt w bo l) :
    Calls Tryz.prog 90 #[.slice ao n c1, .slice bo n c2] w fun e w' => e = .returned (.bool true) ∧ Below w.heap.size w w' := by
  have HL : Hid (l.n = n) := hl
  clear hl
  go_enter Tryz.func90, Tryz.ntmps90
  go_wp2
  go_loopw [5] (fun i wr => ∃ k : Nat, k ≤ n ∧ i = .int .i64 k ∧ Below w.heap.size w wr) (fun i _ => n - (intOf i).toNat)
  case atStart => exact ⟨0, Nat.zero_le _, rfl, Below.refl _ _⟩
  case round =>
    obtain ⟨k, hk, rfl, hbel⟩ := hrel
    by_cases hlt : k < n
    · obtain ⟨b, off, rfl, h1, h2⟩ := hx k (by rw [HL.out]; omega)
      obtain ⟨b2, off2, rfl, g1, g2⟩ := hy k (by rw [HL.out]; omega)
      have hb := World.block_lt_of_cell? w _ h1
      have hb2 := World.block_lt_of_cell? w _ g1
      have c1 := (hbel.cell (p := ⟨b, off + k * 2, none⟩) hb).trans h1
      have c2 := (hbel.cell (p := ⟨b, off + k * 2 + 1, none⟩) hb).trans h2
      have d1 := (hbel.cell (p := ⟨b2, off2 + k * 2, none⟩) hb2).trans g1
      have d2 := (hbel.cell (p := ⟨b2, off2 + k * 2 + 1, none⟩) hb2).trans g2
      clear h1 h2 g1 g2
      have hbw : b < wr.heap.size := Nat.lt_of_lt_of_le hb hbel.size
      have hbw2 : b2 < wr.heap.size := Nat.lt_of_lt_of_le hb2 hbel.size
      have i1 : (0 : Int) ≤ (k : Int) := by omega
      have i2 : (k : Int) < (n : Int) := by omega
      go_wp2
      go_region_held3 (fun w' => w'.cell? ⟨b, off + k * 2, none⟩ = some (.int .i64 (l.A k)) ∧ w'.cell? ⟨b, off + k * 2 + 1, none⟩ = some (.int .i64 (l.B k)) ∧ w'.cell? ⟨b2, off2 + k * 2, none⟩ = some (.int .i64 (l.A k)) ∧ w'.cell? ⟨b2, off2 + k * 2 + 1, none⟩ = some (.int .i64 (l.B k)))
        (first | exact ⟨c1, c2, d1, d2⟩ | exact ⟨(hbb.cell hbw).trans c1, (hbb.cell hbw).trans c2, (hbb.cell hbw2).trans d1, (hbb.cell hbw2).trans d2⟩)
        (first | (go_at_call 110; refine (eqCabin_same _ _ _).mono ?_; rintro e w2 ⟨rfl, hbb⟩))
      go_wp2
      go_roundw
      case rel => exact ⟨k + 1, by omega, by go_num, after hbel.drew hbb⟩
      case measure => simp [intOf]; omega
    · go_wp2
      go_ret
      exact ⟨rfl, hbel⟩

set_option maxHeartbeats 400000 in
theorem szCabinS_any (ao : Option Addr) (n c : Nat) (L : Int) (w : World) (h0 : 0 ≤ L) (hL : L ≤ 1048576) (hn : n ≤ 1000000000000000) :
    Calls Tryz.prog 57 #[.slice ao n c, .int .i64 L] w fun e w' => ∃ r : Int, e = .returned (.int .i64 r) ∧ (r = -1 ∨ (0 ≤ r ∧ r ≤ L ∧ n ≤ 1048576)) ∧ Below w.heap.size w w' := by
  by_cases h : (n : Int) ≤ L
  · go_enter Tryz.func57, Tryz.ntmps57
    go_wp2
    go_ret
    exact ⟨_, rfl, .inr ⟨by omega, by omega, by omega⟩, Below.refl _ _⟩
  · go_enter Tryz.func57, Tryz.ntmps57
    go_wp2
    go_ret
    exact ⟨_, rfl, .inl rfl, Below.refl _ _⟩

end Go.Proofs.YtcioofnmhfehaaaGreat
