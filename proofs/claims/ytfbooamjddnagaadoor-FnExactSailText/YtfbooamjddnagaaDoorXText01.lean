/-
  OWN TEXT: LPair.
-/
import Derived.Test.YtfbooamjddnagaaDoorRows
import Derived.Deep.RegionHeld3
import Derived.Test.YtfbooamjddnagaaDoorXText00
import Derived.Test.YtfbooamjddnagaaDoorB02
namespace Go.Proofs.YtfbooamjddnagaaDoor
open Go.RowKit



set_option maxHeartbeats 400000 in
theorem toLane_any (a u : Int) (w : World) :
    Calls Tryd.prog 90 #[.agg #[.int .i64 a, .int .i64 u]] w fun e w' => e = .returned (.agg #[.int .i64 a, .int .i64 u]) ∧ Below w.heap.size w w' := by
  go_enter Tryd.func90, Tryd.ntmps90
  go_wp2
  exact bodyPost_ret (v := .agg #[.int .i64 a, .int .i64 u]) (by simp [results, Tryd.results90, go_sem]) rfl ⟨rfl, push (push (push (Below.refl _ _) _) _) _⟩

set_option maxHeartbeats 400000 in
theorem eqLane_same (a u : Int) (w : World) :
    Calls Tryd.prog 100 #[.agg #[.int .i64 a, .int .i64 u], .agg #[.int .i64 a, .int .i64 u]] w fun e w' => e = .returned (.bool true) ∧ Below w.heap.size w w' := by
  go_enter Tryd.func100, Tryd.ntmps100
  go_wp2
  go_ret
  exact ⟨rfl, push (push (Below.refl _ _) _) _⟩

set_option maxHeartbeats 400000 in
set_option maxRecDepth 100000 in
/-- toLaneS: a copy of the pairs in a new row. -/
theorem toLaneS_any (ao : Option Addr) (n cap : Nat) (l : Pairs) (w : World) (hl : l.n = n) (hn : n ≤ 1048576) (hz : PairsAt w ao l) :
    Calls Tryd.prog 52 #[.slice ao n cap] w fun e w' => ∃ g, e = .returned (.slice (some ⟨g, 0, none⟩) n n) ∧ w.heap.size ≤ g ∧
      w'.rowIs g 89 (n * 2) (pairCell l) ∧ Below w.heap.size w w' := by
  obtain ⟨i0, hi, hz0, hz1, hz2⟩ := info_parts Tryd.infoLane
  have HL : Hid (l.n = n) := hl
  clear hl
  go_enter Tryd.func52, Tryd.ntmps52
  go_wp2_with (first | (at_make; refine wpList_make_full _ rfl _ _ 46 rfl w.heap.size 89 i0 _ 2 Tryd.underlying46 hi hz0 hz1 .i64 .i64 _ _ n rfl rfl rfl rfl (by rw [hz2]; omega) (by unfold maxLen; omega) (Nat.le_refl _) ?_; intro w1 hown1 hgrow1))
  go_loopw [4] (fun i wr => ∃ k : Nat, k ≤ n ∧ i = .int .i64 k ∧ wr.rowIs w.heap.size 89 (n * 2) (pairCell (pairsTo k l)) ∧ Below w.heap.size w wr)
    (fun i _ => n - (intOf i).toNat)
  case atStart => exact ⟨0, Nat.zero_le _, rfl, (row_of_own hown1).congr (fun j hj => made_pairs n j hj), (Below.refl _ _).grown hgrow1 (Nat.le_refl _) (by simp)⟩
  case round =>
    obtain ⟨k, hk, rfl, hrow, hbel⟩ := hrel
    clear hown1 hgrow1
    by_cases hlt : k < n
    · obtain ⟨b, off, rfl, h1, h2⟩ := hz k (by rw [HL.out]; omega)
      have hb := World.block_lt_of_cell? w _ h1
      have c1 := (hbel.cell (p := ⟨b, off + k * 2, none⟩) hb).trans h1
      have c2 := (hbel.cell (p := ⟨b, off + k * 2 + 1, none⟩) hb).trans h2
      clear h1 h2
      go_wp2_with (first | (go_at_call 90; refine (toLane_any _ _ _).mono ?_; rintro e w2 ⟨rfl, hb2⟩; have hr2 := hrow.of_block (hb2.block _ hrow.lt); have o1 := hr2.cell (i := k * 2) (by omega); have o2 := hr2.cell (i := k * 2 + 1) (by omega); have f1 := hr2.frozen (k * 2); have f2 := hr2.frozen (k * 2 + 1)))
      go_roundw
      case rel =>
        refine ⟨k + 1, by omega, by go_num, ?_, ?_⟩
        · have := pair_set (k := k) (p' := pairsTo (k + 1) l) hr2 (fun i h => upto_step _ _ _ _ h) (fun i h => upto_step _ _ _ _ h)
          simp only [pairsTo, upto_lt _ _ (Nat.lt_succ_self k)] at this
          exact this
        · exact ((after hbel hb2).setCell (Nat.le_refl _) _).setCell (Nat.le_refl _) _
      case measure => simp [intOf]; omega
    · go_wp2
      go_ret
      exact ⟨_, rfl, Nat.le_refl _, hrow.congr (fun j hj => by unfold pairCell pairsTo; simp only; rw [upto_lt _ _ (by omega), upto_lt _ _ (by omega)]), hbel⟩

set_option maxHeartbeats 400000 in
set_option maxRecDepth 100000 in
/-- eqLaneS at two lists that are one. -/
theorem eqLaneS_same (ao bo : Option Addr) (n c1 c2 : Nat) (l : Pairs) (w : World) (hl : l.n = n) (hn : n ≤ 1048576) (hx : PairsAt w ao l) (hy : PairsAt w bo l) :
    Calls Tryd.prog 56 #[.slice ao n c1, .slice bo n c2] w fun e w' => e = .returned (.bool true) ∧ Below w.heap.size w w' := by
  have HL : Hid (l.n = n) := hl
  clear hl
  go_enter Tryd.func56, Tryd.ntmps56
  go_wp2
  go_loopw [5] (fun i wr => ∃ k : Nat, k ≤ n ∧ i = .int .i64 k ∧ Below w.heap.size w wr) (fun i _ => n - (intOf i).toNat)
  case atStart => exact ⟨0, Nat.zero_le _, rfl, Below.refl _ _⟩
  case round =>
    obtain ⟨k, hk, rfl, hbel⟩ := hrel
    by_cases hlt : k < n
    · obtain ⟨b, off, rfl, h1, h2⟩ := hx k (by rw [HL.out]; omega)
      obtain ⟨b2, off2, rfl, g1, g2⟩ := hy k (by rw [HL.out]; omega)
      have hb := World.block_lt_of_cell? w _ h1
      have hb2 := World.block_lt_of_cell? w _ g1
      have c1 := (hbel.cell (p := ⟨b, off + k * 2, none⟩) hb).trans h1
      have c2 := (hbel.cell (p := ⟨b, off + k * 2 + 1, none⟩) hb).trans h2
      have d1 := (hbel.cell (p := ⟨b2, off2 + k * 2, none⟩) hb2).trans g1
      have d2 := (hbel.cell (p := ⟨b2, off2 + k * 2 + 1, none⟩) hb2).trans g2
      clear h1 h2 g1 g2
      have hbw : b < wr.heap.size := Nat.lt_of_lt_of_le hb hbel.size
      have hbw2 : b2 < wr.heap.size := Nat.lt_of_lt_of_le hb2 hbel.size
      have i1 : (0 : Int) ≤ (k : Int) := by omega
      have i2 : (k : Int) < (n : Int) := by omega
      go_wp2
      go_region_held3 (fun w' => w'.cell? ⟨b, off + k * 2, none⟩ = some (.int .i64 (l.A k)) ∧ w'.cell? ⟨b, off + k * 2 + 1, none⟩ = some (.int .i64 (l.B k)) ∧ w'.cell? ⟨b2, off2 + k * 2, none⟩ = some (.int .i64 (l.A k)) ∧ w'.cell? ⟨b2, off2 + k * 2 + 1, none⟩ = some (.int .i64 (l.B k)))
        (first | exact ⟨c1, c2, d1, d2⟩ | exact ⟨(hbb.cell hbw).trans c1, (hbb.cell hbw).trans c2, (hbb.cell hbw2).trans d1, (hbb.cell hbw2).trans d2⟩)
        (first | (go_at_call 100; refine (eqLane_same _ _ _).mono ?_; rintro e w2 ⟨rfl, hbb⟩))
      go_wp2
      go_roundw
      case rel => exact ⟨k + 1, by omega, by go_num, after hbel.drew hbb⟩
      case measure => simp [intOf]; omega
    · go_wp2
      go_ret
      exact ⟨rfl, hbel⟩

set_option maxHeartbeats 400000 in
theorem szLaneS_any (ao : Option Addr) (n c : Nat) (L : Int) (w : World) (h0 : 0 ≤ L) (hL : L ≤ 1048576) (hn : n ≤ 1000000000000000) :
    Calls Tryd.prog 48 #[.slice ao n c, .int .i64 L] w fun e w' => ∃ r : Int, e = .returned (.int .i64 r) ∧ (r = -1 ∨ (0 ≤ r ∧ r ≤ L ∧ n ≤ 1048576)) ∧ Below w.heap.size w w' := by
  by_cases h : (n : Int) ≤ L
  · go_enter Tryd.func48, Tryd.ntmps48
    go_wp2
    go_ret
    exact ⟨_, rfl, .inr ⟨by omega, by omega, by omega⟩, Below.refl _ _⟩
  · go_enter Tryd.func48, Tryd.ntmps48
    go_wp2
    go_ret
    exact ⟨_, rfl, .inl rfl, Below.refl _ _⟩


set_option maxHeartbeats 400000 in
theorem toCabin_any (a u : Int) (w : World) :
    Calls Tryd.prog 91 #[.agg #[.int .i64 a, .int .i64 u]] w fun e w' => e = .returned (.agg #[.int .i64 a, .int .i64 u]) ∧ Below w.heap.size w w' := by
  go_enter Tryd.func91, Tryd.ntmps91
  go_wp2
  exact bodyPost_ret (v := .agg #[.int .i64 a, .int .i64 u]) (by simp [results, Tryd.results91, go_sem]) rfl ⟨rfl, push (push (push (Below.refl _ _) _) _) _⟩

set_option maxHeartbeats 400000 in
theorem eqCabin_same (a u : Int) (w : World) :
    Calls Tryd.prog 101 #[.agg #[.int .i64 a, .int .i64 u], .agg #[.int .i64 a, .int .i64 u]] w fun e w' => e = .returned (.bool true) ∧ Below w.heap.size w w' := by
  go_enter Tryd.func101, Tryd.ntmps101
  go_wp2
  go_ret
  exact ⟨rfl, push (push (Below.refl _ _) _) _⟩

set_option maxHeartbeats 400000 in
set_option maxRecDepth 100000 in
/-- toCabinS: a copy of the pairs in a new row. -/
theorem toCabinS_any (ao : Option Addr) (n cap : Nat) (l : Pairs) (w : World) (hl : l.n = n) (hn : n ≤ 1048576) (hz : PairsAt w ao l) :
    Calls Tryd.prog 53 #[.slice ao n cap] w fun e w' => ∃ g, e = .returned (.slice (some ⟨g, 0, none⟩) n n) ∧ w.heap.size ≤ g ∧
      w'.rowIs g 91 (n * 2) (pairCell l) ∧ Below w.heap.size w w' := by
  obtain ⟨i0, hi, hz0, hz1, hz2⟩ := info_parts Tryd.infoCabin
  have HL : Hid (l.n = n) := hl
  clear hl
  go_enter Tryd.func53, Tryd.ntmps53
  go_wp2_with (first | (at_make; refine wpList_make_full _ rfl _ _ 47 rfl w.heap.size 91 i0 _ 2 Tryd.underlying47 hi hz0 hz1 .i64 .i64 _ _ n rfl rfl rfl rfl (by rw [hz2]; omega) (by unfold maxLen; omega) (Nat.le_refl _) ?_; intro w1 hown1 hgrow1))
  go_loopw [4] (fun i wr => ∃ k : Nat, k ≤ n ∧ i = .int .i64 k ∧ wr.rowIs w.heap.size 91 (n * 2) (pairCell (pairsTo k l)) ∧ Below w.heap.size w wr)
    (fun i _ => n - (intOf i).toNat)
  case atStart => exact ⟨0, Nat.zero_le _, rfl, (row_of_own hown1).congr (fun j hj => made_pairs n j hj), (Below.refl _ _).grown hgrow1 (Nat.le_refl _) (by simp)⟩
  case round =>
    obtain ⟨k, hk, rfl, hrow, hbel⟩ := hrel
    clear hown1 hgrow1
    by_cases hlt : k < n
    · obtain ⟨b, off, rfl, h1, h2⟩ := hz k (by rw [HL.out]; omega)
      have hb := World.block_lt_of_cell? w _ h1
      have c1 := (hbel.cell (p := ⟨b, off + k * 2, none⟩) hb).trans h1
      have c2 := (hbel.cell (p := ⟨b, off + k * 2 + 1, none⟩) hb).trans h2
      clear h1 h2
      go_wp2_with (first | (go_at_call 91; refine (toCabin_any _ _ _).mono ?_; rintro e w2 ⟨rfl, hb2⟩; have hr2 := hrow.of_block (hb2.block _ hrow.lt); have o1 := hr2.cell (i := k * 2) (by omega); have o2 := hr2.cell (i := k * 2 + 1) (by omega); have f1 := hr2.frozen (k * 2); have f2 := hr2.frozen (k * 2 + 1)))
      go_roundw
      case rel =>
        refine ⟨k + 1, by omega, by go_num, ?_, ?_⟩
        · have := pair_set (k := k) (p' := pairsTo (k + 1) l) hr2 (fun i h => upto_step _ _ _ _ h) (fun i h => upto_step _ _ _ _ h)
          simp only [pairsTo, upto_lt _ _ (Nat.lt_succ_self k)] at this
          exact this
        · exact ((after hbel hb2).setCell (Nat.le_refl _) _).setCell (Nat.le_refl _) _
      case measure => simp [intOf]; omega
    · go_wp2
      go_ret
      exact ⟨_, rfl, Nat.le_refl _, hrow.congr (fun j hj => by unfold pairCell pairsTo; simp only; rw [upto_lt _ _ (by omega), upto_lt _ _ (by omega)]), hbel⟩

set_option maxHeartbeats 400000 in
set_option maxRecDepth 100000 in
/-- eqCabinS at two lists that are one. -/
theorem eqCabinS_same (ao bo : Option Addr) (n c1 c2 : Nat) (l : Pairs) (w : World) (hl : l.n = n) (hn : n ≤ 1048576) (hx : PairsAt w ao l) (hy : PairsAt w bo l) :
    Calls Tryd.prog 57 #[.slice ao n c1, .slice bo n c2] w fun e w' => e = .returned (.bool true) ∧ Below w.heap.size w w' := by
  have HL : Hid (l.n = n) := hl
  clear hl
  go_enter Tryd.func57, Tryd.ntmps57
  go_wp2
  go_loopw [5] (fun i wr => ∃ k : Nat, k ≤ n ∧ i = .int .i64 k ∧ Below w.heap.size w wr) (fun i _ => n - (intOf i).toNat)
  case atStart => exact ⟨0, Nat.zero_le _, rfl, Below.refl _ _⟩
  case round =>
    obtain ⟨k, hk, rfl, hbel⟩ := hrel
    by_cases hlt : k < n
    · obtain ⟨b, off, rfl, h1, h2⟩ := hx k (by rw [HL.out]; omega)
      obtain ⟨b2, off2, rfl, g1, g2⟩ := hy k (by rw [HL.out]; omega)
      have hb := World.block_lt_of_cell? w _ h1
      have hb2 := World.block_lt_of_cell? w _ g1
      have c1 := (hbel.cell (p := ⟨b, off + k * 2, none⟩) hb).trans h1
      have c2 := (hbel.cell (p := ⟨b, off + k * 2 + 1, none⟩) hb).trans h2
      have d1 := (hbel.cell (p := ⟨b2, off2 + k * 2, none⟩) hb2).trans g1
      have d2 := (hbel.cell (p := ⟨b2, off2 + k * 2 + 1, none⟩) hb2).trans g2
      clear h1 h2 g1 g2
      have hbw : b < wr.heap.size := Nat.lt_of_lt_of_le hb hbel.size
      have hbw2 : b2 < wr.heap.size := Nat.lt_of_lt_of_le hb2 hbel.size
      have i1 : (0 : Int) ≤ (k : Int) := by omega
      have i2 : (k : Int) < (n : Int) := by omega
      go_wp2
      go_region_held3 (fun w' => w'.cell? ⟨b, off + k * 2, none⟩ = some (.int .i64 (l.A k)) ∧ w'.cell? ⟨b, off + k * 2 + 1, none⟩ = some (.int .i64 (l.B k)) ∧ w'.cell? ⟨b2, off2 + k * 2, none⟩ = some (.int .i64 (l.A k)) ∧ w'.cell? ⟨b2, off2 + k * 2 + 1, none⟩ = some (.int .i64 (l.B k)))
        (first | exact ⟨c1, c2, d1, d2⟩ | exact ⟨(hbb.cell hbw).trans c1, (hbb.cell hbw).trans c2, (hbb.cell hbw2).trans d1, (hbb.cell hbw2).trans d2⟩)
        (first | (go_at_call 101; refine (eqCabin_same _ _ _).mono ?_; rintro e w2 ⟨rfl, hbb⟩))
      go_wp2
      go_roundw
      case rel => exact ⟨k + 1, by omega, by go_num, after hbel.drew hbb⟩
      case measure => simp [intOf]; omega
    · go_wp2
      go_ret
      exact ⟨rfl, hbel⟩

set_option maxHeartbeats 400000 in
theorem szCabinS_any (ao : Option Addr) (n c : Nat) (L : Int) (w : World) (h0 : 0 ≤ L) (hL : L ≤ 1048576) (hn : n ≤ 1000000000000000) :
    Calls Tryd.prog 49 #[.slice ao n c, .int .i64 L] w fun e w' => ∃ r : Int, e = .returned (.int .i64 r) ∧ (r = -1 ∨ (0 ≤ r ∧ r ≤ L ∧ n ≤ 1048576)) ∧ Below w.heap.size w w' := by
  by_cases h : (n : Int) ≤ L
  · go_enter Tryd.func49, Tryd.ntmps49
    go_wp2
    go_ret
    exact ⟨_, rfl, .inr ⟨by omega, by omega, by omega⟩, Below.refl _ _⟩
  · go_enter Tryd.func49, Tryd.ntmps49
    go_wp2
    go_ret
    exact ⟨_, rfl, .inl rfl, Below.refl _ _⟩

end Go.Proofs.YtfbooamjddnagaaDoor
