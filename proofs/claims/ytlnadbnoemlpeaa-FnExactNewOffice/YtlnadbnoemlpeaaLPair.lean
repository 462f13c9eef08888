/-
  OWN TEXT: contracts of the laws' helpers over lanes and cabins: to.., to..S, eq.., eq..S, sz..S.
-/
import Derived.Test.YtlnadbnoemlpeaaRows
import Derived.Test.YtlnadbnoemlpeaaKitS
import Derived.Deep.RegionHeld3
namespace Go.Proofs.Ytlnadbnoemlpeaa
open Go.RowKit


theorem Try.infoLane : (Try.prog.info? 77).map (fun i => (i.zero, i.size, i.bytes)) = some (some (.agg #[.int .i64 0, .int .i64 0]), 2, 16) := by kernel_rfl

set_option maxHeartbeats 400000 in
theorem toLane_any (a u : Int) (w : World) :
    Calls Try.prog 56 #[.agg #[.int .i64 a, .int .i64 u]] w fun e w' => e = .returned (.agg #[.int .i64 a, .int .i64 u]) ∧ Below w.heap.size w w' := by
  go_enter Try.func56, Try.ntmps56
  go_wp2
  exact bodyPost_ret (v := .agg #[.int .i64 a, .int .i64 u]) (by simp [results, Try.results56, go_sem]) rfl ⟨rfl, push (push (push (Below.refl _ _) _) _) _⟩

set_option maxHeartbeats 400000 in
theorem eqLane_same (a u : Int) (w : World) :
    Calls Try.prog 68 #[.agg #[.int .i64 a, .int .i64 u], .agg #[.int .i64 a, .int .i64 u]] w fun e w' => e = .returned (.bool true) ∧ Below w.heap.size w w' := by
  go_enter Try.func68, Try.ntmps68
  go_wp2
  go_ret
  exact ⟨rfl, push (push (Below.refl _ _) _) _⟩

set_option maxHeartbeats 400000 in
set_option maxRecDepth 100000 in
/-- toLaneS: a copy of the pairs in a new row. -/
theorem toLaneS_any (ao : Option Addr) (n cap : Nat) (l : Pairs) (w : World) (hl : l.n = n) (hn : n ≤ 1048576) (hz : PairsAt w ao l) :
    Calls Try.prog 35 #[.slice ao n cap] w fun e w' => ∃ g, e = .returned (.slice (some ⟨g, 0, none⟩) n n) ∧ w.heap.size ≤ g ∧
      w'.rowIs g 77 (n * 2) (pairCell l) ∧ Below w.heap.size w w' := by
  obtain ⟨i0, hi, hz0, hz1, hz2⟩ := info_parts Try.infoLane
  have HL : Hid (l.n = n) := hl
  clear hl
  go_enter Try.func35, Try.ntmps35
  go_wp2_with (first | (at_make; refine wpList_make_full _ rfl _ _ 44 rfl w.heap.size 77 i0 _ 2 Try.underlying44 hi hz0 hz1 .i64 .i64 _ _ n rfl rfl rfl rfl (by rw [hz2]; omega) (by unfold maxLen; omega) (Nat.le_refl _) ?_; intro w1 hown1 hgrow1))
  go_loopw [4] (fun i wr => ∃ k : Nat, k ≤ n ∧ i = .int .i64 k ∧ wr.rowIs w.heap.size 77 (n * 2) (pairCell (pairsTo k l)) ∧ Below w.heap.size w wr)
    (fun i _ => n - (intOf i).toNat)
  case atStart => exact ⟨0, Nat.zero_le _, rfl, (row_of_own hown1).congr (fun j hj => made_pairs n j hj), (Below.refl _ _).grown hgrow1 (Nat.le_refl _) (by simp)⟩
  case round =>
    obtain ⟨k, hk, rfl, hrow, hbel⟩ := hrel
    clear hown1 hgrow1
    by_cases hlt : k < n
    · obtain ⟨b, off, rfl, h1, h2⟩ := hz k (by rw [HL.out]; omega)
      have hb := World.block_lt_of_cell? w _ h1
      have c1 := (hbel.cell (p := ⟨b, off + k * 2, none⟩) hb).trans h1
      have c2 := (hbel.cell (p := ⟨b, off + k * 2 + 1, none⟩) hb).trans h2
      clear h1 h2
      go_wp2_with (first | (go_at_call 56; refine (toLane_any _ _ _).mono ?_; rintro e w2 ⟨rfl, hb2⟩; have hr2 := hrow.of_block (hb2.block _ hrow.lt); have o1 := hr2.cell (i := k * 2) (by omega); have o2 := hr2.cell (i := k * 2 + 1) (by omega); have f1 := hr2.frozen (k * 2); have f2 := hr2.frozen (k * 2 + 1)))
      go_roundw
      case rel =>
        refine ⟨k + 1, by omega, by go_num, ?_, ?_⟩
        · have := pair_set (k := k) (p' := pairsTo (k + 1) l) hr2 (fun i h => upto_step _ _ _ _ h) (fun i h => upto_step _ _ _ _ h)
          simp only [pairsTo, upto_lt _ _ (Nat.lt_succ_self k)] at this
          exact this
        · exact ((after hbel hb2).setCell (Nat.le_refl _) _).setCell (Nat.le_refl _) _
      case measure => simp [intOf]; omega
    · go_wp2
      go_ret
      exact ⟨_, rfl, Nat.le_refl _, hrow.congr (fun j hj => by unfold pairCell pairsTo; simp only; rw [upto_lt _ _ (by omega), upto_lt _ _ (by omega)]), hbel⟩

set_option maxHeartbeats 400000 in
set_option maxRecDepth 100000 in
/-- eqLaneS at two lists that are one. -/
theorem eqLaneS_same (ao bo : Option Addr) (n c1 c2 : Nat) (l : Pairs) (w : World) (hl : l.n = n) (hn : n ≤ 1048576) (hx : PairsAt w ao l) (hy : PairsAt w bo l) :
    Calls Try.prog 42 #[.slice ao n c1, .slice bo n c2] w fun e w' => e = .returned (.bool true) ∧ Below w.heap.size w w' := by
  have HL : Hid (l.n = n) := hl
  clear hl
  go_enter Try.func42, Try.ntmps42
  go_wp2
  go_loopw [5] (fun i wr => ∃ k : Nat, k ≤ n ∧ i = .int .i64 k ∧ Below w.heap.size w wr) (fun i _ => n - (intOf i).toNat)
  case atStart => exact ⟨0, Nat.zero_le _, rfl, Below.refl _ _⟩
  case round =>
    obtain ⟨k, hk, rfl, hbel⟩ := hrel
    by_cases hlt : k < n
    · obtain ⟨b, off, rfl, h1, h2⟩ := hx k (by rw [HL.out]; omega)
      obtain ⟨b2, off2, rfl, g1, g2⟩ := hy k (by rw [HL.out]; omega)
      have hb := World.block_lt_of_cell? w _ h1
      have hb2 := World.block_lt_of_cell? w _ g1
      have c1 := (hbel.cell (p := ⟨b, off + k * 2, none⟩) hb).trans h1
      have c2 := (hbel.cell (p := ⟨b, off + k * 2 + 1, none⟩) hb).trans h2
      have d1 := (hbel.cell (p := ⟨b2, off2 + k * 2, none⟩) hb2).trans g1
      have d2 := (hbel.cell (p := ⟨b2, off2 + k * 2 + 1, none⟩) hb2).trans g2
      clear h1 h2 g1 g2
      have hbw : b < wr.heap.size := Nat.lt_of_lt_of_le hb hbel.size
      have hbw2 : b2 < wr.heap.size := Nat.lt_of_lt_of_le hb2 hbel.size
      have i1 : (0 : Int) ≤ (k : Int) := by omega
      have i2 : (k : Int) < (n : Int) := by omega
      go_wp2
      go_region_held3 (fun w' => w'.cell? ⟨b, off + k * 2, none⟩ = some (.int .i64 (l.A k)) ∧ w'.cell? ⟨b, off + k * 2 + 1, none⟩ = some (.int .i64 (l.B k)) ∧ w'.cell? ⟨b2, off2 + k * 2, none⟩ = some (.int .i64 (l.A k)) ∧ w'.cell? ⟨b2, off2 + k * 2 + 1, none⟩ = some (.int .i64 (l.B k)))
        (first | exact ⟨c1, c2, d1, d2⟩ | exact ⟨(hbb.cell hbw).trans c1, (hbb.cell hbw).trans c2, (hbb.cell hbw2).trans d1, (hbb.cell hbw2).trans d2⟩)
        (first | (go_at_call 68; refine (eqLane_same _ _ _).mono ?_; rintro e w2 ⟨rfl, hbb⟩))
      go_wp2
      go_roundw
      case rel => exact ⟨k + 1, by omega, by go_num, after hbel.drew hbb⟩
      case measure => simp [intOf]; omega
    · go_wp2
      go_ret
      exact ⟨rfl, hbel⟩

set_option maxHeartbeats 400000 in
theorem szLaneS_any (ao : Option Addr) (n c : Nat) (L : Int) (w : World) (h0 : 0 ≤ L) (hL : L ≤ 1048576) (hn : n ≤ 1000000000000000) :
    Calls Try.prog 31 #[.slice ao n c, .int .i64 L] w fun e w' => ∃ r : Int, e = .returned (.int .i64 r) ∧ (r = -1 ∨ (0 ≤ r ∧ r ≤ L ∧ n ≤ 1048576)) ∧ Below w.heap.size w w' := by
  by_cases h : (n : Int) ≤ L
  · go_enter Try.func31, Try.ntmps31
    go_wp2
    go_ret
    exact ⟨_, rfl, .inr ⟨by omega, by omega, by omega⟩, Below.refl _ _⟩
  · go_enter Try.func31, Try.ntmps31
    go_wp2
    go_ret
    exact ⟨_, rfl, .inl rfl, Below.refl _ _⟩

theorem Try.infoCabin : (Try.prog.info? 80).map (fun i => (i.zero, i.size, i.bytes)) = some (some (.agg #[.int .i64 0, .int .i64 0]), 2, 16) := by kernel_rfl

set_option maxHeartbeats 400000 in
theorem toCabin_any (a u : Int) (w : World) :
    Calls Try.prog 57 #[.agg #[.int .i64 a, .int .i64 u]] w fun e w' => e = .returned (.agg #[.int .i64 a, .int .i64 u]) ∧ Below w.heap.size w w' := by
  go_enter Try.func57, Try.ntmps57
  go_wp2
  exact bodyPost_ret (v := .agg #[.int .i64 a, .int .i64 u]) (by simp [results, Try.results57, go_sem]) rfl ⟨rfl, push (push (push (Below.refl _ _) _) _) _⟩

set_option maxHeartbeats 400000 in
theorem eqCabin_same (a u : Int) (w : World) :
    Calls Try.prog 69 #[.agg #[.int .i64 a, .int .i64 u], .agg #[.int .i64 a, .int .i64 u]] w fun e w' => e = .returned (.bool true) ∧ Below w.heap.size w w' := by
  go_enter Try.func69, Try.ntmps69
  go_wp2
  go_ret
  exact ⟨rfl, push (push (Below.refl _ _) _) _⟩

set_option maxHeartbeats 400000 in
set_option maxRecDepth 100000 in
/-- toCabinS: a copy of the pairs in a new row. -/
theorem toCabinS_any (ao : Option Addr) (n cap : Nat) (l : Pairs) (w : World) (hl : l.n = n) (hn : n ≤ 1048576) (hz : PairsAt w ao l) :
    Calls Try.prog 36 #[.slice ao n cap] w fun e w' => ∃ g, e = .returned (.slice (some ⟨g, 0, none⟩) n n) ∧ w.heap.size ≤ g ∧
      w'.rowIs g 80 (n * 2) (pairCell l) ∧ Below w.heap.size w w' := by
  obtain ⟨i0, hi, hz0, hz1, hz2⟩ := info_parts Try.infoCabin
  have HL : Hid (l.n = n) := hl
  clear hl
  go_enter Try.func36, Try.ntmps36
  go_wp2_with (first | (at_make; refine wpList_make_full _ rfl _ _ 45 rfl w.heap.size 80 i0 _ 2 Try.underlying45 hi hz0 hz1 .i64 .i64 _ _ n rfl rfl rfl rfl (by rw [hz2]; omega) (by unfold maxLen; omega) (Nat.le_refl _) ?_; intro w1 hown1 hgrow1))
  go_loopw [4] (fun i wr => ∃ k : Nat, k ≤ n ∧ i = .int .i64 k ∧ wr.rowIs w.heap.size 80 (n * 2) (pairCell (pairsTo k l)) ∧ Below w.heap.size w wr)
    (fun i _ => n - (intOf i).toNat)
  case atStart => exact ⟨0, Nat.zero_le _, rfl, (row_of_own hown1).congr (fun j hj => made_pairs n j hj), (Below.refl _ _).grown hgrow1 (Nat.le_refl _) (by simp)⟩
  case round =>
    obtain ⟨k, hk, rfl, hrow, hbel⟩ := hrel
    clear hown1 hgrow1
    by_cases hlt : k < n
    · obtain ⟨b, off, rfl, h1, h2⟩ := hz k (by rw [HL.out]; omega)
      have hb := World.block_lt_of_cell? w _ h1
      have c1 := (hbel.cell (p := ⟨b, off + k * 2, none⟩) hb).trans h1
      have c2 := (hbel.cell (p := ⟨b, off + k * 2 + 1, none⟩) hb).trans h2
      clear h1 h2
      go_wp2_with (first | (go_at_call 57; refine (toCabin_any _ _ _).mono ?_; rintro e w2 ⟨rfl, hb2⟩; have hr2 := hrow.of_block (hb2.block _ hrow.lt); have o1 := hr2.cell (i := k * 2) (by omega); have o2 := hr2.cell (i := k * 2 + 1) (by omega); have f1 := hr2.frozen (k * 2); have f2 := hr2.frozen (k * 2 + 1)))
      go_roundw
      case rel =>
        refine ⟨k + 1, by omega, by go_num, ?_, ?_⟩
        · have := pair_set (k := k) (p' := pairsTo (k + 1) l) hr2 (fun i h => upto_step _ _ _ _ h) (fun i h => upto_step _ _ _ _ h)
          simp only [pairsTo, upto_lt _ _ (Nat.lt_succ_self k)] at this
          exact this
        · exact ((after hbel hb2).setCell (Nat.le_refl _) _).setCell (Nat.le_refl _) _
      case measure => simp [intOf]; omega
    · go_wp2
      go_ret
      exact ⟨_, rfl, Nat.le_refl _, hrow.congr (fun j hj => by unfold pairCell pairsTo; simp only; rw [upto_lt _ _ (by omega), upto_lt _ _ (by omega)]), hbel⟩

set_option maxHeartbeats 400000 in
set_option maxRecDepth 100000 in
/-- eqCabinS at two lists that are one. -/
theorem eqCabinS_same (ao bo : Option Addr) (n c1 c2 : Nat) (l : Pairs) (w : World) (hl : l.n = n) (hn : n ≤ 1048576) (hx : PairsAt w ao l) (hy : PairsAt w bo l) :
    Calls Try.prog 43 #[.slice ao n c1, .slice bo n c2] w fun e w' => e = .returned (.bool true) ∧ Below w.heap.size w w' := by
  have HL : Hid (l.n = n) := hl
  clear hl
  go_enter Try.func43, Try.ntmps43
  go_wp2
  go_loopw [5] (fun i wr => ∃ k : Nat, k ≤ n ∧ i = .int .i64 k ∧ Below w.heap.size w wr) (fun i _ => n - (intOf i).toNat)
  case atStart => exact ⟨0, Nat.zero_le _, rfl, Below.refl _ _⟩
  case round =>
    obtain ⟨k, hk, rfl, hbel⟩ := hrel
    by_cases hlt : k < n
    · obtain ⟨b, off, rfl, h1, h2⟩ := hx k (by rw [HL.out]; omega)
      obtain ⟨b2, off2, rfl, g1, g2⟩ := hy k (by rw [HL.out]; omega)
      have hb := World.block_lt_of_cell? w _ h1
      have hb2 := World.block_lt_of_cell? w _ g1
      have c1 := (hbel.cell (p := ⟨b, off + k * 2, none⟩) hb).trans h1
      have c2 := (hbel.cell (p := ⟨b, off + k * 2 + 1, none⟩) hb).trans h2
      have d1 := (hbel.cell (p := ⟨b2, off2 + k * 2, none⟩) hb2).trans g1
      have d2 := (hbel.cell (p := ⟨b2, off2 + k * 2 + 1, none⟩) hb2).trans g2
      clear h1 h2 g1 g2
      have hbw : b < wr.heap.size := Nat.lt_of_lt_of_le hb hbel.size
      have hbw2 : b2 < wr.heap.size := Nat.lt_of_lt_of_le hb2 hbel.size
      have i1 : (0 : Int) ≤ (k : Int) := by omega
      have i2 : (k : Int) < (n : Int) := by omega
      go_wp2
      go_region_held3 (fun w' => w'.cell? ⟨b, off + k * 2, none⟩ = some (.int .i64 (l.A k)) ∧ w'.cell? ⟨b, off + k * 2 + 1, none⟩ = some (.int .i64 (l.B k)) ∧ w'.cell? ⟨b2, off2 + k * 2, none⟩ = some (.int .i64 (l.A k)) ∧ w'.cell? ⟨b2, off2 + k * 2 + 1, none⟩ = some (.int .i64 (l.B k)))
        (first | exact ⟨c1, c2, d1, d2⟩ | exact ⟨(hbb.cell hbw).trans c1, (hbb.cell hbw).trans c2, (hbb.cell hbw2).trans d1, (hbb.cell hbw2).trans d2⟩)
        (first | (go_at_call 69; refine (eqCabin_same _ _ _).mono ?_; rintro e w2 ⟨rfl, hbb⟩))
      go_wp2
      go_roundw
      case rel => exact ⟨k + 1, by omega, by go_num, after hbel.drew hbb⟩
      case measure => simp [intOf]; omega
    · go_wp2
      go_ret
      exact ⟨rfl, hbel⟩

set_option maxHeartbeats 400000 in
theorem szCabinS_any (ao : Option Addr) (n c : Nat) (L : Int) (w : World) (h0 : 0 ≤ L) (hL : L ≤ 1048576) (hn : n ≤ 1000000000000000) :
    Calls Try.prog 32 #[.slice ao n c, .int .i64 L] w fun e w' => ∃ r : Int, e = .returned (.int .i64 r) ∧ (r = -1 ∨ (0 ≤ r ∧ r ≤ L ∧ n ≤ 1048576)) ∧ Below w.heap.size w w' := by
  by_cases h : (n : Int) ≤ L
  · go_enter Try.func32, Try.ntmps32
    go_wp2
    go_ret
    exact ⟨_, rfl, .inr ⟨by omega, by omega, by omega⟩, Below.refl _ _⟩
  · go_enter Try.func32, Try.ntmps32
    go_wp2
    go_ret
    exact ⟨_, rfl, .inl rfl, Below.refl _ _⟩

end Go.Proofs.Ytlnadbnoemlpeaa
