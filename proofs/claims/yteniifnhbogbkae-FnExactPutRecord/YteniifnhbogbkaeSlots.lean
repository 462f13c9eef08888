/-
  OWN TEXT: contracts of the laws' helpers over slots: toSlot, toSlotS, eqSlot, eqSlotS.
-/
import Derived.Test.YteniifnhbogbkaeInts
import Derived.Deep.RegionHeld3
namespace Go.Proofs.Yteniifnhbogbkae
open Go.RowKit

theorem Try.infoSlot : (Try.prog.info? 68).map (fun i => (i.zero, i.size, i.bytes)) = some (some (.agg #[.int .i64 0, .bool false, .int .i64 0]), 3, 24) := by kernel_rfl

set_option maxHeartbeats 400000 in
theorem toSlot_any (a v : Int) (u : Bool) (w : World) :
    Calls Try.prog 55 #[.agg #[.int .i64 a, .bool u, .int .i64 v]] w fun e w' => e = .returned (.agg #[.int .i64 a, .bool u, .int .i64 v]) ∧ Below w.heap.size w w' := by
  go_enter Try.func55, Try.ntmps55
  go_wp2
  exact bodyPost_ret (v := .agg #[.int .i64 a, .bool u, .int .i64 v]) (by simp [results, Try.results55, go_sem]) rfl ⟨rfl, push (push (push (Below.refl _ _) _) _) _⟩

set_option maxHeartbeats 400000 in
theorem eqSlot_same (a v : Int) (u : Bool) (w : World) :
    Calls Try.prog 58 #[.agg #[.int .i64 a, .bool u, .int .i64 v], .agg #[.int .i64 a, .bool u, .int .i64 v]] w fun e w' => e = .returned (.bool true) ∧ Below w.heap.size w w' := by
  go_enter Try.func58, Try.ntmps58
  go_wp2
  go_ret
  exact ⟨rfl, push (push (Below.refl _ _) _) _⟩

set_option maxHeartbeats 400000 in
set_option maxRecDepth 100000 in
/-- toSlotS: a copy of the slots in a new row. -/
theorem toSlotS_any (ao : Option Addr) (n cap : Nat) (A : Nat → Int) (U : Nat → Bool) (V : Nat → Int) (w : World) (hn : n ≤ 1048576) (hz : SlotsAt w ao n A U V) :
    Calls Try.prog 36 #[.slice ao n cap] w fun e w' => ∃ g, e = .returned (.slice (some ⟨g, 0, none⟩) n n) ∧ w.heap.size ≤ g ∧
      w'.rowIs g 68 (n * 3) (slotCell A U V) ∧ Below w.heap.size w w' := by
  obtain ⟨i0, hi, hz0, hz1, hz2⟩ := info_parts Try.infoSlot
  go_enter Try.func36, Try.ntmps36
  go_wp2_with (first | (at_make; refine wpList_make_full _ rfl _ _ 37 rfl w.heap.size 68 i0 _ 3 Try.underlying37 hi hz0 hz1 .i64 .i64 _ _ n rfl rfl rfl rfl (by rw [hz2]; omega) (by unfold maxLen; omega) (Nat.le_refl _) ?_; intro w1 hown1 hgrow1))
  go_loopw [4] (fun i wr => ∃ k : Nat, k ≤ n ∧ i = .int .i64 k ∧ wr.rowIs w.heap.size 68 (n * 3) (slotCell (upto k A 0) (upto k U false) (upto k V 0)) ∧ Below w.heap.size w wr)
    (fun i _ => n - (intOf i).toNat)
  case atStart => exact ⟨0, Nat.zero_le _, rfl, (row_of_own hown1).congr (fun j hj => made_slots n j hj), (Below.refl _ _).grown hgrow1 (Nat.le_refl _) (by simp)⟩
  case round =>
    obtain ⟨k, hk, rfl, hrow, hbel⟩ := hrel
    clear hown1 hgrow1
    by_cases hlt : k < n
    · obtain ⟨b, off, rfl, h1, h2, h3⟩ := hz k (by omega)
      have hb := World.block_lt_of_cell? w _ h1
      have c1 := (hbel.cell (p := ⟨b, off + k * 3, none⟩) hb).trans h1
      have c2 := (hbel.cell (p := ⟨b, off + k * 3 + 1, none⟩) hb).trans h2
      have c3 := (hbel.cell (p := ⟨b, off + k * 3 + 2, none⟩) hb).trans h3
      clear h1 h2 h3
      go_wp2_with (first | (go_at_call 55; refine (toSlot_any _ _ _ _).mono ?_; rintro e w2 ⟨rfl, hb2⟩; have hr2 := hrow.of_block (hb2.block _ hrow.lt); have o1 := hr2.cell (i := k * 3) (by omega); have o2 := hr2.cell (i := k * 3 + 1) (by omega); have o3 := hr2.cell (i := k * 3 + 2) (by omega); have f1 := hr2.frozen (k * 3); have f2 := hr2.frozen (k * 3 + 1); have f3 := hr2.frozen (k * 3 + 2)))
      go_roundw
      case rel =>
        refine ⟨k + 1, by omega, by go_num, ?_, ?_⟩
        · have := slot_set (k := k) (A' := upto (k + 1) A 0) (U' := upto (k + 1) U false) (V' := upto (k + 1) V 0) hr2 (fun i h => upto_step _ _ _ _ h) (fun i h => upto_step _ _ _ _ h) (fun i h => upto_step _ _ _ _ h)
          rw [upto_lt A _ (Nat.lt_succ_self k), upto_lt U _ (Nat.lt_succ_self k), upto_lt V _ (Nat.lt_succ_self k)] at this
          exact this
        · exact (((after hbel hb2).setCell (Nat.le_refl _) _).setCell (Nat.le_refl _) _).setCell (Nat.le_refl _) _
      case measure => simp [intOf]; omega
    · go_wp2
      go_ret
      exact ⟨_, rfl, Nat.le_refl _, hrow.congr (fun j hj => by unfold slotCell; rw [upto_lt _ _ (by omega), upto_lt _ _ (by omega), upto_lt _ _ (by omega)]), hbel⟩

set_option maxHeartbeats 400000 in
set_option maxRecDepth 100000 in
/-- eqSlotS at two lists that are one. -/
theorem eqSlotS_same (ao bo : Option Addr) (n c1 c2 : Nat) (A : Nat → Int) (U : Nat → Bool) (V : Nat → Int) (w : World) (hn : n ≤ 1048576) (hx : SlotsAt w ao n A U V) (hy : SlotsAt w bo n A U V) :
    Calls Try.prog 40 #[.slice ao n c1, .slice bo n c2] w fun e w' => e = .returned (.bool true) ∧ Below w.heap.size w w' := by
  go_enter Try.func40, Try.ntmps40
  go_wp2
  go_loopw [5] (fun i wr => ∃ k : Nat, k ≤ n ∧ i = .int .i64 k ∧ Below w.heap.size w wr) (fun i _ => n - (intOf i).toNat)
  case atStart => exact ⟨0, Nat.zero_le _, rfl, Below.refl _ _⟩
  case round =>
    obtain ⟨k, hk, rfl, hbel⟩ := hrel
    by_cases hlt : k < n
    · obtain ⟨b, off, rfl, h1, h2, h3⟩ := hx k (by omega)
      obtain ⟨b2, off2, rfl, g1, g2, g3⟩ := hy k (by omega)
      have hb := World.block_lt_of_cell? w _ h1
      have hb2 := World.block_lt_of_cell? w _ g1
      have c1 := (hbel.cell (p := ⟨b, off + k * 3, none⟩) hb).trans h1
      have c2 := (hbel.cell (p := ⟨b, off + k * 3 + 1, none⟩) hb).trans h2
      have c3 := (hbel.cell (p := ⟨b, off + k * 3 + 2, none⟩) hb).trans h3
      have d1 := (hbel.cell (p := ⟨b2, off2 + k * 3, none⟩) hb2).trans g1
      have d2 := (hbel.cell (p := ⟨b2, off2 + k * 3 + 1, none⟩) hb2).trans g2
      have d3 := (hbel.cell (p := ⟨b2, off2 + k * 3 + 2, none⟩) hb2).trans g3
      clear h1 h2 h3 g1 g2 g3
      have hbw : b < wr.heap.size := Nat.lt_of_lt_of_le hb hbel.size
      have hbw2 : b2 < wr.heap.size := Nat.lt_of_lt_of_le hb2 hbel.size
      have i1 : (0 : Int) ≤ (k : Int) := by omega
      have i2 : (k : Int) < (n : Int) := by omega
      go_wp2
      go_region_held3 (fun w' => w'.cell? ⟨b, off + k * 3, none⟩ = some (.int .i64 (A k)) ∧ w'.cell? ⟨b, off + k * 3 + 1, none⟩ = some (.bool (U k)) ∧ w'.cell? ⟨b, off + k * 3 + 2, none⟩ = some (.int .i64 (V k)) ∧ w'.cell? ⟨b2, off2 + k * 3, none⟩ = some (.int .i64 (A k)) ∧ w'.cell? ⟨b2, off2 + k * 3 + 1, none⟩ = some (.bool (U k)) ∧ w'.cell? ⟨b2, off2 + k * 3 + 2, none⟩ = some (.int .i64 (V k)))
        (first | exact ⟨c1, c2, c3, d1, d2, d3⟩ | exact ⟨(hbb.cell hbw).trans c1, (hbb.cell hbw).trans c2, (hbb.cell hbw).trans c3, (hbb.cell hbw2).trans d1, (hbb.cell hbw2).trans d2, (hbb.cell hbw2).trans d3⟩)
        (first | (go_at_call 58; refine (eqSlot_same _ _ _ _).mono ?_; rintro e w2 ⟨rfl, hbb⟩))
      go_wp2
      go_roundw
      case rel => exact ⟨k + 1, by omega, by go_num, after hbel.drew hbb⟩
      case measure => simp [intOf]; omega
    · go_wp2
      go_ret
      exact ⟨rfl, hbel⟩

end Go.Proofs.Yteniifnhbogbkae
