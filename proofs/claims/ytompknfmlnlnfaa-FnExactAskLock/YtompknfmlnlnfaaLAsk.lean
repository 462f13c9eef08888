/-
  OWN TEXT: contracts of the laws' helpers over those that ask: toAsked, toAskedS, eqAsked, eqAskedS.
-/
import Derived.Test.YtompknfmlnlnfaaRows
import Derived.Test.YtompknfmlnlnfaaKitL
import Derived.Deep.RegionHeld3
namespace Go.Proofs.Ytompknfmlnlnfaa
open Go.RowKit

theorem Try.infoAsked : (Try.prog.info? 65).map (fun i => (i.zero, i.size, i.bytes)) = some (some (.agg #[.int .i64 0, .bool false]), 2, 16) := by kernel_rfl

set_option maxHeartbeats 400000 in
theorem toAsked_any (a : Int) (u : Bool) (w : World) :
    Calls Try.prog 95 #[.agg #[.int .i64 a, .bool u]] w fun e w' => e = .returned (.agg #[.int .i64 a, .bool u]) ∧ Below w.heap.size w w' := by
  go_enter Try.func95, Try.ntmps95
  go_wp2
  exact bodyPost_ret (v := .agg #[.int .i64 a, .bool u]) (by simp [results, Try.results95, go_sem]) rfl ⟨rfl, push (push (push (Below.refl _ _) _) _) _⟩

set_option maxHeartbeats 400000 in
theorem eqAsked_same (a : Int) (u : Bool) (w : World) :
    Calls Try.prog 96 #[.agg #[.int .i64 a, .bool u], .agg #[.int .i64 a, .bool u]] w fun e w' => e = .returned (.bool true) ∧ Below w.heap.size w w' := by
  go_enter Try.func96, Try.ntmps96
  go_wp2
  go_ret
  exact ⟨rfl, push (push (Below.refl _ _) _) _⟩

set_option maxHeartbeats 400000 in
set_option maxRecDepth 100000 in
/-- toAskedS: a copy of the line in a new row. -/
theorem toAskedS_any (ao : Option Addr) (n cap : Nat) (l : Line) (w : World) (hl : l.n = n) (hn : n ≤ 1048576) (hz : LineAt w ao l) :
    Calls Try.prog 75 #[.slice ao n cap] w fun e w' => ∃ g, e = .returned (.slice (some ⟨g, 0, none⟩) n n) ∧ w.heap.size ≤ g ∧
      w'.rowIs g 65 (n * 2) (askCell l) ∧ Below w.heap.size w w' := by
  obtain ⟨i0, hi, hz0, hz1, hz2⟩ := info_parts Try.infoAsked
  have HL : Hid (l.n = n) := hl
  clear hl
  go_enter Try.func75, Try.ntmps75
  go_wp2_with (first | (at_make; refine wpList_make_full _ rfl _ _ 66 rfl w.heap.size 65 i0 _ 2 Try.underlying66 hi hz0 hz1 .i64 .i64 _ _ n rfl rfl rfl rfl (by rw [hz2]; omega) (by unfold maxLen; omega) (Nat.le_refl _) ?_; intro w1 hown1 hgrow1))
  go_loopw [4] (fun i wr => ∃ k : Nat, k ≤ n ∧ i = .int .i64 k ∧ wr.rowIs w.heap.size 65 (n * 2) (askCell (lineTo k l)) ∧ Below w.heap.size w wr)
    (fun i _ => n - (intOf i).toNat)
  case atStart => exact ⟨0, Nat.zero_le _, rfl, (row_of_own hown1).congr (fun j hj => made_asks n j hj), (Below.refl _ _).grown hgrow1 (Nat.le_refl _) (by simp)⟩
  case round =>
    obtain ⟨k, hk, rfl, hrow, hbel⟩ := hrel
    clear hown1 hgrow1
    by_cases hlt : k < n
    · obtain ⟨b, off, rfl, h1, h2⟩ := hz k (by rw [HL.out]; omega)
      have hb := World.block_lt_of_cell? w _ h1
      have c1 := (hbel.cell (p := ⟨b, off + k * 2, none⟩) hb).trans h1
      have c2 := (hbel.cell (p := ⟨b, off + k * 2 + 1, none⟩) hb).trans h2
      clear h1 h2
      go_wp2_with (first | (go_at_call 95; refine (toAsked_any _ _ _).mono ?_; rintro e w2 ⟨rfl, hb2⟩; have hr2 := hrow.of_block (hb2.block _ hrow.lt); have o1 := hr2.cell (i := k * 2) (by omega); have o2 := hr2.cell (i := k * 2 + 1) (by omega); have f1 := hr2.frozen (k * 2); have f2 := hr2.frozen (k * 2 + 1)))
      go_roundw
      case rel =>
        refine ⟨k + 1, by omega, by go_num, ?_, ?_⟩
        · have := ask_set (k := k) (l' := lineTo (k + 1) l) hr2 (fun i h => upto_step _ _ _ _ h) (fun i h => upto_step _ _ _ _ h)
          simp only [lineTo, upto_lt _ _ (Nat.lt_succ_self k)] at this
          exact this
        · exact ((after hbel hb2).setCell (Nat.le_refl _) _).setCell (Nat.le_refl _) _
      case measure => simp [intOf]; omega
    · go_wp2
      go_ret
      exact ⟨_, rfl, Nat.le_refl _, hrow.congr (fun j hj => by unfold askCell lineTo; simp only; rw [upto_lt _ _ (by omega), upto_lt _ _ (by omega)]), hbel⟩

set_option maxHeartbeats 400000 in
set_option maxRecDepth 100000 in
/-- eqAskedS at two lists that are one. -/
theorem eqAskedS_same (ao bo : Option Addr) (n c1 c2 : Nat) (l : Line) (w : World) (hl : l.n = n) (hn : n ≤ 1048576) (hx : LineAt w ao l) (hy : LineAt w bo l) :
    Calls Try.prog 76 #[.slice ao n c1, .slice bo n c2] w fun e w' => e = .returned (.bool true) ∧ Below w.heap.size w w' := by
  have HL : Hid (l.n = n) := hl
  clear hl
  go_enter Try.func76, Try.ntmps76
  go_wp2
  go_loopw [5] (fun i wr => ∃ k : Nat, k ≤ n ∧ i = .int .i64 k ∧ Below w.heap.size w wr) (fun i _ => n - (intOf i).toNat)
  case atStart => exact ⟨0, Nat.zero_le _, rfl, Below.refl _ _⟩
  case round =>
    obtain ⟨k, hk, rfl, hbel⟩ := hrel
    by_cases hlt : k < n
    · obtain ⟨b, off, rfl, h1, h2⟩ := hx k (by rw [HL.out]; omega)
      obtain ⟨b2, off2, rfl, g1, g2⟩ := hy k (by rw [HL.out]; omega)
      have hb := World.block_lt_of_cell? w _ h1
      have hb2 := World.block_lt_of_cell? w _ g1
      have c1 := (hbel.cell (p := ⟨b, off + k * 2, none⟩) hb).trans h1
      have c2 := (hbel.cell (p := ⟨b, off + k * 2 + 1, none⟩) hb).trans h2
      have d1 := (hbel.cell (p := ⟨b2, off2 + k * 2, none⟩) hb2).trans g1
      have d2 := (hbel.cell (p := ⟨b2, off2 + k * 2 + 1, none⟩) hb2).trans g2
      clear h1 h2 g1 g2
      have hbw : b < wr.heap.size := Nat.lt_of_lt_of_le hb hbel.size
      have hbw2 : b2 < wr.heap.size := Nat.lt_of_lt_of_le hb2 hbel.size
      have i1 : (0 : Int) ≤ (k : Int) := by omega
      have i2 : (k : Int) < (n : Int) := by omega
      go_wp2
      go_region_held3 (fun w' => w'.cell? ⟨b, off + k * 2, none⟩ = some (.int .i64 (l.T k)) ∧ w'.cell? ⟨b, off + k * 2 + 1, none⟩ = some (.bool (l.S k)) ∧ w'.cell? ⟨b2, off2 + k * 2, none⟩ = some (.int .i64 (l.T k)) ∧ w'.cell? ⟨b2, off2 + k * 2 + 1, none⟩ = some (.bool (l.S k)))
        (first | exact ⟨c1, c2, d1, d2⟩ | exact ⟨(hbb.cell hbw).trans c1, (hbb.cell hbw).trans c2, (hbb.cell hbw2).trans d1, (hbb.cell hbw2).trans d2⟩)
        (first | (go_at_call 96; refine (eqAsked_same _ _ _).mono ?_; rintro e w2 ⟨rfl, hbb⟩))
      go_wp2
      go_roundw
      case rel => exact ⟨k + 1, by omega, by go_num, after hbel.drew hbb⟩
      case measure => simp [intOf]; omega
    · go_wp2
      go_ret
      exact ⟨rfl, hbel⟩

end Go.Proofs.Ytompknfmlnlnfaa
