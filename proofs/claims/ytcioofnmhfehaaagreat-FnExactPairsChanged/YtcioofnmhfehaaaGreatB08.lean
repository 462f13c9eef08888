/-
  OWN TEXT: InfoI, IntsEq, Ints.
-/
import Derived.Test.YtcioofnmhfehaaaGreatRows
import Derived.Test.YtcioofnmhfehaaaGreatB00
namespace Go.Proofs.YtcioofnmhfehaaaGreat
open Go.RowKit

theorem Tryz.infoInt : (Tryz.prog.info? 3).map (fun i => (i.zero, i.size, i.bytes)) = some (some (.int .i64 0), 1, 8) := by kernel_rfl

end Go.Proofs.YtcioofnmhfehaaaGreat

namespace Go.Proofs.YtcioofnmhfehaaaGreat
open Go.RowKit

/-- eqIntS at two lists that are one. -/
theorem eqIntS_same (ao bo : Option Addr) (n c1 c2 : Nat) (f : Nat → Int) (w : World) (hn : n ≤ 1048576) (hx : IntsAt w ao n f) (hy : IntsAt w bo n f) :
    Calls Tryz.prog 8 #[.slice ao n c1, .slice bo n c2] w fun e w' => e = .returned (.bool true) ∧ Below w.heap.size w w' := by
  go_enter Tryz.func8, Tryz.ntmps8
  go_wp2
  go_loopw [5] (fun i wr => ∃ k : Nat, k ≤ n ∧ i = .int .i64 k ∧ Below w.heap.size w wr) (fun i _ => n - (intOf i).toNat)
  case atStart => exact ⟨0, Nat.zero_le _, rfl, Below.refl _ _⟩
  case round =>
    obtain ⟨k, hk, rfl, hbel⟩ := hrel
    by_cases hlt : k < n
    · obtain ⟨b, off, rfl, hc⟩ := hx k (by omega)
      obtain ⟨b2, off2, rfl, hd⟩ := hy k (by omega)
      have hc' : wr.cell? ⟨b, off + k, none⟩ = some (.int .i64 (f k)) := (hbel.cell (World.block_lt_of_cell? w _ hc)).trans hc
      have hd' : wr.cell? ⟨b2, off2 + k, none⟩ = some (.int .i64 (f k)) := (hbel.cell (World.block_lt_of_cell? w _ hd)).trans hd
      clear hc hd
      go_wp2
      go_quiet (fail)
      go_wp2
      go_roundw
      case rel => exact ⟨k + 1, by omega, by go_num, below_drewN hbel _⟩
      case measure => simp [intOf]; omega
    · go_wp2
      go_ret
      exact ⟨rfl, hbel⟩

end Go.Proofs.YtcioofnmhfehaaaGreat

namespace Go.Proofs.YtcioofnmhfehaaaGreat
open Go.RowKit

set_option maxHeartbeats 400000 in
/-- toIntS: a copy of the numbers in a new row. -/
theorem toIntS_any (ao : Option Addr) (n cap : Nat) (f : Nat → Int) (w : World) (hn : n ≤ 1048576) (hz : IntsAt w ao n f) :
    Calls Tryz.prog 68 #[.slice ao n cap] w fun e w' => ∃ g, e = .returned (.slice (some ⟨g, 0, none⟩) n n) ∧ w.heap.size ≤ g ∧
      w'.rowIs g 3 n (fun k => .int .i64 (f k)) ∧ Below w.heap.size w w' := by
  have hmk := run_make_row' (P := Tryz.prog) 28 3 (.int .i64 0) 8 Tryz.underlying28 Tryz.infoInt rfl .i64 .i64 n (by omega) (by omega)
  go_enter Tryz.func68, Tryz.ntmps68
  go_wp2
  go_loopw [4] (fun i wr => ∃ k : Nat, k ≤ n ∧ i = .int .i64 k ∧ wr.rowIs w.heap.size 3 n (fun j => if j < k then .int .i64 (f j) else .int .i64 0) ∧ Below w.heap.size w wr)
    (fun i _ => n - (intOf i).toNat)
  case atStart => exact ⟨0, Nat.zero_le _, rfl, (World.rowIs_made _ _ _ _).congr (by simp), (Below.refl _ _).alloc (Nat.le_refl _) _⟩
  case round =>
    obtain ⟨k, hk, rfl, hrow, hbel⟩ := hrel
    by_cases hlt : k < n
    · obtain ⟨b, off, rfl, hc⟩ := (hz k (by omega))
      have hc' : wr.cell? ⟨b, off + k, none⟩ = some (.int .i64 (f k)) := (hbel.cell (World.block_lt_of_cell? w _ hc)).trans hc
      have ho := hrow.cell (i := k) hlt
      have hf := hrow.frozen k
      simp only [Nat.lt_irrefl, if_false] at ho
      clear hc
      go_wp2
      go_roundw
      case rel => exact ⟨k + 1, by omega, by go_num, (hrow.set k _).congr (fun j hj => fill_step (fun j => Value.int .i64 (f j)) _ k j), hbel.setCell (Nat.le_refl _) _⟩
      case measure => simp [intOf]; omega
    · go_wp2
      go_ret
      exact ⟨_, rfl, Nat.le_refl _, hrow.congr (fun j hj => by rw [if_pos (by omega)]), hbel⟩

end Go.Proofs.YtcioofnmhfehaaaGreat
