/-
  OWN TEXT: the contracts of the laws' helpers eqRow and eqRowS.
-/
import Derived.Test.YtogbaoggebghdaaRows
import Derived.Test.YtogbaoggebghdaaKitMRow
import Derived.Deep.RegionHeld3
namespace Go.Proofs.Ytogbaoggebghdaa
open Go.RowKit

set_option maxHeartbeats 400000 in
theorem eqRow_same (a0 : Int) (a1 : ByteArray) (a2 : Int) (a3 : Int) (a4 : Int) (w : World) :
    Calls Try.prog 72 #[.agg #[.int .i64 a0, .string a1, .int .i64 a2, .int .i64 a3, .int .i64 a4], .agg #[.int .i64 a0, .string a1, .int .i64 a2, .int .i64 a3, .int .i64 a4]] w fun e w' => e = .returned (.bool true) ∧ Below w.heap.size w w' := by
  go_enter Try.func72, Try.ntmps72
  go_wp2
  go_ret
  exact ⟨rfl, push (push (Below.refl _ _) _) _⟩

set_option maxHeartbeats 800000 in
set_option maxRecDepth 100000 in
/-- eqRowS at two lists that are one. -/
theorem eqRowS_same (ao bo : Option Addr) (n c1 c2 : Nat) (S : Nat → MRow) (w : World) (hn : n ≤ 2097152) (hx : MRowsAt w ao n S) (hy : MRowsAt w bo n S) :
    Calls Try.prog 56 #[.slice ao n c1, .slice bo n c2] w fun e w' => e = .returned (.bool true) ∧ Below w.heap.size w w' := by
  go_enter Try.func56, Try.ntmps56
  go_wp2
  go_loopw [5] (fun i wr => ∃ k : Nat, k ≤ n ∧ i = .int .i64 k ∧ Below w.heap.size w wr) (fun i _ => n - (intOf i).toNat)
  case atStart => exact ⟨0, Nat.zero_le _, rfl, Below.refl _ _⟩
  case round =>
    obtain ⟨k, hk, rfl, hbel⟩ := hrel
    by_cases hlt : k < n
    · obtain ⟨b, off, rfl, h0, h1, h2, h3, h4⟩ := hx k (by omega)
      obtain ⟨b2, off2, rfl, g0, g1, g2, g3, g4⟩ := hy k (by omega)
      have hb := World.block_lt_of_cell? w _ h0
      have hb2 := World.block_lt_of_cell? w _ g0
      have c0 := (hbel.cell (p := ⟨b, off + k * 5, none⟩) hb).trans h0
      have d0 := (hbel.cell (p := ⟨b2, off2 + k * 5, none⟩) hb2).trans g0
      have c1 := (hbel.cell (p := ⟨b, off + k * 5 + 1, none⟩) hb).trans h1
      have d1 := (hbel.cell (p := ⟨b2, off2 + k * 5 + 1, none⟩) hb2).trans g1
      have c2 := (hbel.cell (p := ⟨b, off + k * 5 + 2, none⟩) hb).trans h2
      have d2 := (hbel.cell (p := ⟨b2, off2 + k * 5 + 2, none⟩) hb2).trans g2
      have c3 := (hbel.cell (p := ⟨b, off + k * 5 + 3, none⟩) hb).trans h3
      have d3 := (hbel.cell (p := ⟨b2, off2 + k * 5 + 3, none⟩) hb2).trans g3
      have c4 := (hbel.cell (p := ⟨b, off + k * 5 + 4, none⟩) hb).trans h4
      have d4 := (hbel.cell (p := ⟨b2, off2 + k * 5 + 4, none⟩) hb2).trans g4
      clear h0 g0 h1 g1 h2 g2 h3 g3 h4 g4
      have hbw : b < wr.heap.size := Nat.lt_of_lt_of_le hb hbel.size
      have hbw2 : b2 < wr.heap.size := Nat.lt_of_lt_of_le hb2 hbel.size
      have i1 : (0 : Int) ≤ (k : Int) := by omega
      have i2 : (k : Int) < (n : Int) := by omega
      go_wp2
      go_region_held3 (fun w' => w'.cell? ⟨b, off + k * 5, none⟩ = some (.int .i64 (S k).name) ∧ w'.cell? ⟨b, off + k * 5 + 1, none⟩ = some (.string (S k).own) ∧ w'.cell? ⟨b, off + k * 5 + 2, none⟩ = some (.int .i64 (S k).pe) ∧ w'.cell? ⟨b, off + k * 5 + 3, none⟩ = some (.int .i64 (S k).ln) ∧ w'.cell? ⟨b, off + k * 5 + 4, none⟩ = some (.int .i64 (S k).cab) ∧ w'.cell? ⟨b2, off2 + k * 5, none⟩ = some (.int .i64 (S k).name) ∧ w'.cell? ⟨b2, off2 + k * 5 + 1, none⟩ = some (.string (S k).own) ∧ w'.cell? ⟨b2, off2 + k * 5 + 2, none⟩ = some (.int .i64 (S k).pe) ∧ w'.cell? ⟨b2, off2 + k * 5 + 3, none⟩ = some (.int .i64 (S k).ln) ∧ w'.cell? ⟨b2, off2 + k * 5 + 4, none⟩ = some (.int .i64 (S k).cab))
        (first | exact ⟨c0, c1, c2, c3, c4, d0, d1, d2, d3, d4⟩ | exact ⟨(hbb.cell hbw).trans c0, (hbb.cell hbw).trans c1, (hbb.cell hbw).trans c2, (hbb.cell hbw).trans c3, (hbb.cell hbw).trans c4, (hbb.cell hbw2).trans d0, (hbb.cell hbw2).trans d1, (hbb.cell hbw2).trans d2, (hbb.cell hbw2).trans d3, (hbb.cell hbw2).trans d4⟩)
        (first | (go_at_call 72; refine (eqRow_same _ _ _ _ _ _).mono ?_; rintro e w2 ⟨rfl, hbb⟩))
      go_wp2
      go_roundw
      case rel => exact ⟨k + 1, by omega, by go_num, after hbel.drew hbb⟩
      case measure => simp [intOf]; omega
    · go_wp2
      go_ret
      exact ⟨rfl, hbel⟩

end Go.Proofs.Ytogbaoggebghdaa
