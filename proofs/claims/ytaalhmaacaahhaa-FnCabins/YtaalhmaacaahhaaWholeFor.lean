/-
  OWN TEXT: the contract of the program's wholeFor.
-/
import Derived.Test.YtaalhmaacaahhaaImplV
import Derived.Test.YtaalhmaacaahhaaPlainR6
import Derived.Deep.LoopGhost
namespace Go.Proofs.Ytaalhmaacaahhaa
open Go.RowKit

/-- A cabin of the class has so many berths. -/
def SomeFor (p : Pairs) (cl q : Int) : Prop := ∃ j, j < p.n ∧ p.A j = cl ∧ q ≤ p.B j

set_option maxHeartbeats 1600000 in
set_option maxRecDepth 100000 in
theorem wholeFor_any (ao : Option Addr) (m mc : Nat) (p : Pairs) (cl q : Int) (w : World) (hl : p.n = m) (hm : m ≤ 1048576) (hx : PairsAt w ao p) :
    Calls Try.prog 112 #[.slice ao m mc, .int .i64 cl, .int .i64 q] w fun e w' => (∃ lst : Int, e = .returned (.iface 224 (.agg #[.int .i64 lst])) ∧ ((lst = q ∧ SomeFor p cl q) ∨ (lst = 0 ∧ ¬ SomeFor p cl q))) ∧ Below w.heap.size w w' := by
  have HL : Hid (p.n = m) := hl
  clear hl
  go_enter Try.func112, Try.ntmps112
  go_wp2
  go_loopw [8, 11] (fun _ i wr => ∃ k : Nat, k ≤ m ∧ i = .int .i64 k ∧ (∀ j, j < k → ¬ (p.A j = cl ∧ q ≤ p.B j)) ∧ Below w.heap.size w wr) (fun _ i _ => m - (intOf i).toNat)
  case atStart => exact ⟨0, Nat.zero_le _, rfl, fun j hj => by omega, Below.refl _ _⟩
  case round =>
    obtain ⟨k, hk, rfl, hall, hbel⟩ := hrel
    have HA : Hid (∀ j, j < k → ¬ (p.A j = cl ∧ q ≤ p.B j)) := hall
    clear hall
    by_cases hlt : k < m
    · obtain ⟨b, off, rfl, h1, h2⟩ := hx k (by rw [HL.out]; omega)
      have hb := World.block_lt_of_cell? w _ h1
      have c1 := (hbel.cell (p := ⟨b, off + k * 2, none⟩) hb).trans h1
      have c2 := (hbel.cell (p := ⟨b, off + k * 2 + 1, none⟩) hb).trans h2
      clear h1 h2
      by_cases g1 : p.A k = cl
      · have e1 : (p.A k == cl) = true := by simpa using g1
        by_cases g2 : q ≤ p.B k
        · have e2 : decide (q ≤ p.B k) = true := decide_eq_true g2
          have HK : Hid (SomeFor p cl q) := ⟨k, by rw [HL.out]; exact hlt, g1, g2⟩
          clear g1 g2
          go_wp2
          go_ret
          exact ⟨⟨q, rfl, .inl ⟨rfl, HK.out⟩⟩, push hbel _⟩
        · have e2 : decide (q ≤ p.B k) = false := decide_eq_false g2
          have HK : Hid (¬ (p.A k = cl ∧ q ≤ p.B k)) := fun h => g2 h.2
          clear g1 g2
          go_wp2
          go_roundw
          case rel => exact ⟨k + 1, by omega, by go_num, fun j hj => by
            by_cases e : j = k
            · subst e; exact HK.out
            · exact HA.out j (by omega), push hbel _⟩
          case measure => simp [intOf]; omega
      · have e1 : (p.A k == cl) = false := by simpa using g1
        have HK : Hid (¬ (p.A k = cl ∧ q ≤ p.B k)) := fun h => g1 h.1
        clear g1
        go_wp2
        go_roundw
        case rel => exact ⟨k + 1, by omega, by go_num, fun j hj => by
          by_cases e : j = k
          · subst e; exact HK.out
          · exact HA.out j (by omega), push hbel _⟩
        case measure => simp [intOf]; omega
    · obtain rfl : k = m := by omega
      have HK : Hid (¬ SomeFor p cl q) := fun ⟨j, hj, h⟩ => HA.out j (by rw [HL.out] at hj; exact hj) h
      go_wp2
      go_ret
      exact ⟨⟨0, rfl, .inr ⟨rfl, HK.out⟩⟩, hbel⟩

end Go.Proofs.Ytaalhmaacaahhaa
