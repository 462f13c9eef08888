/-
  OWN TEXT: the contract of laws.heldSeatS.
-/
import Derived.Test.YtclcjnbjpelcjajMarkSeat
namespace Go.Proofs.Ytclcjnbjpelcjaj
open Go.RowKit

set_option maxHeartbeats 800000 in
set_option maxRecDepth 100000 in
theorem heldSeatS_yes (ao : Option Addr) (n c : Nat) (k0 : Int) (w : World) (hn : n ≤ 2097152) (h0 : 0 ≤ k0) (h1 : k0 ≤ 1000000000000000) (hz : SeatsAt w ao n (seatMark k0)) :
    Calls Try.prog 13 #[.slice ao n c, .int .i64 k0] w fun e w' => e = .returned (.int .i64 (k0 + 2 * n)) ∧ w' = w := by
  go_enter Try.func13, Try.ntmps13
  go_wp2
  go_loop [1, 5] (fun q i => ∃ t : Nat, t ≤ n ∧ i = .int .i64 t ∧ q = .int .i64 (k0 + 2 * t)) (fun _ i => n - (intOf i).toNat)
  case atStart => exact ⟨0, Nat.zero_le _, rfl, by simp⟩
  case round =>
    obtain ⟨t, ht, rfl, rfl⟩ := hrel
    by_cases hlt : t < n
    · obtain ⟨b, off, rfl, c0, c1⟩ := hz t hlt
      simp only [seatMark] at c0 c1
      go_wp2
      go_round
      case rel => exact ⟨t + 1, by omega, by go_num, by go_num⟩
      case measure => simp [intOf]; omega
    · obtain rfl : t = n := by omega
      go_wp2
      go_ret
      exact ⟨rfl, rfl⟩

end Go.Proofs.Ytclcjnbjpelcjaj
