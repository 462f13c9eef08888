/-
  OWN TEXT: the contract of laws.heldRoomS.
-/
import Derived.Test.YtaalhmaacaahhaiMarkRoom
namespace Go.Proofs.Ytaalhmaacaahhai
open Go.RowKit

set_option maxHeartbeats 800000 in
set_option maxRecDepth 100000 in
theorem heldRoomS_yes (ao : Option Addr) (n c : Nat) (k0 : Int) (w : World) (hn : n ≤ 2097152) (h0 : 0 ≤ k0) (h1 : k0 ≤ 1000000000000000) (hz : RoomsAt w ao n (roomMark k0)) :
    Calls Try.prog 39 #[.slice ao n c, .int .i64 k0] w fun e w' => e = .returned (.int .i64 (k0 + 4 * n)) ∧ w' = w := by
  go_enter Try.func39, Try.ntmps39
  go_wp2
  go_loop [1, 5] (fun q i => ∃ t : Nat, t ≤ n ∧ i = .int .i64 t ∧ q = .int .i64 (k0 + 4 * t)) (fun _ i => n - (intOf i).toNat)
  case atStart => exact ⟨0, Nat.zero_le _, rfl, by simp⟩
  case round =>
    obtain ⟨t, ht, rfl, rfl⟩ := hrel
    by_cases hlt : t < n
    · obtain ⟨b, off, rfl, c0, c1, c2, c3⟩ := hz t hlt
      simp only [roomMark] at c0 c1 c2 c3
      rw [show k0 + 4 * (t : Int) + 3 = k0 + 4 * (t : Int) + 1 + 1 + 1 by omega] at c3
      go_wp2
      go_round
      case rel => exact ⟨t + 1, by omega, by go_num, by go_num⟩
      case measure => simp [intOf]; omega
    · obtain rfl : t = n := by omega
      go_wp2
      go_ret
      exact ⟨rfl, rfl⟩

end Go.Proofs.Ytaalhmaacaahhai
