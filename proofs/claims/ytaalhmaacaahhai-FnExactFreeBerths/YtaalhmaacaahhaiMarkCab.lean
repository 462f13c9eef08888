/-
  OWN TEXT: the contract of laws.markCabinS.
-/
import Derived.Test.YtaalhmaacaahhaiLCab
import Derived.Test.YtaalhmaacaahhaiKit2
namespace Go.Proofs.Ytaalhmaacaahhai
open Go.RowKit

set_option maxHeartbeats 800000 in
theorem markCabinS_own (g n base : Nat) (f : Nat → Value) (k0 : Int) (w : World) (hn : n ≤ 1048576) (h0 : 0 ≤ k0) (h1 : k0 ≤ 1000000000000000) (ho : w.ownsRow base 89 2 (.slice (some ⟨g, 0, none⟩) n n) n ((List.range (n * 2)).map f)) :
    Calls Try.prog 33 #[.slice (some ⟨g, 0, none⟩) n n, .int .i64 k0] w fun e w' => e = .returned (.int .i64 (k0 + 2 * n)) ∧ (∃ f, w'.ownsRow base 89 2 (.slice (some ⟨g, 0, none⟩) n n) n ((List.range (n * 2)).map f)) ∧ Kept w w' (fun b => b = g) := by
  go_enter Try.func33, Try.ntmps33
  go_wp2
  go_loopw [1, 5] (fun q i wr => ∃ (t : Nat) (f : Nat → Value), t ≤ n ∧ i = .int .i64 t ∧ q = .int .i64 (k0 + 2 * t) ∧ wr.ownsRow base 89 2 (.slice (some ⟨g, 0, none⟩) n n) n ((List.range (n * 2)).map f) ∧ Kept w wr (fun b => b = g)) (fun _ i _ => n - (intOf i).toNat)
  case atStart => exact ⟨0, f, Nat.zero_le _, rfl, by simp, ho, Kept.refl _ _⟩
  case round =>
    obtain ⟨t, f, ht, rfl, rfl, hown, hk⟩ := hrel
    by_cases hlt : t < n
    · have hc0 := own_cell hown (t * 2) (by omega) rfl
      have hc1 := own_cell hown (t * 2 + 1) (by omega) rfl
      have hf0 := hown.frozenAt (t * 2)
      have hf1 := hown.frozenAt (t * 2 + 1)
      go_wp2
      go_roundw
      case rel => exact ⟨t + 1, _, by omega, by go_num, by go_num, own_store (own_store hown (t * 2) _) (t * 2 + 1) _, (hk.set (a := ⟨g, t * 2, none⟩) rfl _).set (a := ⟨g, t * 2 + 1, none⟩) rfl _⟩
      case measure => simp [intOf]; omega
    · obtain rfl : t = n := by omega
      go_wp2
      go_ret
      exact ⟨rfl, ⟨_, hown⟩, hk⟩

end Go.Proofs.Ytaalhmaacaahhai
