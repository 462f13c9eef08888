/-
  OWN TEXT: the contracts of laws.markIntS, laws.heldIntS.
-/
import Derived.Test.YtcioofnmhfehaaaIntsEq
import Derived.Test.YtcioofnmhfehaaaKit2
namespace Go.Proofs.Ytcioofnmhfehaaa
open Go.RowKit

set_option maxHeartbeats 400000 in
theorem markIntS_own (ao : Option Addr) (n c base : Nat) (F : Nat → Int) (k0 : Int) (w : World) (hn : n ≤ 4194304) (h0 : 0 ≤ k0) (h1 : k0 ≤ 1000000000000000) (ho : w.ownsRow base 3 1 (.slice ao n c) n (intList F n)) :
    Calls Try.prog 12 #[.slice ao n c, .int .i64 k0] w fun e w' => e = .returned (.int .i64 (k0 + n)) ∧ w'.ownsRow base 3 1 (.slice ao n c) n (intList (fun j => k0 + j) n) ∧ Kept w w' (fun b => ∃ g, ao = some ⟨g, 0, none⟩ ∧ b = g) := by
  go_enter Try.func12, Try.ntmps12
  go_wp2
  go_loopw [1, 5] (fun q i wr => ∃ t : Nat, t ≤ n ∧ i = .int .i64 t ∧ q = .int .i64 (k0 + t) ∧ wr.ownsRow base 3 1 (.slice ao n c) n ((List.range n).map (fun j => .int .i64 (if j < t then k0 + j else F j))) ∧ Kept w wr (fun b => ∃ g, ao = some ⟨g, 0, none⟩ ∧ b = g)) (fun _ i _ => n - (intOf i).toNat)
  case atStart => exact ⟨0, Nat.zero_le _, rfl, by simp, own_congr ho (by intro i _; simp), Kept.refl _ _⟩
  case round =>
    obtain ⟨t, ht, rfl, rfl, hown, hk⟩ := hrel
    by_cases hlt : t < n
    · obtain ⟨g, rfl, hg1, hg2⟩ := own_addr hown (by omega)
      have hc := own_cell hown t (by omega) (by omega)
      have hf := hown.frozenAt t
      go_wp2
      go_roundw
      case rel =>
        refine ⟨t + 1, by omega, by go_num, by go_num, ?_, hk.set ⟨g, rfl, rfl⟩ _⟩
        refine own_congr (own_store hown t _) (fun i _ => ?_)
        by_cases e : i = t
        · subst e; simp
        · simp only [if_neg e]
          by_cases e2 : i < t
          · rw [if_pos e2, if_pos (by omega)]
          · rw [if_neg e2, if_neg (by omega)]
      case measure => simp [intOf]; omega
    · have : t = n := by omega
      subst this
      go_wp2
      go_ret
      exact ⟨rfl, own_congr hown (by intro i hi; simp [hi]), hk⟩

set_option maxHeartbeats 400000 in
theorem heldIntS_yes (ao : Option Addr) (n c : Nat) (k0 : Int) (w : World) (hn : n ≤ 4194304) (h0 : 0 ≤ k0) (h1 : k0 ≤ 1000000000000000) (hz : IntsAt w ao n (fun j => k0 + j)) :
    Calls Try.prog 13 #[.slice ao n c, .int .i64 k0] w fun e w' => e = .returned (.int .i64 (k0 + n)) ∧ w' = w := by
  go_enter Try.func13, Try.ntmps13
  go_wp2
  go_loop [1, 5] (fun q i => ∃ t : Nat, t ≤ n ∧ i = .int .i64 t ∧ q = .int .i64 (k0 + t)) (fun _ i => n - (intOf i).toNat)
  case atStart => exact ⟨0, Nat.zero_le _, rfl, by simp⟩
  case round =>
    obtain ⟨t, ht, rfl, rfl⟩ := hrel
    by_cases hlt : t < n
    · obtain ⟨b, off, rfl, hc⟩ := hz t hlt
      go_wp2
      go_round
      case rel => exact ⟨t + 1, by omega, by go_num, by go_num⟩
      case measure => simp [intOf]; omega
    · have : t = n := by omega
      subst this
      go_wp2
      go_ret
      exact ⟨rfl, rfl⟩

end Go.Proofs.Ytcioofnmhfehaaa
