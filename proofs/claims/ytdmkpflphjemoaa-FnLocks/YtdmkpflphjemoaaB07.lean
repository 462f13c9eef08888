/-
  OWN TEXT: SpecIn, SpecHas.
-/
import Derived.Test.YtdmkpflphjemoaaRows
import Derived.Deep.RegionHeld3
import Derived.Test.YtdmkpflphjemoaaB00
namespace Go.Proofs.Ytdmkpflphjemoaa
open Go.RowKit

theorem l1In_yes (x lo hi : Int) (w : World) (h1 : lo ≤ x) (h2 : x ≤ hi) :
    Calls Try.prog 52 #[.int .i64 x, .int .i64 lo, .int .i64 hi] w fun e w' => e = .returned (.bool true) ∧ w' = w := by
  have e1 : decide (lo ≤ x) = true := by simpa using h1
  have e2 : decide (x ≤ hi) = true := by simpa using h2
  go_enter Try.func52, Try.ntmps52
  go_wp2
  go_ret
  exact ⟨rfl, rfl⟩

theorem l1In_low (x lo hi : Int) (w : World) (h1 : x < lo) :
    Calls Try.prog 52 #[.int .i64 x, .int .i64 lo, .int .i64 hi] w fun e w' => e = .returned (.bool false) ∧ w' = w := by
  have e1 : decide (lo ≤ x) = false := by simpa using h1
  go_enter Try.func52, Try.ntmps52
  go_wp2
  go_ret
  exact ⟨rfl, rfl⟩

theorem l1In_high (x lo hi : Int) (w : World) (h1 : lo ≤ x) (h2 : hi < x) :
    Calls Try.prog 52 #[.int .i64 x, .int .i64 lo, .int .i64 hi] w fun e w' => e = .returned (.bool false) ∧ w' = w := by
  have e1 : decide (lo ≤ x) = true := by simpa using h1
  have e2 : decide (x ≤ hi) = false := by simpa using h2
  go_enter Try.func52, Try.ntmps52
  go_wp2
  go_ret
  exact ⟨rfl, rfl⟩

theorem l1In_no (x lo hi : Int) (w : World) (h : ¬ (lo ≤ x ∧ x ≤ hi)) :
    Calls Try.prog 52 #[.int .i64 x, .int .i64 lo, .int .i64 hi] w fun e w' => e = .returned (.bool false) ∧ w' = w := by
  by_cases h1 : lo ≤ x
  · exact l1In_high x lo hi w h1 (by omega)
  · exact l1In_low x lo hi w (by omega)

end Go.Proofs.Ytdmkpflphjemoaa

namespace Go.Proofs.Ytdmkpflphjemoaa
open Go.RowKit

set_option maxHeartbeats 400000 in
theorem l1Has_no (ao : Option Addr) (n cap : Nat) (f : Nat → Int) (x : Int) (w : World) (hn : n ≤ 1048576) (hz : IntsAt w ao n f) (hno : ∀ j, j < n → f j ≠ x) :
    Calls Try.prog 51 #[.slice ao n cap, .int .i64 x] w fun e w' => e = .returned (.bool false) ∧ w' = w := by
  go_enter Try.func51, Try.ntmps51
  go_wp2
  go_loop [9] (fun i => ∃ k : Nat, k ≤ n ∧ i = .int .i64 k) (fun i => n - (intOf i).toNat)
  case atStart => exact ⟨0, Nat.zero_le _, rfl⟩
  case round =>
    obtain ⟨k, hk, rfl⟩ := hrel
    by_cases hlt : k < n
    · obtain ⟨b, off, rfl, hc⟩ := hz k hlt
      have hne : (f k == x) = false := by simpa using hno k hlt
      go_wp2
      go_round
      case rel => exact ⟨k + 1, by omega, by go_num⟩
      case measure => simp [intOf]; omega
    · go_wp2
      go_ret
      exact ⟨rfl, rfl⟩

set_option maxHeartbeats 400000 in
theorem l1Has_yes (ao : Option Addr) (n cap : Nat) (f : Nat → Int) (x : Int) (w : World) (hn : n ≤ 1048576) (hz : IntsAt w ao n f) (hyes : ∃ j, j < n ∧ f j = x) :
    Calls Try.prog 51 #[.slice ao n cap, .int .i64 x] w fun e w' => e = .returned (.bool true) ∧ w' = w := by
  have H : Hid (∃ j, j < n ∧ f j = x) := hyes
  clear hyes
  go_enter Try.func51, Try.ntmps51
  go_wp2
  go_loop [9] (fun i => ∃ k : Nat, k ≤ n ∧ i = .int .i64 k ∧ ∀ j, j < k → f j ≠ x) (fun i => n - (intOf i).toNat)
  case atStart => exact ⟨0, Nat.zero_le _, rfl, by omega⟩
  case round =>
    obtain ⟨k, hk, rfl, hbef⟩ := hrel
    have HB : Hid (∀ j, j < k → f j ≠ x) := hbef
    clear hbef
    by_cases hlt : k < n
    · obtain ⟨b, off, rfl, hc⟩ := hz k hlt
      by_cases he : f k = x
      · have hne : (f k == x) = true := by simpa using he
        clear he
        go_wp2
        go_ret
        exact ⟨rfl, rfl⟩
      · have hne : (f k == x) = false := by simpa using he
        have HE : Hid (f k ≠ x) := he
        clear he
        go_wp2
        go_round
        case rel => exact ⟨k + 1, by omega, by go_num, fun j hj => by
          by_cases e : j = k
          · rw [e]; exact HE.out
          · exact HB.out j (by omega)⟩
        case measure => simp [intOf]; omega
    · exfalso
      obtain ⟨j, hj, e⟩ := H.out
      exact HB.out j (by omega) e

theorem l1Has_any (ao : Option Addr) (n cap : Nat) (f : Nat → Int) (x : Int) (w : World) (hn : n ≤ 1048576) (hz : IntsAt w ao n f) :
    Calls Try.prog 51 #[.slice ao n cap, .int .i64 x] w fun e w' => (∃ b : Bool, e = .returned (.bool b) ∧ (b = true ↔ ∃ j, j < n ∧ f j = x)) ∧ w' = w := by
  by_cases h : ∃ j, j < n ∧ f j = x
  · exact (l1Has_yes ao n cap f x w hn hz h).mono fun _ _ ⟨a, b⟩ => ⟨⟨true, a, ⟨fun _ => h, fun _ => rfl⟩⟩, b⟩
  · exact (l1Has_no ao n cap f x w hn hz (fun j hj e => h ⟨j, hj, e⟩)).mono fun _ _ ⟨a, b⟩ => ⟨⟨false, a, ⟨fun e => (by cases e), fun e => absurd e h⟩⟩, b⟩

end Go.Proofs.Ytdmkpflphjemoaa
