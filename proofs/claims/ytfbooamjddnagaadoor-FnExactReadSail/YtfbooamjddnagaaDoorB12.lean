/-
  OWN TEXT: SpecName, SpecO1.
-/
import Derived.Deep.LoopGhost
import Derived.Deep.DeepCutAuto
import Derived.Test.YtfbooamjddnagaaDoorB10
import Derived.Test.YtfbooamjddnagaaDoorB08
import Derived.Test.YtfbooamjddnagaaDoorB11
namespace Go.Proofs.YtfbooamjddnagaaDoor
open Go.RowKit

set_option maxHeartbeats 800000 in
theorem l1Name_any (s : ByteArray) (w : World) (hs : s.size ≤ 1000000000000000) :
    Calls Tryd.prog 64 #[.string s] w fun e w' => SaysIf (IsName s) e ∧ w' = w := by
  by_cases h0 : In (s.size : Int) 1 12
  · have HI : Hid (In (s.size : Int) 1 12) := h0
    have d0 : decide (In (s.size : Int) 1 12) = true := decide_eq_true h0
    have hs2 : s.size ≤ 12 := by have := h0.2; omega
    clear h0
    go_enter Tryd.func64, Tryd.ntmps64
    go_wp2_with (first | (go_at_call 27; refine (l1In_is _ _ _ _).mono ?_; rintro e w' ⟨rfl, hw'⟩; have hw' := hw'.symm; subst hw'))
    go_loop [3, 4] (fun i _ => ∃ k : Nat, k ≤ s.size ∧ i = .int .i64 k ∧ ∀ j, j < k → Letter (byteAt s j)) (fun i _ => s.size - (intOf i).toNat)
    case atStart => exact ⟨0, Nat.zero_le _, rfl, fun j hj => by omega⟩
    case round =>
      obtain ⟨k, hk, rfl, hall⟩ := hrel
      have HA : Hid (∀ j, j < k → Letter (byteAt s j)) := hall
      clear hall
      by_cases hlt : k < s.size
      · have hby := byteAt_is s k hlt
        obtain ⟨y, hy⟩ : ∃ y, y = byteAt s k := ⟨_, rfl⟩
        rw [← hy] at hby
        have HY : Hid (y = byteAt s k) := hy
        clear hy
        have yes : Letter y → (∃ k', k' ≤ s.size ∧ Value.int .i64 ((k : Int) + 1) = Value.int .i64 (k' : Int) ∧ ∀ j, j < k' → Letter (byteAt s j)) := fun hL => ⟨k + 1, by omega, by simp, fun j hj => by
          by_cases e : j = k
          · subst e; rw [← HY.out]; exact hL
          · exact HA.out j (by omega)⟩
        have YES : Hid (Letter y → (∃ k', k' ≤ s.size ∧ Value.int .i64 ((k : Int) + 1) = Value.int .i64 (k' : Int) ∧ ∀ j, j < k' → Letter (byteAt s j))) := yes
        have NO : Hid (¬ Letter y → ¬ IsName s) := fun hL h => hL (by rw [HY.out]; exact h.2.2 k hlt)
        clear yes
        by_cases h1 : 97 ≤ y
        · have e1 : decide (97 ≤ y) = true := by simpa using h1
          by_cases h2 : y ≤ 122
          · have e2 : decide (y ≤ 122) = true := by simpa using h2
            go_wp2
            go_round
            case rel => exact YES.out (.inl ⟨h1, h2⟩)
            case measure => simp [intOf]; omega
          · have e2 : decide (y ≤ 122) = false := by simpa using h2
            have e3 : decide (65 ≤ y) = true := by simp; omega
            have e4 : decide (y ≤ 90) = false := by simp; omega
            go_wp2
            go_ret
            exact ⟨says_no (NO.out (by rintro (h | h) <;> omega)), rfl⟩
        · have e1 : decide (97 ≤ y) = false := by simpa using h1
          by_cases h3 : 65 ≤ y
          · have e3 : decide (65 ≤ y) = true := by simpa using h3
            by_cases h4 : y ≤ 90
            · have e4 : decide (y ≤ 90) = true := by simpa using h4
              go_wp2
              go_round
              case rel => exact YES.out (.inr ⟨h3, h4⟩)
              case measure => simp [intOf]; omega
            · have e4 : decide (y ≤ 90) = false := by simpa using h4
              go_wp2
              go_ret
              exact ⟨says_no (NO.out (by rintro (h | h) <;> omega)), rfl⟩
          · have e3 : decide (65 ≤ y) = false := by simpa using h3
            go_wp2
            go_ret
            exact ⟨says_no (NO.out (by rintro (h | h) <;> omega)), rfl⟩
      · obtain rfl : k = s.size := by omega
        go_wp2
        go_ret
        exact ⟨says_yes ⟨by have := HI.out.1; omega, by have := HI.out.2; omega, HA.out⟩, rfl⟩
  · have HI : Hid (¬ In (s.size : Int) 1 12) := h0
    have d0 : decide (In (s.size : Int) 1 12) = false := decide_eq_false h0
    clear h0
    go_enter Tryd.func64, Tryd.ntmps64
    go_wp2_with (first | (go_at_call 27; refine (l1In_is _ _ _ _).mono ?_; rintro e w' ⟨rfl, hw'⟩; have hw' := hw'.symm; subst hw'))
    go_ret
    exact ⟨says_no (fun h => HI.out ⟨by have := h.1; omega, by have := h.2.1; omega⟩), rfl⟩
theorem l1Name_is (s : ByteArray) (w : World) (hs : s.size ≤ 1000000000000000) :
    Calls Tryd.prog 64 #[.string s] w fun e w' => e = .returned (.bool (decide (IsName s))) ∧ w' = w := by
  refine (l1Name_any s w hs).mono ?_
  rintro e w' ⟨⟨b', rfl, h⟩, rfl⟩
  rw [bool_eq h (decide_eq_true_iff (p := IsName s))]
  exact ⟨rfl, rfl⟩

end Go.Proofs.YtfbooamjddnagaaDoor

namespace Go.Proofs.YtfbooamjddnagaaDoor
open Go.RowKit

theorem l7Named_is (k : Int) (w : World) : Calls Tryd.prog 39 #[.int .i64 k] w fun e w' => e = .returned (.bool (decide (In k 4 8))) ∧ w' = w := by
  go_enter Tryd.func39, Tryd.ntmps39
  go_wp2_with (first | (go_at_call 27; refine (l1In_is _ _ _ _).mono ?_; rintro e w' ⟨rfl, hw'⟩; have hw' := hw'.symm; subst hw'))
  go_ret
  exact ⟨rfl, rfl⟩

theorem l7Legs_is (k : Int) (w : World) : Calls Tryd.prog 41 #[.int .i64 k] w fun e w' => e = .returned (.bool (decide (HasLegs k))) ∧ w' = w := by
  obtain ⟨c, hc⟩ : ∃ c, c = decide (HasLegs k) := ⟨_, rfl⟩
  rw [← hc]
  have HC : Hid (c = decide (HasLegs k)) := hc
  clear hc
  by_cases h1 : k = 1
  · have HR : Hid (c = true) := by rw [HC.out]; exact decide_eq_true (.inl h1)
    subst h1
    go_enter Tryd.func41, Tryd.ntmps41
    go_wp2
    go_ret
    exact ⟨by rw [HR.out]; rfl, rfl⟩
  · have e1 : (k == 1) = false := by simpa using h1
    by_cases h2 : k = 2
    · have HR : Hid (c = true) := by rw [HC.out]; exact decide_eq_true (.inr (.inl h2))
      subst h2
      go_enter Tryd.func41, Tryd.ntmps41
      go_wp2
      go_ret
      exact ⟨by rw [HR.out]; rfl, rfl⟩
    · have e2 : (k == 2) = false := by simpa using h2
      by_cases h3 : k = 3
      · have HR : Hid (c = true) := by rw [HC.out]; exact decide_eq_true (.inr (.inr (.inl h3)))
        subst h3
        go_enter Tryd.func41, Tryd.ntmps41
        go_wp2
        go_ret
        exact ⟨by rw [HR.out]; rfl, rfl⟩
      · have e3 : (k == 3) = false := by simpa using h3
        by_cases h5 : k = 5
        · have HR : Hid (c = true) := by rw [HC.out]; exact decide_eq_true (.inr (.inr (.inr h5)))
          subst h5
          go_enter Tryd.func41, Tryd.ntmps41
          go_wp2
          go_ret
          exact ⟨by rw [HR.out]; rfl, rfl⟩
        · have e5 : (k == 5) = false := by simpa using h5
          have HR : Hid (c = false) := by rw [HC.out]; exact decide_eq_false (fun h => by rcases h with h | h | h | h; exact h1 h; exact h2 h; exact h3 h; exact h5 h)
          clear h1 h2 h3 h5
          go_enter Tryd.func41, Tryd.ntmps41
          go_wp2
          go_ret
          exact ⟨by rw [HR.out]; rfl, rfl⟩

end Go.Proofs.YtfbooamjddnagaaDoor
