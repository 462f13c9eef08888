/-
  OWN TEXT: WhereI, NameI.
-/
import Derived.Deep.DeepCutAuto
import Derived.Test.YtfbooamjddnagaaDoorB15
namespace Go.Proofs.YtfbooamjddnagaaDoor
open Go.RowKit

theorem isTime_is (x : Int) (w : World) :
    Calls Tryd.prog 73 #[.int .i64 x] w fun e w' => e = .returned (.bool (decide (In x 0 10000))) ∧ w' = w := by
  go_enter Tryd.func73, Tryd.ntmps73
  go_wp2_with (first | (go_at_call 69; refine (within_is _ _ _ _).mono ?_; rintro e w' ⟨rfl, rfl⟩))
  go_ret
  exact ⟨rfl, rfl⟩
theorem goodWhere_is (a b c : Bool) (w : World) :
    Calls Tryd.prog 70 #[.bool a, .bool b, .bool c] w fun e w' => e = .returned (.bool (if a then b else c)) ∧ w' = w := by
  cases a with
  | true =>
    go_enter Tryd.func70, Tryd.ntmps70
    go_wp2
    go_ret
    exact ⟨rfl, rfl⟩
  | false =>
    go_enter Tryd.func70, Tryd.ntmps70
    go_wp2
    go_ret
    exact ⟨rfl, rfl⟩

end Go.Proofs.YtfbooamjddnagaaDoor

namespace Go.Proofs.YtfbooamjddnagaaDoor
open Go.RowKit

theorem isLetter_is (b : Int) (w : World) : Calls Tryd.prog 107 #[.int .u8 b] w fun e w' => e = .returned (.bool (decide (Letter b))) ∧ w' = w := by
  obtain ⟨c, hc⟩ : ∃ c, c = decide (Letter b) := ⟨_, rfl⟩
  rw [← hc]
  have HC : Hid (c = decide (Letter b)) := hc
  clear hc
  by_cases h1 : 97 ≤ b
  · have e1 : decide (97 ≤ b) = true := by simpa using h1
    by_cases h2 : b ≤ 122
    · have e2 : decide (b ≤ 122) = true := by simpa using h2
      go_enter Tryd.func107, Tryd.ntmps107
      go_wp2
      go_ret
      exact ⟨by rw [HC.out, decide_eq_true (.inl ⟨h1, h2⟩)]; rfl, rfl⟩
    · have e2 : decide (b ≤ 122) = false := by simpa using h2
      have e3 : decide (65 ≤ b) = true := by simp; omega
      have e4 : decide (b ≤ 90) = false := by simp; omega
      go_enter Tryd.func107, Tryd.ntmps107
      go_wp2
      go_ret
      exact ⟨by rw [HC.out, decide_eq_false (by rintro (h | h) <;> omega)]; rfl, rfl⟩
  · have e1 : decide (97 ≤ b) = false := by simpa using h1
    by_cases h3 : 65 ≤ b
    · have e3 : decide (65 ≤ b) = true := by simpa using h3
      by_cases h4 : b ≤ 90
      · have e4 : decide (b ≤ 90) = true := by simpa using h4
        go_enter Tryd.func107, Tryd.ntmps107
        go_wp2
        go_ret
        exact ⟨by rw [HC.out, decide_eq_true (.inr ⟨h3, h4⟩)]; rfl, rfl⟩
      · have e4 : decide (b ≤ 90) = false := by simpa using h4
        go_enter Tryd.func107, Tryd.ntmps107
        go_wp2
        go_ret
        exact ⟨by rw [HC.out, decide_eq_false (by rintro (h | h) <;> omega)]; rfl, rfl⟩
    · have e3 : decide (65 ≤ b) = false := by simpa using h3
      go_enter Tryd.func107, Tryd.ntmps107
      go_wp2
      go_ret
      exact ⟨by rw [HC.out, decide_eq_false (by rintro (h | h) <;> omega)]; rfl, rfl⟩

set_option maxHeartbeats 400000 in
theorem isName_any (s : ByteArray) (w : World) (hs : s.size ≤ 1000000000000000) :
    Calls Tryd.prog 71 #[.string s] w fun e w' => SaysIf (IsName s) e ∧ w' = w := by
  by_cases h0 : In (s.size : Int) 1 12
  · have HI : Hid (In (s.size : Int) 1 12) := h0
    have d0 : decide (In (s.size : Int) 1 12) = true := decide_eq_true h0
    have hs2 : s.size ≤ 12 := by have := h0.2; omega
    clear h0
    go_enter Tryd.func71, Tryd.ntmps71
    go_wp2_with (first | (go_at_call 69; refine (within_is _ _ _ _).mono ?_; rintro e w' ⟨rfl, hw'⟩; have hw' := hw'.symm; subst hw'))
    go_loop [3, 10] (fun _ i => ∃ k : Nat, k ≤ s.size ∧ i = .int .i64 k ∧ ∀ j, j < k → Letter (byteAt s j)) (fun _ i => s.size - (intOf i).toNat)
    case atStart => exact ⟨0, Nat.zero_le _, rfl, fun j hj => by omega⟩
    case round =>
      obtain ⟨k, hk, rfl, hall⟩ := hrel
      have HA : Hid (∀ j, j < k → Letter (byteAt s j)) := hall
      clear hall
      by_cases hlt : k < s.size
      · by_cases hL : Letter (byteAt s k)
        · have dL : decide (Letter (byteAt s k)) = true := decide_eq_true hL
          have HK : Hid (Letter (byteAt s k)) := hL
          clear hL
          rw [← byteAt_is s k hlt] at dL
          go_wp2_with (first | (go_at_call 107; refine (isLetter_is _ _).mono ?_; rintro e w' ⟨rfl, hw'⟩; have hw' := hw'.symm; subst hw'))
          go_round
          case rel => exact ⟨k + 1, by omega, by go_num, fun j hj => by
            by_cases e : j = k
            · subst e; exact HK.out
            · exact HA.out j (by omega)⟩
          case measure => simp [intOf]; omega
        · have dL : decide (Letter (byteAt s k)) = false := decide_eq_false hL
          have HK : Hid (¬ Letter (byteAt s k)) := hL
          clear hL
          rw [← byteAt_is s k hlt] at dL
          go_wp2_with (first | (go_at_call 107; refine (isLetter_is _ _).mono ?_; rintro e w' ⟨rfl, hw'⟩; have hw' := hw'.symm; subst hw'))
          go_ret
          exact ⟨says_no (fun h => HK.out (h.2.2 k hlt)), rfl⟩
      · obtain rfl : k = s.size := by omega
        go_wp2
        go_ret
        exact ⟨says_yes ⟨by have := HI.out.1; omega, by have := HI.out.2; omega, HA.out⟩, rfl⟩
  · have HI : Hid (¬ In (s.size : Int) 1 12) := h0
    have d0 : decide (In (s.size : Int) 1 12) = false := decide_eq_false h0
    clear h0
    go_enter Tryd.func71, Tryd.ntmps71
    go_wp2_with (first | (go_at_call 69; refine (within_is _ _ _ _).mono ?_; rintro e w' ⟨rfl, hw'⟩; have hw' := hw'.symm; subst hw'))
    go_ret
    exact ⟨says_no (fun h => HI.out ⟨by have := h.1; omega, by have := h.2.1; omega⟩), rfl⟩

theorem isName_is (s : ByteArray) (w : World) (hs : s.size ≤ 1000000000000000) :
    Calls Tryd.prog 71 #[.string s] w fun e w' => e = .returned (.bool (decide (IsName s))) ∧ w' = w := by
  refine (isName_any s w hs).mono ?_
  rintro e w' ⟨⟨b', rfl, h⟩, rfl⟩
  rw [bool_eq h (decide_eq_true_iff (p := IsName s))]
  exact ⟨rfl, rfl⟩

end Go.Proofs.YtfbooamjddnagaaDoor
