/-
  OWN TEXT: NameI, ImplS1, ImplLane, ClassI.
-/
import Derived.Test.YtlelckbeoclhbaaGreatB17
set_option maxHeartbeats 12800000
set_option maxRecDepth 100000
namespace Go.Proofs.YtlelckbeoclhbaaGreat
open Go.RowKit
theorem isLetter_is (b : Int) (w : World) : Calls Tryz.prog 170 #[.int .u8 b] w fun e w' => e = .returned (.bool (decide (Letter b))) ∧ w' = w := by
  obtain ⟨c, hc⟩ : ∃ c, c = decide (Letter b) := ⟨_, rfl⟩
  rw [← hc]
  have HC : Hid (c = decide (Letter b)) := hc
  clear hc
  by_cases h1 : 97 ≤ b
  · have e1 : decide (97 ≤ b) = true := by simpa using h1
    by_cases h2 : b ≤ 122
    · have e2 : decide (b ≤ 122) = true := by simpa using h2
      go_enter Tryz.func170, Tryz.ntmps170
      go_wp2
      go_ret
      exact ⟨by rw [HC.out, decide_eq_true (.inl ⟨h1, h2⟩)]; rfl, rfl⟩
    · have e2 : decide (b ≤ 122) = false := by simpa using h2
      have e3 : decide (65 ≤ b) = true := by simp; omega
      have e4 : decide (b ≤ 90) = false := by simp; omega
      go_enter Tryz.func170, Tryz.ntmps170
      go_wp2
      go_ret
      exact ⟨by rw [HC.out, decide_eq_false (by rintro (h | h) <;> omega)]; rfl, rfl⟩
  · have e1 : decide (97 ≤ b) = false := by simpa using h1
    by_cases h3 : 65 ≤ b
    · have e3 : decide (65 ≤ b) = true := by simpa using h3
      by_cases h4 : b ≤ 90
      · have e4 : decide (b ≤ 90) = true := by simpa using h4
        go_enter Tryz.func170, Tryz.ntmps170
        go_wp2
        go_ret
        exact ⟨by rw [HC.out, decide_eq_true (.inr ⟨h3, h4⟩)]; rfl, rfl⟩
      · have e4 : decide (b ≤ 90) = false := by simpa using h4
        go_enter Tryz.func170, Tryz.ntmps170
        go_wp2
        go_ret
        exact ⟨by rw [HC.out, decide_eq_false (by rintro (h | h) <;> omega)]; rfl, rfl⟩
    · have e3 : decide (65 ≤ b) = false := by simpa using h3
      go_enter Tryz.func170, Tryz.ntmps170
      go_wp2
      go_ret
      exact ⟨by rw [HC.out, decide_eq_false (by rintro (h | h) <;> omega)]; rfl, rfl⟩
theorem isName_any (s : ByteArray) (w : World) (hs : s.size ≤ 1000000000000000) :
    Calls Tryz.prog 149 #[.string s] w fun e w' => SaysIf (IsName s) e ∧ w' = w := by
  by_cases h0 : In (s.size : Int) 1 12
  · have HI : Hid (In (s.size : Int) 1 12) := h0
    have d0 : decide (In (s.size : Int) 1 12) = true := decide_eq_true h0
    have hs2 : s.size ≤ 12 := by have := h0.2; omega
    clear h0
    go_enter Tryz.func149, Tryz.ntmps149
    go_wp2_with (first | (go_at_call 143; refine (within_is _ _ _ _).mono ?_; rintro e w' ⟨rfl, hw'⟩; have hw' := hw'.symm; subst hw'))
    go_loop [3, 10] (fun _ i => ∃ k : Nat, k ≤ s.size ∧ i = .int .i64 k ∧ ∀ j, j < k → Letter (byteAt s j)) (fun _ i => s.size - (intOf i).toNat)
    case atStart => exact ⟨0, Nat.zero_le _, rfl, fun j hj => by omega⟩
    case round =>
      obtain ⟨k, hk, rfl, hall⟩ := hrel
      have HA : Hid (∀ j, j < k → Letter (byteAt s j)) := hall
      clear hall
      by_cases hlt : k < s.size
      · by_cases hL : Letter (byteAt s k)
        · have dL : decide (Letter (byteAt s k)) = true := decide_eq_true hL
          have HK : Hid (Letter (byteAt s k)) := hL
          clear hL
          rw [← byteAt_is s k hlt] at dL
          go_wp2_with (first | (go_at_call 170; refine (isLetter_is _ _).mono ?_; rintro e w' ⟨rfl, hw'⟩; have hw' := hw'.symm; subst hw'))
          go_round
          case rel => exact ⟨k + 1, by omega, by go_num, fun j hj => by
            by_cases e : j = k
            · subst e; exact HK.out
            · exact HA.out j (by omega)⟩
          case measure => simp [intOf]; omega
        · have dL : decide (Letter (byteAt s k)) = false := decide_eq_false hL
          have HK : Hid (¬ Letter (byteAt s k)) := hL
          clear hL
          rw [← byteAt_is s k hlt] at dL
          go_wp2_with (first | (go_at_call 170; refine (isLetter_is _ _).mono ?_; rintro e w' ⟨rfl, hw'⟩; have hw' := hw'.symm; subst hw'))
          go_ret
          exact ⟨says_no (fun h => HK.out (h.2.2 k hlt)), rfl⟩
      · obtain rfl : k = s.size := by omega
        go_wp2
        go_ret
        exact ⟨says_yes ⟨by have := HI.out.1; omega, by have := HI.out.2; omega, HA.out⟩, rfl⟩
  · have HI : Hid (¬ In (s.size : Int) 1 12) := h0
    have d0 : decide (In (s.size : Int) 1 12) = false := decide_eq_false h0
    clear h0
    go_enter Tryz.func149, Tryz.ntmps149
    go_wp2_with (first | (go_at_call 143; refine (within_is _ _ _ _).mono ?_; rintro e w' ⟨rfl, hw'⟩; have hw' := hw'.symm; subst hw'))
    go_ret
    exact ⟨says_no (fun h => HI.out ⟨by have := h.1; omega, by have := h.2.1; omega⟩), rfl⟩
theorem isName_is (s : ByteArray) (w : World) (hs : s.size ≤ 1000000000000000) :
    Calls Tryz.prog 149 #[.string s] w fun e w' => e = .returned (.bool (decide (IsName s))) ∧ w' = w := by
  refine (isName_any s w hs).mono ?_
  rintro e w' ⟨⟨b', rfl, h⟩, rfl⟩
  rw [bool_eq h (decide_eq_true_iff (p := IsName s))]
  exact ⟨rfl, rfl⟩
end Go.Proofs.YtlelckbeoclhbaaGreat

namespace Go.Proofs.YtlelckbeoclhbaaGreat
open Go.RowKit
theorem sailingId_is (x : Int) (w : World) :
    Calls Tryz.prog 139 #[.int .i64 x] w fun e w' => e = .returned (.bool (decide (In x 1 99))) ∧ w' = w := by
  go_enter Tryz.func139, Tryz.ntmps139
  go_wp2_with (first | (go_at_call 143; refine (within_is _ _ _ _).mono ?_; rintro e w' ⟨rfl, rfl⟩))
  go_ret
  exact ⟨rfl, rfl⟩
theorem unlikeNames_is (a b : ByteArray) (w : World) (ha : a.size ≤ 1000000000000000) (hb : b.size ≤ 1000000000000000) :
    Calls Tryz.prog 140 #[.string a, .string b] w fun e w' => e = .returned (.bool (decide (Unlike a b))) ∧ w' = w := by
  obtain ⟨c, hc⟩ : ∃ c, c = decide (Unlike a b) := ⟨_, rfl⟩
  rw [← hc]
  have HC : Hid (c = decide (Unlike a b)) := hc
  clear hc
  by_cases n1 : IsName a
  · have d1 : decide (IsName a) = true := decide_eq_true n1
    by_cases n2 : IsName b
    · have d2 : decide (IsName b) = true := decide_eq_true n2
      by_cases n3 : a = b
      · subst n3
        have e3 : (a.toList == a.toList) = true := bytes_eq.2 rfl
        have HN : Hid (¬ Unlike a a) := fun h => h.2.2 rfl
        clear n1 n2
        go_enter Tryz.func140, Tryz.ntmps140
        go_wp2_with (first | (go_at_call 149; refine (isName_is _ _ ha).mono ?_; rintro e w' ⟨rfl, hw'⟩; have hw' := hw'.symm; subst hw'))
        go_ret
        exact ⟨by rw [HC.out, decide_eq_false HN.out]; rfl, rfl⟩
      · have e3 : (a.toList == b.toList) = false := bytes_ne.2 n3
        have HN : Hid (Unlike a b) := ⟨n1, n2, n3⟩
        clear n1 n2 n3
        go_enter Tryz.func140, Tryz.ntmps140
        go_wp2_with fail
        refine (isName_is _ _ ha).mono ?_
        rintro e w' ⟨rfl, hw'⟩
        have hw' := hw'.symm
        subst hw'
        go_wp2_with fail
        refine (isName_is _ _ hb).mono ?_
        rintro e w' ⟨rfl, hw'⟩
        have hw' := hw'.symm
        subst hw'
        go_wp2
        go_ret
        exact ⟨by rw [HC.out, decide_eq_true HN.out]; rfl, rfl⟩
    · have d2 : decide (IsName b) = false := decide_eq_false n2
      have HN : Hid (¬ Unlike a b) := fun h => n2 h.2.1
      clear n1 n2
      go_enter Tryz.func140, Tryz.ntmps140
      go_wp2_with fail
      refine (isName_is _ _ ha).mono ?_
      rintro e w' ⟨rfl, hw'⟩
      have hw' := hw'.symm
      subst hw'
      go_wp2_with fail
      refine (isName_is _ _ hb).mono ?_
      rintro e w' ⟨rfl, hw'⟩
      have hw' := hw'.symm
      subst hw'
      go_wp2
      go_ret
      exact ⟨by rw [HC.out, decide_eq_false HN.out]; rfl, rfl⟩
  · have d1 : decide (IsName a) = false := decide_eq_false n1
    have HN : Hid (¬ Unlike a b) := fun h => n1 h.1
    clear n1
    go_enter Tryz.func140, Tryz.ntmps140
    go_wp2_with fail
    refine (isName_is _ _ ha).mono ?_
    rintro e w' ⟨rfl, hw'⟩
    have hw' := hw'.symm
    subst hw'
    go_wp2
    go_ret
    exact ⟨by rw [HC.out, decide_eq_false HN.out]; rfl, rfl⟩
end Go.Proofs.YtlelckbeoclhbaaGreat

namespace Go.Proofs.YtlelckbeoclhbaaGreat
open Go.RowKit
theorem goodLanes_any (ao : Option Addr) (n c : Nat) (p : Pairs) (w : World) (hl : p.n = n) (hn : n ≤ 1048576) (hz : PairsAt w ao p) :
    Calls Tryz.prog 141 #[.slice ao n c] w fun e w' => SaysIf (GoodPairs p 4 1 5000 100 500) e ∧ Below w.heap.size w w' := by
  have HL : Hid (p.n = n) := hl
  clear hl
  by_cases h0 : n ≤ 4
  · have d0 : decide (4 < n) = false := by simp; omega
    go_enter Tryz.func141, Tryz.ntmps141
    go_wp2
    go_loopw [4, 10] (fun _ i wr => ∃ k : Nat, k ≤ n ∧ i = .int .i64 k ∧ (∀ j, j < k → In (p.A j) 1 5000 ∧ In (p.B j) 100 500) ∧ Below w.heap.size w wr) (fun _ i _ => n - (intOf i).toNat)
    case atStart => exact ⟨0, Nat.zero_le _, rfl, fun j hj => by omega, Below.refl _ _⟩
    case round =>
      obtain ⟨k, hk, rfl, hall, hbel⟩ := hrel
      have HA : Hid (∀ j, j < k → In (p.A j) 1 5000 ∧ In (p.B j) 100 500) := hall
      clear hall d0
      by_cases hlt : k < n
      · obtain ⟨b, off, rfl, h1, h2⟩ := hz k (by rw [HL.out]; omega)
        have hb := World.block_lt_of_cell? w _ h1
        have c1 := (hbel.cell (p := ⟨b, off + k * 2, none⟩) hb).trans h1
        have c2 := (hbel.cell (p := ⟨b, off + k * 2 + 1, none⟩) hb).trans h2
        clear h1 h2
        by_cases g1 : In (p.A k) 1 5000
        · have e1 : decide (In (p.A k) 1 5000) = true := decide_eq_true g1
          by_cases g2 : In (p.B k) 100 500
          · have e2 : decide (In (p.B k) 100 500) = true := decide_eq_true g2
            have HK : Hid (In (p.A k) 1 5000 ∧ In (p.B k) 100 500) := ⟨g1, g2⟩
            clear g1 g2
            go_wp2_with (first | (go_at_call 143; refine (within_is _ _ _ _).mono ?_; rintro e w' ⟨rfl, hw'⟩; have hw' := hw'.symm; subst hw'))
            go_roundw
            case rel => exact ⟨k + 1, by omega, by go_num, fun j hj => by
              by_cases e : j = k
              · subst e; exact HK.out
              · exact HA.out j (by omega), push hbel _⟩
            case measure => simp [intOf]; omega
          · have e2 : decide (In (p.B k) 100 500) = false := decide_eq_false g2
            have HK : Hid (¬ In (p.B k) 100 500) := g2
            clear g1 g2
            go_wp2_with (first | (go_at_call 143; refine (within_is _ _ _ _).mono ?_; rintro e w' ⟨rfl, hw'⟩; have hw' := hw'.symm; subst hw'))
            go_ret
            exact ⟨says_no (fun h => HK.out (h.2 k (by rw [HL.out]; exact hlt)).2), push hbel _⟩
        · have e1 : decide (In (p.A k) 1 5000) = false := decide_eq_false g1
          have HK : Hid (¬ In (p.A k) 1 5000) := g1
          clear g1
          go_wp2_with (first | (go_at_call 143; refine (within_is _ _ _ _).mono ?_; rintro e w' ⟨rfl, hw'⟩; have hw' := hw'.symm; subst hw'))
          go_ret
          exact ⟨says_no (fun h => HK.out (h.2 k (by rw [HL.out]; exact hlt)).1), push hbel _⟩
      · obtain rfl : k = n := by omega
        go_wp2
        go_ret
        exact ⟨says_yes ⟨by rw [HL.out]; exact h0, fun j hj => HA.out j (by rw [HL.out] at hj; exact hj)⟩, hbel⟩
  · have d0 : decide (4 < n) = true := by simp; omega
    go_enter Tryz.func141, Tryz.ntmps141
    go_wp2
    go_ret
    exact ⟨says_no (fun h => by have := h.1; rw [HL.out] at this; exact h0 this), Below.refl _ _⟩
end Go.Proofs.YtlelckbeoclhbaaGreat

namespace Go.Proofs.YtlelckbeoclhbaaGreat
open Go.RowKit
theorem class_is (x : Int) (w : World) :
    Calls Tryz.prog 165 #[.int .i64 x] w fun e w' => e = .returned (.bool (decide (In x 1 3))) ∧ w' = w := by
  go_enter Tryz.func165, Tryz.ntmps165
  go_wp2_with (first | (go_at_call 143; refine (within_is _ _ _ _).mono ?_; rintro e w' ⟨rfl, hw'⟩; have hw' := hw'.symm; subst hw'))
  go_ret
  exact ⟨rfl, rfl⟩
theorem berths_is (x : Int) (w : World) :
    Calls Tryz.prog 166 #[.int .i64 x] w fun e w' => e = .returned (.bool (decide (In x 1 4))) ∧ w' = w := by
  go_enter Tryz.func166, Tryz.ntmps166
  go_wp2_with (first | (go_at_call 143; refine (within_is _ _ _ _).mono ?_; rintro e w' ⟨rfl, hw'⟩; have hw' := hw'.symm; subst hw'))
  go_ret
  exact ⟨rfl, rfl⟩
end Go.Proofs.YtlelckbeoclhbaaGreat
