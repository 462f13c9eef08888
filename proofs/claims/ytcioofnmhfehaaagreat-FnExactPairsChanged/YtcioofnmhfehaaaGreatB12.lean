/-
  OWN TEXT: PlainPc, InI, NameI.
-/
import Derived.Test.YtcioofnmhfehaaaGreatRows
import Derived.Deep.RegionHeld3
import Derived.Deep.LoopGhost
import Derived.Deep.DeepCutAuto
import Derived.Test.YtcioofnmhfehaaaGreatB01
import Derived.Test.YtcioofnmhfehaaaGreatB02
import Derived.Test.YtcioofnmhfehaaaGreatB03
import Derived.Test.YtcioofnmhfehaaaGreatB11
import Derived.Test.YtcioofnmhfehaaaGreatB09
namespace Go.Proofs.YtcioofnmhfehaaaGreat
open Go.RowKit Classical

def SailEq (s t : Sail) : Prop := s.id = t.id ∧ s.fr = t.fr ∧ s.dst = t.dst ∧ s.dep = t.dep ∧ s.arr = t.arr ∧ PairsAlike s.la t.la ∧ PairsAlike s.ca t.ca ∧ s.most = t.most
def SailsEq (N M : Nat) (S T : Nat → Sail) : Prop := N = M ∧ ∀ i, i < N → SailEq (S i) (T i)
noncomputable def sailsEq (N M : Nat) (S T : Nat → Sail) : Bool := decide (SailsEq N M S T)
def PcOk (x y : Off) : Prop := GoodTab x.san x.sa ∧ SailsEq x.san y.san x.sa y.sa ∧ x.ldn = x.san ∧ y.ldn = y.san
/-- The list of a resource is the same in two loads. -/
def LoadSame (r : Nat) (l m : Load) : Prop := if r = 0 then staysAlike l.stn m.stn l.st m.st else if r = 1 then roomsAlike l.ron m.ron l.ro m.ro else seatsAlike l.sen m.sen l.se m.se
/-- The keys of what differs in two loads, of the resources below r. -/
noncomputable def pcIn (id : Int) (l m : Load) : Nat → List Int
  | 0 => []
  | r + 1 => if LoadSame r l m then pcIn id l m r else pcIn id l m r ++ [1000 + 3 * id + r]
noncomputable def pcTo (S : Nat → Sail) (L M : Nat → Load) : Nat → List Int
  | 0 => []
  | k + 1 => pcTo S L M k ++ pcIn (S k).id (L k) (M k) 3
theorem pcIn_len (id : Int) (l m : Load) (r : Nat) : (pcIn id l m r).length ≤ r := by
  induction r with
  | zero => exact Nat.le_refl _
  | succ r ih =>
    unfold pcIn
    by_cases h : LoadSame r l m
    · rw [if_pos h]; omega
    · rw [if_neg h, List.length_append]; simp; exact ih
theorem pcTo_len (S : Nat → Sail) (L M : Nat → Load) (k : Nat) : (pcTo S L M k).length ≤ 3 * k := by
  induction k with
  | zero => exact Nat.le_refl _
  | succ k ih =>
    unfold pcTo
    have := pcIn_len (S k).id (L k) (M k) 3
    rw [List.length_append]
    omega
theorem pcIn_mem {id : Int} {l m : Load} {r : Nat} {z : Int} (h : z ∈ pcIn id l m r) : ∃ q : Nat, q < r ∧ z = 1000 + 3 * id + q := by
  induction r with
  | zero => unfold pcIn at h; cases h
  | succ r ih =>
    unfold pcIn at h
    by_cases hs : LoadSame r l m
    · rw [if_pos hs] at h
      obtain ⟨q, hq, e⟩ := ih h
      exact ⟨q, by omega, e⟩
    · rw [if_neg hs] at h
      rcases List.mem_append.1 h with h | h
      · obtain ⟨q, hq, e⟩ := ih h
        exact ⟨q, by omega, e⟩
      · exact ⟨r, by omega, by simpa using h⟩
theorem pcIn_sorted (id : Int) (l m : Load) (r : Nat) : (pcIn id l m r).Pairwise (· < ·) := by
  induction r with
  | zero => exact List.Pairwise.nil
  | succ r ih =>
    unfold pcIn
    by_cases hs : LoadSame r l m
    · rw [if_pos hs]; exact ih
    · rw [if_neg hs]
      refine List.pairwise_append.2 ⟨ih, List.pairwise_singleton _ _, fun a ha b hb => ?_⟩
      obtain ⟨q, hq, rfl⟩ := pcIn_mem ha
      obtain rfl : b = 1000 + 3 * id + r := by simpa using hb
      omega
theorem pcTo_mem {S : Nat → Sail} {L M : Nat → Load} {k : Nat} {z : Int} (h : z ∈ pcTo S L M k) : ∃ i, i < k ∧ ∃ q : Nat, q < 3 ∧ z = 1000 + 3 * (S i).id + q := by
  induction k with
  | zero => unfold pcTo at h; cases h
  | succ k ih =>
    unfold pcTo at h
    rcases List.mem_append.1 h with h | h
    · obtain ⟨i, hi, q, hq, e⟩ := ih h
      exact ⟨i, by omega, q, hq, e⟩
    · obtain ⟨q, hq, e⟩ := pcIn_mem h
      exact ⟨k, by omega, q, hq, e⟩
/-- The keys of a good timetable rise. -/
theorem pcTo_sorted {S : Nat → Sail} {L M : Nat → Load} {k : Nat} (hr : ∀ i j, i < j → j < k → (S i).id < (S j).id) : (pcTo S L M k).Pairwise (· < ·) := by
  induction k with
  | zero => exact List.Pairwise.nil
  | succ k ih =>
    unfold pcTo
    refine List.pairwise_append.2 ⟨ih (fun i j h1 h2 => hr i j h1 (by omega)), pcIn_sorted _ _ _ _, fun a ha b hb => ?_⟩
    obtain ⟨i, hi, q, hq, rfl⟩ := pcTo_mem ha
    obtain ⟨q', hq', rfl⟩ := pcIn_mem hb
    have := hr i k hi (by omega)
    omega

end Go.Proofs.YtcioofnmhfehaaaGreat

namespace Go.Proofs.YtcioofnmhfehaaaGreat
open Go.RowKit

theorem within_yes (x lo hi : Int) (w : World) (h : In x lo hi) :
    Calls Tryz.prog 77 #[.int .i64 x, .int .i64 lo, .int .i64 hi] w fun e w' => e = .returned (.bool true) ∧ w' = w := by
  have e1 : decide (lo ≤ x) = true := by simpa using h.1
  have e2 : decide (x ≤ hi) = true := by simpa using h.2
  clear h
  go_enter Tryz.func77, Tryz.ntmps77
  go_wp2
  go_ret
  exact ⟨rfl, rfl⟩
theorem within_no (x lo hi : Int) (w : World) (h : ¬ In x lo hi) :
    Calls Tryz.prog 77 #[.int .i64 x, .int .i64 lo, .int .i64 hi] w fun e w' => e = .returned (.bool false) ∧ w' = w := by
  by_cases h1 : lo ≤ x
  · have e1 : decide (lo ≤ x) = true := by simpa using h1
    have e2 : decide (x ≤ hi) = false := by simp; exact Int.not_le.1 (fun h2 => h ⟨h1, h2⟩)
    clear h h1
    go_enter Tryz.func77, Tryz.ntmps77
    go_wp2
    go_ret
    exact ⟨rfl, rfl⟩
  · have e1 : decide (lo ≤ x) = false := by simpa using h1
    clear h h1
    go_enter Tryz.func77, Tryz.ntmps77
    go_wp2
    go_ret
    exact ⟨rfl, rfl⟩
/-- isWithin in one word: it answers whether x lies there, and the world is as it was. -/
theorem within_is (x lo hi : Int) (w : World) :
    Calls Tryz.prog 77 #[.int .i64 x, .int .i64 lo, .int .i64 hi] w fun e w' => e = .returned (.bool (decide (In x lo hi))) ∧ w' = w := by
  by_cases h : In x lo hi
  · rw [decide_eq_true h]; exact within_yes x lo hi w h
  · rw [decide_eq_false h]; exact within_no x lo hi w h

end Go.Proofs.YtcioofnmhfehaaaGreat

namespace Go.Proofs.YtcioofnmhfehaaaGreat
open Go.RowKit

theorem isLetter_is (b : Int) (w : World) : Calls Tryz.prog 118 #[.int .u8 b] w fun e w' => e = .returned (.bool (decide (Letter b))) ∧ w' = w := by
  obtain ⟨c, hc⟩ : ∃ c, c = decide (Letter b) := ⟨_, rfl⟩
  rw [← hc]
  have HC : Hid (c = decide (Letter b)) := hc
  clear hc
  by_cases h1 : 97 ≤ b
  · have e1 : decide (97 ≤ b) = true := by simpa using h1
    by_cases h2 : b ≤ 122
    · have e2 : decide (b ≤ 122) = true := by simpa using h2
      go_enter Tryz.func118, Tryz.ntmps118
      go_wp2
      go_ret
      exact ⟨by rw [HC.out, decide_eq_true (.inl ⟨h1, h2⟩)]; rfl, rfl⟩
    · have e2 : decide (b ≤ 122) = false := by simpa using h2
      have e3 : decide (65 ≤ b) = true := by simp; omega
      have e4 : decide (b ≤ 90) = false := by simp; omega
      go_enter Tryz.func118, Tryz.ntmps118
      go_wp2
      go_ret
      exact ⟨by rw [HC.out, decide_eq_false (by rintro (h | h) <;> omega)]; rfl, rfl⟩
  · have e1 : decide (97 ≤ b) = false := by simpa using h1
    by_cases h3 : 65 ≤ b
    · have e3 : decide (65 ≤ b) = true := by simpa using h3
      by_cases h4 : b ≤ 90
      · have e4 : decide (b ≤ 90) = true := by simpa using h4
        go_enter Tryz.func118, Tryz.ntmps118
        go_wp2
        go_ret
        exact ⟨by rw [HC.out, decide_eq_true (.inr ⟨h3, h4⟩)]; rfl, rfl⟩
      · have e4 : decide (b ≤ 90) = false := by simpa using h4
        go_enter Tryz.func118, Tryz.ntmps118
        go_wp2
        go_ret
        exact ⟨by rw [HC.out, decide_eq_false (by rintro (h | h) <;> omega)]; rfl, rfl⟩
    · have e3 : decide (65 ≤ b) = false := by simpa using h3
      go_enter Tryz.func118, Tryz.ntmps118
      go_wp2
      go_ret
      exact ⟨by rw [HC.out, decide_eq_false (by rintro (h | h) <;> omega)]; rfl, rfl⟩

set_option maxHeartbeats 400000 in
theorem isName_any (s : ByteArray) (w : World) (hs : s.size ≤ 1000000000000000) :
    Calls Tryz.prog 114 #[.string s] w fun e w' => SaysIf (IsName s) e ∧ w' = w := by
  by_cases h0 : In (s.size : Int) 1 12
  · have HI : Hid (In (s.size : Int) 1 12) := h0
    have d0 : decide (In (s.size : Int) 1 12) = true := decide_eq_true h0
    have hs2 : s.size ≤ 12 := by have := h0.2; omega
    clear h0
    go_enter Tryz.func114, Tryz.ntmps114
    go_wp2_with (first | (go_at_call 77; refine (within_is _ _ _ _).mono ?_; rintro e w' ⟨rfl, hw'⟩; have hw' := hw'.symm; subst hw'))
    go_loop [3, 10] (fun _ i => ∃ k : Nat, k ≤ s.size ∧ i = .int .i64 k ∧ ∀ j, j < k → Letter (byteAt s j)) (fun _ i => s.size - (intOf i).toNat)
    case atStart => exact ⟨0, Nat.zero_le _, rfl, fun j hj => by omega⟩
    case round =>
      obtain ⟨k, hk, rfl, hall⟩ := hrel
      have HA : Hid (∀ j, j < k → Letter (byteAt s j)) := hall
      clear hall
      by_cases hlt : k < s.size
      · by_cases hL : Letter (byteAt s k)
        · have dL : decide (Letter (byteAt s k)) = true := decide_eq_true hL
          have HK : Hid (Letter (byteAt s k)) := hL
          clear hL
          rw [← byteAt_is s k hlt] at dL
          go_wp2_with (first | (go_at_call 118; refine (isLetter_is _ _).mono ?_; rintro e w' ⟨rfl, hw'⟩; have hw' := hw'.symm; subst hw'))
          go_round
          case rel => exact ⟨k + 1, by omega, by go_num, fun j hj => by
            by_cases e : j = k
            · subst e; exact HK.out
            · exact HA.out j (by omega)⟩
          case measure => simp [intOf]; omega
        · have dL : decide (Letter (byteAt s k)) = false := decide_eq_false hL
          have HK : Hid (¬ Letter (byteAt s k)) := hL
          clear hL
          rw [← byteAt_is s k hlt] at dL
          go_wp2_with (first | (go_at_call 118; refine (isLetter_is _ _).mono ?_; rintro e w' ⟨rfl, hw'⟩; have hw' := hw'.symm; subst hw'))
          go_ret
          exact ⟨says_no (fun h => HK.out (h.2.2 k hlt)), rfl⟩
      · obtain rfl : k = s.size := by omega
        go_wp2
        go_ret
        exact ⟨says_yes ⟨by have := HI.out.1; omega, by have := HI.out.2; omega, HA.out⟩, rfl⟩
  · have HI : Hid (¬ In (s.size : Int) 1 12) := h0
    have d0 : decide (In (s.size : Int) 1 12) = false := decide_eq_false h0
    clear h0
    go_enter Tryz.func114, Tryz.ntmps114
    go_wp2_with (first | (go_at_call 77; refine (within_is _ _ _ _).mono ?_; rintro e w' ⟨rfl, hw'⟩; have hw' := hw'.symm; subst hw'))
    go_ret
    exact ⟨says_no (fun h => HI.out ⟨by have := h.1; omega, by have := h.2.1; omega⟩), rfl⟩

theorem isName_is (s : ByteArray) (w : World) (hs : s.size ≤ 1000000000000000) :
    Calls Tryz.prog 114 #[.string s] w fun e w' => e = .returned (.bool (decide (IsName s))) ∧ w' = w := by
  refine (isName_any s w hs).mono ?_
  rintro e w' ⟨⟨b', rfl, h⟩, rfl⟩
  rw [bool_eq h (decide_eq_true_iff (p := IsName s))]
  exact ⟨rfl, rfl⟩

end Go.Proofs.YtcioofnmhfehaaaGreat
