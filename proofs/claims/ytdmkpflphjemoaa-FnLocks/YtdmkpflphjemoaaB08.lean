/-
  OWN TEXT: Spec1, SpecL1.
-/
import Derived.Test.YtdmkpflphjemoaaB07
import Derived.Test.YtdmkpflphjemoaaB02
namespace Go.Proofs.Ytdmkpflphjemoaa
end Go.Proofs.Ytdmkpflphjemoaa

namespace Go.Proofs.Ytdmkpflphjemoaa
open Go.RowKit

def isKey (x : Int) : Prop := 0 ≤ x ∧ x ≤ 100000

theorem l2Task_yes (x : Int) (w : World) (h : isTask x) : Calls Try.prog 27 #[.int .i64 x] w fun e w' => e = .returned (.bool true) ∧ w' = w := by
  obtain ⟨h1, h2⟩ := h
  go_enter Try.func27, Try.ntmps27
  go_wp2_with (first | (go_at_call 52; refine (l1In_yes _ _ _ _ (by omega) (by omega)).mono ?_; rintro e w' ⟨rfl, rfl⟩))
  go_ret
  exact ⟨rfl, rfl⟩
theorem l2Task_no (x : Int) (w : World) (h : ¬ isTask x) : Calls Try.prog 27 #[.int .i64 x] w fun e w' => e = .returned (.bool false) ∧ w' = w := by
  have HN : Hid (¬ isTask x) := h
  clear h
  go_enter Try.func27, Try.ntmps27
  go_wp2_with (first | (go_at_call 52; refine (l1In_no _ _ _ _ (fun h => HN.out ⟨h.1, h.2⟩)).mono ?_; rintro e w' ⟨rfl, rfl⟩))
  go_ret
  exact ⟨rfl, rfl⟩
theorem l2Key_yes (x : Int) (w : World) (h : isKey x) : Calls Try.prog 28 #[.int .i64 x] w fun e w' => e = .returned (.bool true) ∧ w' = w := by
  obtain ⟨h1, h2⟩ := h
  go_enter Try.func28, Try.ntmps28
  go_wp2_with (first | (go_at_call 52; refine (l1In_yes _ _ _ _ (by omega) (by omega)).mono ?_; rintro e w' ⟨rfl, rfl⟩))
  go_ret
  exact ⟨rfl, rfl⟩
theorem l2Key_no (x : Int) (w : World) (h : ¬ isKey x) : Calls Try.prog 28 #[.int .i64 x] w fun e w' => e = .returned (.bool false) ∧ w' = w := by
  have HN : Hid (¬ isKey x) := h
  clear h
  go_enter Try.func28, Try.ntmps28
  go_wp2_with (first | (go_at_call 52; refine (l1In_no _ _ _ _ (fun h => HN.out ⟨h.1, h.2⟩)).mono ?_; rintro e w' ⟨rfl, rfl⟩))
  go_ret
  exact ⟨rfl, rfl⟩

set_option maxHeartbeats 400000 in
theorem l2In_no (ao : Option Addr) (n c : Nat) (l : Line) (x : Int) (w : World) (hl : l.n = n) (hn : n ≤ 1048576) (hz : LineAt w ao l) (hno : ¬ inLine l x) :
    Calls Try.prog 31 #[.slice ao n c, .int .i64 x] w fun e w' => e = .returned (.int .i64 (-1)) ∧ Below w.heap.size w w' := by
  have HL : Hid (l.n = n) := hl
  have HN : Hid (¬ inLine l x) := hno
  clear hl hno
  go_enter Try.func31, Try.ntmps31
  go_wp2
  go_loopw [9] (fun i wr => ∃ k : Nat, k ≤ n ∧ i = .int .i64 k ∧ Below w.heap.size w wr) (fun i _ => n - (intOf i).toNat)
  case atStart => exact ⟨0, Nat.zero_le _, rfl, Below.refl _ _⟩
  case round =>
    obtain ⟨k, hk, rfl, hbel⟩ := hrel
    by_cases hlt : k < n
    · obtain ⟨b, off, rfl, h1, h2⟩ := hz k (by rw [HL.out]; omega)
      have hb := World.block_lt_of_cell? w _ h1
      have c1 := (hbel.cell (p := ⟨b, off + k * 2, none⟩) hb).trans h1
      have c2 := (hbel.cell (p := ⟨b, off + k * 2 + 1, none⟩) hb).trans h2
      have hne : (l.T k == x) = false := by simpa using (fun e => HN.out ⟨k, by rw [HL.out]; exact hlt, e⟩)
      clear h1 h2
      go_wp2
      go_roundw
      case rel => exact ⟨k + 1, by omega, by go_num, push hbel _⟩
      case measure => simp [intOf]; omega
    · go_wp2
      go_ret
      exact ⟨rfl, hbel⟩

/-- k is the first place where x stands. -/
def firstAt (l : Line) (x : Int) (k : Nat) : Prop := k < l.n ∧ l.T k = x ∧ ∀ j, j < k → l.T j ≠ x

set_option maxHeartbeats 400000 in
theorem l2In_yes (ao : Option Addr) (n c : Nat) (l : Line) (x : Int) (w : World) (hl : l.n = n) (hn : n ≤ 1048576) (hz : LineAt w ao l) (hin : inLine l x) :
    Calls Try.prog 31 #[.slice ao n c, .int .i64 x] w fun e w' => ∃ k : Nat, e = .returned (.int .i64 k) ∧ firstAt l x k ∧ Below w.heap.size w w' := by
  have HL : Hid (l.n = n) := hl
  have HN : Hid (inLine l x) := hin
  clear hl hin
  go_enter Try.func31, Try.ntmps31
  go_wp2
  go_loopw [9] (fun i wr => ∃ k : Nat, k ≤ n ∧ i = .int .i64 k ∧ (∀ j, j < k → l.T j ≠ x) ∧ Below w.heap.size w wr) (fun i _ => n - (intOf i).toNat)
  case atStart => exact ⟨0, Nat.zero_le _, rfl, by omega, Below.refl _ _⟩
  case round =>
    obtain ⟨k, hk, rfl, hbef, hbel⟩ := hrel
    have HB : Hid (∀ j, j < k → l.T j ≠ x) := hbef
    clear hbef
    by_cases hlt : k < n
    · obtain ⟨b, off, rfl, h1, h2⟩ := hz k (by rw [HL.out]; omega)
      have hb := World.block_lt_of_cell? w _ h1
      have c1 := (hbel.cell (p := ⟨b, off + k * 2, none⟩) hb).trans h1
      have c2 := (hbel.cell (p := ⟨b, off + k * 2 + 1, none⟩) hb).trans h2
      clear h1 h2
      by_cases he : l.T k = x
      · have HE : Hid (l.T k = x) := he
        have hne : (l.T k == x) = true := by simpa using he
        clear he
        go_wp2
        go_ret
        exact ⟨k, rfl, ⟨by rw [HL.out]; exact hlt, HE.out, HB.out⟩, push hbel _⟩
      · have HE : Hid (l.T k ≠ x) := he
        have hne : (l.T k == x) = false := by simpa using he
        clear he
        go_wp2
        go_roundw
        case rel => exact ⟨k + 1, by omega, by go_num, fun j hj => by
          by_cases e : j = k
          · rw [e]; exact HE.out
          · exact HB.out j (by omega), push hbel _⟩
        case measure => simp [intOf]; omega
    · exfalso
      obtain ⟨j, hj, e⟩ := HN.out
      rw [HL.out] at hj
      exact HB.out j (by omega) e

set_option maxHeartbeats 400000 in
theorem l2May_any (ao : Option Addr) (n c : Nat) (l : Line) (x : Int) (s : Bool) (w : World) (hl : l.n = n) (hz : LineAt w ao l) :
    Calls Try.prog 32 #[.slice ao n c, .agg #[.int .i64 x, .bool s]] w fun e w' => e = .returned (.bool (mayB l s)) ∧ Below w.heap.size w w' := by
  by_cases h0 : n = 0
  · subst h0
    have HM : Hid (mayB l s = true) := by simp [Hid, mayB, hl]
    rw [HM.out]
    clear hl
    go_enter Try.func32, Try.ntmps32
    go_wp2
    go_ret
    exact ⟨rfl, push (Below.refl _ _) _⟩
  · obtain ⟨b, off, rfl, h1, h2⟩ := hz 0 (by omega)
    have HM : Hid (mayB l s = (l.S 0 && s)) := by simp [Hid, mayB, hl, h0]
    rw [HM.out]
    clear hl
    have hb := World.block_lt_of_cell? w _ h1
    have e0 : ((n : Int) == 0) = false := by simpa using (show ¬ (n : Int) = 0 by omega)
    have e1 : (0 : Int) < (n : Int) := by omega
    have c1 : (w.alloc (.cells #[.int .i64 x, .bool s] 57)).cell? ⟨b, off + 1, none⟩ = some (.bool (l.S 0)) := by
      rw [show off + 1 = off + 0 * 2 + 1 by omega]
      exact ((push (Below.refl _ w) _).cell (p := ⟨b, off + 0 * 2 + 1, none⟩) hb).trans h2
    simp only [Nat.zero_mul, Nat.add_zero] at h1 h2
    cases hs : l.S 0 with
    | true =>
      rw [hs] at c1 h2
      go_enter Try.func32, Try.ntmps32
      go_wp2
      go_ret
      exact ⟨rfl, push (Below.refl _ _) _⟩
    | false =>
      rw [hs] at c1 h2
      go_enter Try.func32, Try.ntmps32
      go_wp2
      go_ret
      exact ⟨rfl, push (Below.refl _ _) _⟩

end Go.Proofs.Ytdmkpflphjemoaa
