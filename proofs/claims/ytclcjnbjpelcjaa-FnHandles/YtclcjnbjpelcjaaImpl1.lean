/-
  OWN TEXT: contracts of the program's small functions of chapter 1: record.good, record.isFree, store.has, storeOf.
-/
import Derived.Test.YtclcjnbjpelcjaaRows
import Derived.Test.YtclcjnbjpelcjaaKit
import Derived.Test.YtclcjnbjpelcjaaInfoI
import Derived.Test.YtclcjnbjpelcjaaInfoS
import Derived.Deep.RegionHeld3
import Derived.Test.YtclcjnbjpelcjaaPlain1
namespace Go.Proofs.Ytclcjnbjpelcjaa
open Go.RowKit

theorem Try.infoRec : (Try.prog.info? 184).map (fun i => (i.zero, i.size, i.bytes)) = some (some (.agg #[.int .i64 0, .bool false, .int .i64 0]), 3, 24) := by kernel_rfl

set_option maxHeartbeats 400000 in
theorem recGood_any (a v : Int) (u : Bool) (w : World) :
    Calls Try.prog 122 #[.agg #[.int .i64 a, .bool u, .int .i64 v]] w fun e w' => e = .returned (.bool (okSlot a u v)) ∧ Below w.heap.size w w' := by
  by_cases h0 : a < 0
  · have e0 : decide (a < 0) = true := by simpa using h0
    have HE : Hid (okSlot a u v = false) := by simp [Hid, okSlot]; omega
    go_enter Try.func122, Try.ntmps122
    go_wp2
    go_ret
    exact ⟨by rw [HE.out]; rfl, push (Below.refl _ _) _⟩
  · have e0 : decide (a < 0) = false := by simpa using h0
    by_cases h9 : 9 < a
    · have e9 : decide (9 < a) = true := by simpa using h9
      have HE : Hid (okSlot a u v = false) := by simp [Hid, okSlot]; omega
      go_enter Try.func122, Try.ntmps122
      go_wp2
      go_ret
      exact ⟨by rw [HE.out]; rfl, push (Below.refl _ _) _⟩
    · have e9 : decide (9 < a) = false := by simpa using h9
      have HE : Hid (okSlot a u v = (if u then decide (a < 9) else (v == 0))) := by
        simp only [Hid, okSlot]
        rw [show decide (0 ≤ a) = true by simp; omega, show decide (a ≤ 9) = true by simp; omega]
        cases u <;> rfl
      cases u with
      | true =>
        go_enter Try.func122, Try.ntmps122
        go_wp2
        go_ret
        exact ⟨by rw [HE.out]; rfl, push (Below.refl _ _) _⟩
      | false =>
        go_enter Try.func122, Try.ntmps122
        go_wp2
        go_ret
        exact ⟨by rw [HE.out]; rfl, push (Below.refl _ _) _⟩

set_option maxHeartbeats 400000 in
theorem isFree_any (a v : Int) (u : Bool) (w : World) :
    Calls Try.prog 128 #[.agg #[.int .i64 a, .bool u, .int .i64 v]] w fun e w' => e = .returned (.bool (freeSlot a u)) ∧ Below w.heap.size w w' := by
  cases u with
  | true =>
    go_enter Try.func128, Try.ntmps128
    go_wp2
    go_ret
    exact ⟨rfl, push (Below.refl _ _) _⟩
  | false =>
    go_enter Try.func128, Try.ntmps128
    go_wp2
    go_ret
    exact ⟨rfl, push (Below.refl _ _) _⟩

/-- Whether a number is one of n. -/
def hasB (n : Nat) (x : Int) : Bool := decide (0 ≤ x) && decide (x < n)

set_option maxHeartbeats 400000 in
theorem has_any (ao bo : Option Addr) (n m c1 c2 : Nat) (x : Int) (w : World) :
    Calls Try.prog 166 #[.agg #[.slice ao n c1, .slice bo m c2], .int .i64 x] w fun e w' => e = .returned (.bool (hasB n x)) ∧ Below w.heap.size w w' := by
  by_cases h0 : 0 ≤ x
  · have e0 : decide (0 ≤ x) = true := by simpa using h0
    have HE : Hid (hasB n x = decide (x < n)) := by simp [Hid, hasB, e0]
    go_enter Try.func166, Try.ntmps166
    go_wp2
    go_ret
    exact ⟨by rw [HE.out]; rfl, push (Below.refl _ _) _⟩
  · have e0 : decide (0 ≤ x) = false := by simpa using h0
    have HE : Hid (hasB n x = false) := by simp [Hid, hasB, e0]
    go_enter Try.func166, Try.ntmps166
    go_wp2
    go_ret
    exact ⟨by rw [HE.out]; rfl, push (Below.refl _ _) _⟩

end Go.Proofs.Ytclcjnbjpelcjaa
