/-
  OWN TEXT: SpecIn, SpecIn3, SpecIn2.
-/
import Derived.Test.YtaopapjnhlombaaGreatRows
import Derived.Deep.RegionHeld3
import Derived.Test.YtaopapjnhlombaaGreatB00
import Derived.Test.YtaopapjnhlombaaGreatB08
namespace Go.Proofs.YtaopapjnhlombaaGreat
open Go.RowKit

theorem l1In_yes (x lo hi : Int) (w : World) (h1 : lo ≤ x) (h2 : x ≤ hi) :
    Calls Tryz.prog 98 #[.int .i64 x, .int .i64 lo, .int .i64 hi] w fun e w' => e = .returned (.bool true) ∧ w' = w := by
  have e1 : decide (lo ≤ x) = true := by simpa using h1
  have e2 : decide (x ≤ hi) = true := by simpa using h2
  go_enter Tryz.func98, Tryz.ntmps98
  go_wp2
  go_ret
  exact ⟨rfl, rfl⟩

theorem l1In_low (x lo hi : Int) (w : World) (h1 : x < lo) :
    Calls Tryz.prog 98 #[.int .i64 x, .int .i64 lo, .int .i64 hi] w fun e w' => e = .returned (.bool false) ∧ w' = w := by
  have e1 : decide (lo ≤ x) = false := by simpa using h1
  go_enter Tryz.func98, Tryz.ntmps98
  go_wp2
  go_ret
  exact ⟨rfl, rfl⟩

theorem l1In_high (x lo hi : Int) (w : World) (h1 : lo ≤ x) (h2 : hi < x) :
    Calls Tryz.prog 98 #[.int .i64 x, .int .i64 lo, .int .i64 hi] w fun e w' => e = .returned (.bool false) ∧ w' = w := by
  have e1 : decide (lo ≤ x) = true := by simpa using h1
  have e2 : decide (x ≤ hi) = false := by simpa using h2
  go_enter Tryz.func98, Tryz.ntmps98
  go_wp2
  go_ret
  exact ⟨rfl, rfl⟩

theorem l1In_no (x lo hi : Int) (w : World) (h : ¬ (lo ≤ x ∧ x ≤ hi)) :
    Calls Tryz.prog 98 #[.int .i64 x, .int .i64 lo, .int .i64 hi] w fun e w' => e = .returned (.bool false) ∧ w' = w := by
  by_cases h1 : lo ≤ x
  · exact l1In_high x lo hi w h1 (by omega)
  · exact l1In_low x lo hi w (by omega)

end Go.Proofs.YtaopapjnhlombaaGreat

namespace Go.Proofs.YtaopapjnhlombaaGreat
open Go.RowKit

theorem l1In_is (x lo hi : Int) (w : World) :
    Calls Tryz.prog 98 #[.int .i64 x, .int .i64 lo, .int .i64 hi] w fun e w' => e = .returned (.bool (decide (In x lo hi))) ∧ w' = w := by
  by_cases h : In x lo hi
  · rw [decide_eq_true h]; exact l1In_yes x lo hi w h.1 h.2
  · rw [decide_eq_false h]; exact l1In_no x lo hi w h

end Go.Proofs.YtaopapjnhlombaaGreat

namespace Go.Proofs.YtaopapjnhlombaaGreat
open Go.RowKit

theorem l4By_is (x : Int) (w : World) :
    Calls Tryz.prog 97 #[.int .i64 x] w fun e w' => e = .returned (.bool (decide (In x 1 9999))) ∧ w' = w := by
  go_enter Tryz.func97, Tryz.ntmps97
  go_wp2_with (first | (go_at_call 98; refine (l1In_is _ _ _ _).mono ?_; rintro e w' ⟨rfl, rfl⟩))
  go_ret
  exact ⟨rfl, rfl⟩

end Go.Proofs.YtaopapjnhlombaaGreat
