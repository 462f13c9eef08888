/-
  OWN TEXT: contracts of the program's asksForCar and asksForCabin.
-/
import Derived.Test.YtgjcmifnigdndaaDoorInI
import Derived.Test.YtgjcmifnigdndaaDoorPlainFa
import Derived.Test.YtgjcmifnigdndaaDoorKitG
namespace Go.Proofs.YtgjcmifnigdndaaDoor
open Go.RowKit

theorem asksCar_any (pe len hei cl : Int) (all : Bool) (be : Int) (w : World) :
    Calls Tryd.prog 28 #[.agg #[.int .i64 pe, .int .i64 len, .int .i64 hei, .int .i64 cl, .bool all, .int .i64 be]] w fun e w' => e = .returned (.bool (decide (¬ (len = 0 ∧ hei = 0)))) ∧ Below w.heap.size w w' := by
  obtain ⟨c, hc⟩ : ∃ c, c = decide (¬ (len = 0 ∧ hei = 0)) := ⟨_, rfl⟩
  rw [← hc]
  have HC : Hid (c = decide (¬ (len = 0 ∧ hei = 0))) := hc
  clear hc
  by_cases h1 : len = 0
  · subst h1
    by_cases h2 : hei = 0
    · subst h2
      go_enter Tryd.func28, Tryd.ntmps28
      go_wp2
      go_ret
      exact ⟨by rw [HC.out]; rfl, push (Below.refl _ _) _⟩
    · have e2 : (hei != 0) = true := by simpa using h2
      have HR : Hid (c = true) := by rw [HC.out]; exact decide_eq_true (fun h => h2 h.2)
      clear h2
      go_enter Tryd.func28, Tryd.ntmps28
      go_wp2
      go_ret
      exact ⟨by rw [HR.out]; rfl, push (Below.refl _ _) _⟩
  · have e1 : (len != 0) = true := by simpa using h1
    have HR : Hid (c = true) := by rw [HC.out]; exact decide_eq_true (fun h => h1 h.1)
    clear h1
    go_enter Tryd.func28, Tryd.ntmps28
    go_wp2
    go_ret
    exact ⟨by rw [HR.out]; rfl, push (Below.refl _ _) _⟩

theorem asksCabin_any (pe len hei cl : Int) (all : Bool) (be : Int) (w : World) :
    Calls Tryd.prog 30 #[.agg #[.int .i64 pe, .int .i64 len, .int .i64 hei, .int .i64 cl, .bool all, .int .i64 be]] w fun e w' => e = .returned (.bool (decide (¬ (cl = 0 ∧ all = false ∧ be = 0)))) ∧ Below w.heap.size w w' := by
  obtain ⟨c, hc⟩ : ∃ c, c = decide (¬ (cl = 0 ∧ all = false ∧ be = 0)) := ⟨_, rfl⟩
  rw [← hc]
  have HC : Hid (c = decide (¬ (cl = 0 ∧ all = false ∧ be = 0))) := hc
  clear hc
  by_cases h1 : cl = 0
  · subst h1
    cases all with
    | true =>
      have HR : Hid (c = true) := by rw [HC.out]; exact decide_eq_true (fun h => by cases h.2.1)
      go_enter Tryd.func30, Tryd.ntmps30
      go_wp2
      go_ret
      exact ⟨by rw [HR.out]; rfl, push (Below.refl _ _) _⟩
    | false =>
      by_cases h2 : be = 0
      · subst h2
        go_enter Tryd.func30, Tryd.ntmps30
        go_wp2
        go_ret
        exact ⟨by rw [HC.out]; rfl, push (Below.refl _ _) _⟩
      · have e2 : (be != 0) = true := by simpa using h2
        have HR : Hid (c = true) := by rw [HC.out]; exact decide_eq_true (fun h => h2 h.2.2)
        clear h2
        go_enter Tryd.func30, Tryd.ntmps30
        go_wp2
        go_ret
        exact ⟨by rw [HR.out]; rfl, push (Below.refl _ _) _⟩
  · have e1 : (cl != 0) = true := by simpa using h1
    have HR : Hid (c = true) := by rw [HC.out]; exact decide_eq_true (fun h => h1 h.1)
    clear h1
    go_enter Tryd.func30, Tryd.ntmps30
    go_wp2
    go_ret
    exact ⟨by rw [HR.out]; rfl, push (Below.refl _ _) _⟩

end Go.Proofs.YtgjcmifnigdndaaDoor
