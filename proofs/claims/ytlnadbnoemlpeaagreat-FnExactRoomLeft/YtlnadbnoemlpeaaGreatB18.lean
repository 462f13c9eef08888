/-
  OWN TEXT: AsksI, CarW, WishI.
-/
import Derived.Test.YtlnadbnoemlpeaaGreatB13
import Derived.Test.YtlnadbnoemlpeaaGreatB09
import Derived.Test.YtlnadbnoemlpeaaGreatB05
import Derived.Test.YtlnadbnoemlpeaaGreatB14
namespace Go.Proofs.YtlnadbnoemlpeaaGreat
open Go.RowKit

theorem asksCar_any (pe len hei cl : Int) (all : Bool) (be : Int) (w : World) :
    Calls Tryz.prog 82 #[.agg #[.int .i64 pe, .int .i64 len, .int .i64 hei, .int .i64 cl, .bool all, .int .i64 be]] w fun e w' => e = .returned (.bool (decide (¬ (len = 0 ∧ hei = 0)))) ∧ Below w.heap.size w w' := by
  obtain ⟨c, hc⟩ : ∃ c, c = decide (¬ (len = 0 ∧ hei = 0)) := ⟨_, rfl⟩
  rw [← hc]
  have HC : Hid (c = decide (¬ (len = 0 ∧ hei = 0))) := hc
  clear hc
  by_cases h1 : len = 0
  · subst h1
    by_cases h2 : hei = 0
    · subst h2
      go_enter Tryz.func82, Tryz.ntmps82
      go_wp2
      go_ret
      exact ⟨by rw [HC.out]; rfl, push (Below.refl _ _) _⟩
    · have e2 : (hei != 0) = true := by simpa using h2
      have HR : Hid (c = true) := by rw [HC.out]; exact decide_eq_true (fun h => h2 h.2)
      clear h2
      go_enter Tryz.func82, Tryz.ntmps82
      go_wp2
      go_ret
      exact ⟨by rw [HR.out]; rfl, push (Below.refl _ _) _⟩
  · have e1 : (len != 0) = true := by simpa using h1
    have HR : Hid (c = true) := by rw [HC.out]; exact decide_eq_true (fun h => h1 h.1)
    clear h1
    go_enter Tryz.func82, Tryz.ntmps82
    go_wp2
    go_ret
    exact ⟨by rw [HR.out]; rfl, push (Below.refl _ _) _⟩

theorem asksCabin_any (pe len hei cl : Int) (all : Bool) (be : Int) (w : World) :
    Calls Tryz.prog 83 #[.agg #[.int .i64 pe, .int .i64 len, .int .i64 hei, .int .i64 cl, .bool all, .int .i64 be]] w fun e w' => e = .returned (.bool (decide (¬ (cl = 0 ∧ all = false ∧ be = 0)))) ∧ Below w.heap.size w w' := by
  obtain ⟨c, hc⟩ : ∃ c, c = decide (¬ (cl = 0 ∧ all = false ∧ be = 0)) := ⟨_, rfl⟩
  rw [← hc]
  have HC : Hid (c = decide (¬ (cl = 0 ∧ all = false ∧ be = 0))) := hc
  clear hc
  by_cases h1 : cl = 0
  · subst h1
    cases all with
    | true =>
      have HR : Hid (c = true) := by rw [HC.out]; exact decide_eq_true (fun h => by cases h.2.1)
      go_enter Tryz.func83, Tryz.ntmps83
      go_wp2
      go_ret
      exact ⟨by rw [HR.out]; rfl, push (Below.refl _ _) _⟩
    | false =>
      by_cases h2 : be = 0
      · subst h2
        go_enter Tryz.func83, Tryz.ntmps83
        go_wp2
        go_ret
        exact ⟨by rw [HC.out]; rfl, push (Below.refl _ _) _⟩
      · have e2 : (be != 0) = true := by simpa using h2
        have HR : Hid (c = true) := by rw [HC.out]; exact decide_eq_true (fun h => h2 h.2.2)
        clear h2
        go_enter Tryz.func83, Tryz.ntmps83
        go_wp2
        go_ret
        exact ⟨by rw [HR.out]; rfl, push (Below.refl _ _) _⟩
  · have e1 : (cl != 0) = true := by simpa using h1
    have HR : Hid (c = true) := by rw [HC.out]; exact decide_eq_true (fun h => h1 h.1)
    clear h1
    go_enter Tryz.func83, Tryz.ntmps83
    go_wp2
    go_ret
    exact ⟨by rw [HR.out]; rfl, push (Below.refl _ _) _⟩

end Go.Proofs.YtlnadbnoemlpeaaGreat

namespace Go.Proofs.YtlnadbnoemlpeaaGreat
open Go.RowKit

theorem isCar_is (x y : Int) (w : World) :
    Calls Tryz.prog 158 #[.int .i64 x, .int .i64 y] w fun e w' => e = .returned (.bool (decide (In x 1 2000 ∧ In y 1 500))) ∧ w' = w := by
  obtain ⟨c, hc⟩ : ∃ c, c = decide (In x 1 2000 ∧ In y 1 500) := ⟨_, rfl⟩
  rw [← hc]
  have HC : Hid (c = decide (In x 1 2000 ∧ In y 1 500)) := hc
  clear hc
  by_cases h1 : In x 1 2000
  · have e1 : decide (In x 1 2000) = true := decide_eq_true h1
    have H1 : Hid (In x 1 2000) := h1
    clear h1
    by_cases h2 : In y 1 500
    · have e2 : decide (In y 1 500) = true := decide_eq_true h2
      have H2 : Hid (In y 1 500) := h2
      clear h2
      go_enter Tryz.func158, Tryz.ntmps158
      go_wp2_with (first | (go_at_call 104; refine (within_is _ _ _ _).mono ?_; rintro e w' ⟨rfl, hw'⟩; have hw' := hw'.symm; subst hw'))
      go_ret
      exact ⟨by rw [HC.out, decide_eq_true ⟨H1.out, H2.out⟩]; rfl, rfl⟩
    · have e2 : decide (In y 1 500) = false := decide_eq_false h2
      have H2 : Hid (¬ In y 1 500) := h2
      clear h2
      go_enter Tryz.func158, Tryz.ntmps158
      go_wp2_with (first | (go_at_call 104; refine (within_is _ _ _ _).mono ?_; rintro e w' ⟨rfl, hw'⟩; have hw' := hw'.symm; subst hw'))
      go_ret
      exact ⟨by rw [HC.out, decide_eq_false (fun h => H2.out h.2)]; rfl, rfl⟩
  · have e1 : decide (In x 1 2000) = false := decide_eq_false h1
    have H1 : Hid (¬ In x 1 2000) := h1
    clear h1
    go_enter Tryz.func158, Tryz.ntmps158
    go_wp2_with (first | (go_at_call 104; refine (within_is _ _ _ _).mono ?_; rintro e w' ⟨rfl, hw'⟩; have hw' := hw'.symm; subst hw'))
    go_ret
    exact ⟨by rw [HC.out, decide_eq_false (fun h => H1.out h.1)]; rfl, rfl⟩

end Go.Proofs.YtlnadbnoemlpeaaGreat

namespace Go.Proofs.YtlnadbnoemlpeaaGreat
open Go.RowKit

set_option maxHeartbeats 800000 in
theorem wish_is (cl : Int) (all : Bool) (be : Int) (w : World) :
    Calls Tryz.prog 159 #[.int .i64 cl, .bool all, .int .i64 be] w fun e w' => e = .returned (.bool (decide (CabOk cl all be))) ∧ w' = w := by
  obtain ⟨c, hc⟩ : ∃ c, c = decide (CabOk cl all be) := ⟨_, rfl⟩
  rw [← hc]
  have HC : Hid (c = decide (CabOk cl all be)) := hc
  clear hc
  by_cases h1 : In cl 1 3
  · have e1 : decide (In cl 1 3) = true := decide_eq_true h1
    have H1 : Hid (In cl 1 3) := h1
    clear h1
    cases all with
    | true =>
      by_cases h2 : be = 0
      · subst h2
        go_enter Tryz.func159, Tryz.ntmps159
        go_wp2_with (first | (go_at_call 152; refine (class_is _ _).mono ?_; rintro e w' ⟨rfl, hw'⟩; have hw' := hw'.symm; subst hw'))
        go_ret
        exact ⟨by rw [HC.out, decide_eq_true ⟨H1.out, .inl ⟨rfl, rfl⟩⟩]; rfl, rfl⟩
      · have e2 : (be == 0) = false := by simpa using h2
        have H2 : Hid (¬ be = 0) := h2
        clear h2
        go_enter Tryz.func159, Tryz.ntmps159
        go_wp2_with (first | (go_at_call 152; refine (class_is _ _).mono ?_; rintro e w' ⟨rfl, hw'⟩; have hw' := hw'.symm; subst hw'))
        go_ret
        exact ⟨by rw [HC.out, decide_eq_false (fun h => by rcases h.2 with h | h; exact H2.out h.2; cases h.1)]; rfl, rfl⟩
    | false =>
      by_cases h2 : In be 1 4
      · have e2 : decide (In be 1 4) = true := decide_eq_true h2
        have H2 : Hid (In be 1 4) := h2
        clear h2
        go_enter Tryz.func159, Tryz.ntmps159
        go_wp2_with (first | (go_at_call 152; refine (class_is _ _).mono ?_; rintro e w' ⟨rfl, hw'⟩; have hw' := hw'.symm; subst hw') | (go_at_call 153; refine (berths_is _ _).mono ?_; rintro e w' ⟨rfl, hw'⟩; have hw' := hw'.symm; subst hw'))
        go_ret
        exact ⟨by rw [HC.out, decide_eq_true ⟨H1.out, .inr ⟨rfl, H2.out⟩⟩]; rfl, rfl⟩
      · have e2 : decide (In be 1 4) = false := decide_eq_false h2
        have H2 : Hid (¬ In be 1 4) := h2
        clear h2
        go_enter Tryz.func159, Tryz.ntmps159
        go_wp2_with (first | (go_at_call 152; refine (class_is _ _).mono ?_; rintro e w' ⟨rfl, hw'⟩; have hw' := hw'.symm; subst hw') | (go_at_call 153; refine (berths_is _ _).mono ?_; rintro e w' ⟨rfl, hw'⟩; have hw' := hw'.symm; subst hw'))
        go_ret
        exact ⟨by rw [HC.out, decide_eq_false (fun h => by rcases h.2 with h | h; cases h.1; exact H2.out h.2)]; rfl, rfl⟩
  · have e1 : decide (In cl 1 3) = false := decide_eq_false h1
    have H1 : Hid (¬ In cl 1 3) := h1
    clear h1
    cases all with
    | true =>
      go_enter Tryz.func159, Tryz.ntmps159
      go_wp2_with (first | (go_at_call 152; refine (class_is _ _).mono ?_; rintro e w' ⟨rfl, hw'⟩; have hw' := hw'.symm; subst hw'))
      go_ret
      exact ⟨by rw [HC.out, decide_eq_false (fun h => H1.out h.1)]; rfl, rfl⟩
    | false =>
      go_enter Tryz.func159, Tryz.ntmps159
      go_wp2_with (first | (go_at_call 152; refine (class_is _ _).mono ?_; rintro e w' ⟨rfl, hw'⟩; have hw' := hw'.symm; subst hw'))
      go_ret
      exact ⟨by rw [HC.out, decide_eq_false (fun h => H1.out h.1)]; rfl, rfl⟩

end Go.Proofs.YtlnadbnoemlpeaaGreat
