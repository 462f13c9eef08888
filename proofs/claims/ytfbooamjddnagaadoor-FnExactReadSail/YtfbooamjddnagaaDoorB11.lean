/-
  OWN TEXT: SpecFc, SpecFg.
-/
import Derived.Deep.DeepCutAuto
import Derived.Test.YtfbooamjddnagaaDoorB10
import Derived.Test.YtfbooamjddnagaaDoorB05
import Derived.Test.YtfbooamjddnagaaDoorB06
namespace Go.Proofs.YtfbooamjddnagaaDoor
open Go.RowKit

theorem l6Car_is (x y : Int) (w : World) :
    Calls Tryd.prog 106 #[.int .i64 x, .int .i64 y] w fun e w' => e = .returned (.bool (decide (CarOk x y))) ∧ w' = w := by
  obtain ⟨c, hc⟩ : ∃ c, c = decide (CarOk x y) := ⟨_, rfl⟩
  rw [← hc]
  have HC : Hid (c = decide (CarOk x y)) := hc
  clear hc
  by_cases h1 : In x 1 2000
  · have e1 : decide (In x 1 2000) = true := decide_eq_true h1
    have H1 : Hid (In x 1 2000) := h1
    clear h1
    by_cases h2 : In y 1 500
    · have e2 : decide (In y 1 500) = true := decide_eq_true h2
      have H2 : Hid (In y 1 500) := h2
      clear h2
      go_enter Tryd.func106, Tryd.ntmps106
      go_wp2_with (first | (go_at_call 27; refine (l1In_is _ _ _ _).mono ?_; rintro e w' ⟨rfl, hw'⟩; have hw' := hw'.symm; subst hw'))
      go_ret
      exact ⟨by rw [HC.out, decide_eq_true ⟨H1.out, H2.out⟩]; rfl, rfl⟩
    · have e2 : decide (In y 1 500) = false := decide_eq_false h2
      have H2 : Hid (¬ In y 1 500) := h2
      clear h2
      go_enter Tryd.func106, Tryd.ntmps106
      go_wp2_with (first | (go_at_call 27; refine (l1In_is _ _ _ _).mono ?_; rintro e w' ⟨rfl, hw'⟩; have hw' := hw'.symm; subst hw'))
      go_ret
      exact ⟨by rw [HC.out, decide_eq_false (fun h => H2.out h.2)]; rfl, rfl⟩
  · have e1 : decide (In x 1 2000) = false := decide_eq_false h1
    have H1 : Hid (¬ In x 1 2000) := h1
    clear h1
    go_enter Tryd.func106, Tryd.ntmps106
    go_wp2_with (first | (go_at_call 27; refine (l1In_is _ _ _ _).mono ?_; rintro e w' ⟨rfl, hw'⟩; have hw' := hw'.symm; subst hw'))
    go_ret
    exact ⟨by rw [HC.out, decide_eq_false (fun h => H1.out h.1)]; rfl, rfl⟩

end Go.Proofs.YtfbooamjddnagaaDoor

namespace Go.Proofs.YtfbooamjddnagaaDoor
open Go.RowKit

set_option maxHeartbeats 3200000 in
theorem specParty_any (pe len hei cl : Int) (all : Bool) (be : Int) (w : World) :
    Calls Tryd.prog 65 #[.agg #[.int .i64 pe, .int .i64 len, .int .i64 hei, .int .i64 cl, .bool all, .int .i64 be]] w fun e w' => SaysIf (PartyOk ⟨pe, len, hei, cl, all, be⟩) e ∧ Below w.heap.size w w' := by
  by_cases h1 : In pe 1 20
  · have e1 : decide (In pe 1 20) = true := decide_eq_true h1
    have H1 : Hid (In pe 1 20) := h1
    clear h1
    by_cases h2 : len = 0
    · subst h2
      have HN : Hid (¬ CarOk 0 hei) := fun h => by have := h.1; unfold In at this; omega
      have e3 : decide (CarOk 0 hei) = false := decide_eq_false HN.out
      by_cases h3 : hei = 0
      · subst h3
        by_cases k0 : cl = 0
        · subst k0
          cases all with
          | true =>
            go_enter Tryd.func65, Tryd.ntmps65
            go_wp2_with (first | (go_at_call 27; refine (l1In_is _ _ _ _).mono ?_; rintro e w' ⟨rfl, hw'⟩; have hw' := hw'.symm; subst hw') | (go_at_call 106; refine (l6Car_is _ _ _).mono ?_; rintro e w' ⟨rfl, hw'⟩; have hw' := hw'.symm; subst hw'))
            go_ret
            exact ⟨says_no (fun h => by rcases h.2.2 with h | h; cases h.2.1; have h9 : In (0 : Int) 1 3 := h.1; unfold In at h9; omega), push (Below.refl _ _) _⟩
          | false =>
            by_cases k1 : be = 0
            · subst k1
              go_enter Tryd.func65, Tryd.ntmps65
              go_wp2_with (first | (go_at_call 27; refine (l1In_is _ _ _ _).mono ?_; rintro e w' ⟨rfl, hw'⟩; have hw' := hw'.symm; subst hw') | (go_at_call 106; refine (l6Car_is _ _ _).mono ?_; rintro e w' ⟨rfl, hw'⟩; have hw' := hw'.symm; subst hw'))
              go_ret
              exact ⟨says_yes ⟨H1.out, .inl ⟨rfl, rfl⟩, .inl ⟨rfl, rfl, rfl⟩⟩, push (Below.refl _ _) _⟩
            · have x1 : (be == 0) = false := by simpa using k1
              have K1 : Hid (¬ be = 0) := k1
              clear k1
              go_enter Tryd.func65, Tryd.ntmps65
              go_wp2_with (first | (go_at_call 27; refine (l1In_is _ _ _ _).mono ?_; rintro e w' ⟨rfl, hw'⟩; have hw' := hw'.symm; subst hw') | (go_at_call 106; refine (l6Car_is _ _ _).mono ?_; rintro e w' ⟨rfl, hw'⟩; have hw' := hw'.symm; subst hw'))
              go_ret
              exact ⟨says_no (fun h => by rcases h.2.2 with h | h; exact K1.out h.2.2; have h9 : In (0 : Int) 1 3 := h.1; unfold In at h9; omega), push (Below.refl _ _) _⟩
        · have x0 : (cl == 0) = false := by simpa using k0
          have K0 : Hid (¬ cl = 0) := k0
          clear k0
          by_cases k2 : In cl 1 3
          · have x2 : decide (In cl 1 3) = true := decide_eq_true k2
            have K2 : Hid (In cl 1 3) := k2
            clear k2
            cases all with
            | true =>
              by_cases k1 : be = 0
              · subst k1
                go_enter Tryd.func65, Tryd.ntmps65
                go_wp2_with (first | (go_at_call 27; refine (l1In_is _ _ _ _).mono ?_; rintro e w' ⟨rfl, hw'⟩; have hw' := hw'.symm; subst hw') | (go_at_call 106; refine (l6Car_is _ _ _).mono ?_; rintro e w' ⟨rfl, hw'⟩; have hw' := hw'.symm; subst hw'))
                go_ret
                exact ⟨says_yes ⟨H1.out, .inl ⟨rfl, rfl⟩, .inr ⟨K2.out, .inl ⟨rfl, rfl⟩⟩⟩, push (Below.refl _ _) _⟩
              · have x1 : (be == 0) = false := by simpa using k1
                have K1 : Hid (¬ be = 0) := k1
                clear k1
                go_enter Tryd.func65, Tryd.ntmps65
                go_wp2_with (first | (go_at_call 27; refine (l1In_is _ _ _ _).mono ?_; rintro e w' ⟨rfl, hw'⟩; have hw' := hw'.symm; subst hw') | (go_at_call 106; refine (l6Car_is _ _ _).mono ?_; rintro e w' ⟨rfl, hw'⟩; have hw' := hw'.symm; subst hw'))
                go_ret
                exact ⟨says_no (fun h => by rcases h.2.2 with h | h; exact K0.out h.1; rcases h.2 with h | h; exact K1.out h.2; cases h.1), push (Below.refl _ _) _⟩
            | false =>
              by_cases k3 : In be 1 4
              · have x3 : decide (In be 1 4) = true := decide_eq_true k3
                have K3 : Hid (In be 1 4) := k3
                clear k3
                go_enter Tryd.func65, Tryd.ntmps65
                go_wp2_with (first | (go_at_call 27; refine (l1In_is _ _ _ _).mono ?_; rintro e w' ⟨rfl, hw'⟩; have hw' := hw'.symm; subst hw') | (go_at_call 106; refine (l6Car_is _ _ _).mono ?_; rintro e w' ⟨rfl, hw'⟩; have hw' := hw'.symm; subst hw'))
                go_ret
                exact ⟨says_yes ⟨H1.out, .inl ⟨rfl, rfl⟩, .inr ⟨K2.out, .inr ⟨rfl, K3.out⟩⟩⟩, push (Below.refl _ _) _⟩
              · have x3 : decide (In be 1 4) = false := decide_eq_false k3
                have K3 : Hid (¬ In be 1 4) := k3
                clear k3
                go_enter Tryd.func65, Tryd.ntmps65
                go_wp2_with (first | (go_at_call 27; refine (l1In_is _ _ _ _).mono ?_; rintro e w' ⟨rfl, hw'⟩; have hw' := hw'.symm; subst hw') | (go_at_call 106; refine (l6Car_is _ _ _).mono ?_; rintro e w' ⟨rfl, hw'⟩; have hw' := hw'.symm; subst hw'))
                go_ret
                exact ⟨says_no (fun h => by rcases h.2.2 with h | h; exact K0.out h.1; rcases h.2 with h | h; cases h.1; exact K3.out h.2), push (Below.refl _ _) _⟩
          · have x2 : decide (In cl 1 3) = false := decide_eq_false k2
            have K2 : Hid (¬ In cl 1 3) := k2
            clear k2
            go_enter Tryd.func65, Tryd.ntmps65
            go_wp2_with (first | (go_at_call 27; refine (l1In_is _ _ _ _).mono ?_; rintro e w' ⟨rfl, hw'⟩; have hw' := hw'.symm; subst hw') | (go_at_call 106; refine (l6Car_is _ _ _).mono ?_; rintro e w' ⟨rfl, hw'⟩; have hw' := hw'.symm; subst hw'))
            go_ret
            exact ⟨says_no (fun h => by rcases h.2.2 with h | h; exact K0.out h.1; exact K2.out h.1), push (Below.refl _ _) _⟩
      · have e2 : (hei == 0) = false := by simpa using h3
        have H3 : Hid (¬ hei = 0) := h3
        clear h3
        go_enter Tryd.func65, Tryd.ntmps65
        go_wp2_with (first | (go_at_call 27; refine (l1In_is _ _ _ _).mono ?_; rintro e w' ⟨rfl, hw'⟩; have hw' := hw'.symm; subst hw') | (go_at_call 106; refine (l6Car_is _ _ _).mono ?_; rintro e w' ⟨rfl, hw'⟩; have hw' := hw'.symm; subst hw'))
        go_ret
        exact ⟨says_no (fun h => by rcases h.2.1 with h | h; exact H3.out h.2; exact HN.out h), push (Below.refl _ _) _⟩
    · have e2 : (len == 0) = false := by simpa using h2
      have H2 : Hid (¬ len = 0) := h2
      clear h2
      by_cases h3 : CarOk len hei
      · have e3 : decide (CarOk len hei) = true := decide_eq_true h3
        have H3 : Hid (CarOk len hei) := h3
        clear h3
        by_cases k0 : cl = 0
        · subst k0
          cases all with
          | true =>
            go_enter Tryd.func65, Tryd.ntmps65
            go_wp2_with (first | (go_at_call 27; refine (l1In_is _ _ _ _).mono ?_; rintro e w' ⟨rfl, hw'⟩; have hw' := hw'.symm; subst hw') | (go_at_call 106; refine (l6Car_is _ _ _).mono ?_; rintro e w' ⟨rfl, hw'⟩; have hw' := hw'.symm; subst hw'))
            go_ret
            exact ⟨says_no (fun h => by rcases h.2.2 with h | h; cases h.2.1; have h9 : In (0 : Int) 1 3 := h.1; unfold In at h9; omega), push (Below.refl _ _) _⟩
          | false =>
            by_cases k1 : be = 0
            · subst k1
              go_enter Tryd.func65, Tryd.ntmps65
              go_wp2_with (first | (go_at_call 27; refine (l1In_is _ _ _ _).mono ?_; rintro e w' ⟨rfl, hw'⟩; have hw' := hw'.symm; subst hw') | (go_at_call 106; refine (l6Car_is _ _ _).mono ?_; rintro e w' ⟨rfl, hw'⟩; have hw' := hw'.symm; subst hw'))
              go_ret
              exact ⟨says_yes ⟨H1.out, .inr H3.out, .inl ⟨rfl, rfl, rfl⟩⟩, push (Below.refl _ _) _⟩
            · have x1 : (be == 0) = false := by simpa using k1
              have K1 : Hid (¬ be = 0) := k1
              clear k1
              go_enter Tryd.func65, Tryd.ntmps65
              go_wp2_with (first | (go_at_call 27; refine (l1In_is _ _ _ _).mono ?_; rintro e w' ⟨rfl, hw'⟩; have hw' := hw'.symm; subst hw') | (go_at_call 106; refine (l6Car_is _ _ _).mono ?_; rintro e w' ⟨rfl, hw'⟩; have hw' := hw'.symm; subst hw'))
              go_ret
              exact ⟨says_no (fun h => by rcases h.2.2 with h | h; exact K1.out h.2.2; have h9 : In (0 : Int) 1 3 := h.1; unfold In at h9; omega), push (Below.refl _ _) _⟩
        · have x0 : (cl == 0) = false := by simpa using k0
          have K0 : Hid (¬ cl = 0) := k0
          clear k0
          by_cases k2 : In cl 1 3
          · have x2 : decide (In cl 1 3) = true := decide_eq_true k2
            have K2 : Hid (In cl 1 3) := k2
            clear k2
            cases all with
            | true =>
              by_cases k1 : be = 0
              · subst k1
                go_enter Tryd.func65, Tryd.ntmps65
                go_wp2_with (first | (go_at_call 27; refine (l1In_is _ _ _ _).mono ?_; rintro e w' ⟨rfl, hw'⟩; have hw' := hw'.symm; subst hw') | (go_at_call 106; refine (l6Car_is _ _ _).mono ?_; rintro e w' ⟨rfl, hw'⟩; have hw' := hw'.symm; subst hw'))
                go_ret
                exact ⟨says_yes ⟨H1.out, .inr H3.out, .inr ⟨K2.out, .inl ⟨rfl, rfl⟩⟩⟩, push (Below.refl _ _) _⟩
              · have x1 : (be == 0) = false := by simpa using k1
                have K1 : Hid (¬ be = 0) := k1
                clear k1
                go_enter Tryd.func65, Tryd.ntmps65
                go_wp2_with (first | (go_at_call 27; refine (l1In_is _ _ _ _).mono ?_; rintro e w' ⟨rfl, hw'⟩; have hw' := hw'.symm; subst hw') | (go_at_call 106; refine (l6Car_is _ _ _).mono ?_; rintro e w' ⟨rfl, hw'⟩; have hw' := hw'.symm; subst hw'))
                go_ret
                exact ⟨says_no (fun h => by rcases h.2.2 with h | h; exact K0.out h.1; rcases h.2 with h | h; exact K1.out h.2; cases h.1), push (Below.refl _ _) _⟩
            | false =>
              by_cases k3 : In be 1 4
              · have x3 : decide (In be 1 4) = true := decide_eq_true k3
                have K3 : Hid (In be 1 4) := k3
                clear k3
                go_enter Tryd.func65, Tryd.ntmps65
                go_wp2_with (first | (go_at_call 27; refine (l1In_is _ _ _ _).mono ?_; rintro e w' ⟨rfl, hw'⟩; have hw' := hw'.symm; subst hw') | (go_at_call 106; refine (l6Car_is _ _ _).mono ?_; rintro e w' ⟨rfl, hw'⟩; have hw' := hw'.symm; subst hw'))
                go_ret
                exact ⟨says_yes ⟨H1.out, .inr H3.out, .inr ⟨K2.out, .inr ⟨rfl, K3.out⟩⟩⟩, push (Below.refl _ _) _⟩
              · have x3 : decide (In be 1 4) = false := decide_eq_false k3
                have K3 : Hid (¬ In be 1 4) := k3
                clear k3
                go_enter Tryd.func65, Tryd.ntmps65
                go_wp2_with (first | (go_at_call 27; refine (l1In_is _ _ _ _).mono ?_; rintro e w' ⟨rfl, hw'⟩; have hw' := hw'.symm; subst hw') | (go_at_call 106; refine (l6Car_is _ _ _).mono ?_; rintro e w' ⟨rfl, hw'⟩; have hw' := hw'.symm; subst hw'))
                go_ret
                exact ⟨says_no (fun h => by rcases h.2.2 with h | h; exact K0.out h.1; rcases h.2 with h | h; cases h.1; exact K3.out h.2), push (Below.refl _ _) _⟩
          · have x2 : decide (In cl 1 3) = false := decide_eq_false k2
            have K2 : Hid (¬ In cl 1 3) := k2
            clear k2
            go_enter Tryd.func65, Tryd.ntmps65
            go_wp2_with (first | (go_at_call 27; refine (l1In_is _ _ _ _).mono ?_; rintro e w' ⟨rfl, hw'⟩; have hw' := hw'.symm; subst hw') | (go_at_call 106; refine (l6Car_is _ _ _).mono ?_; rintro e w' ⟨rfl, hw'⟩; have hw' := hw'.symm; subst hw'))
            go_ret
            exact ⟨says_no (fun h => by rcases h.2.2 with h | h; exact K0.out h.1; exact K2.out h.1), push (Below.refl _ _) _⟩
      · have e3 : decide (CarOk len hei) = false := decide_eq_false h3
        have H3 : Hid (¬ CarOk len hei) := h3
        clear h3
        go_enter Tryd.func65, Tryd.ntmps65
        go_wp2_with (first | (go_at_call 27; refine (l1In_is _ _ _ _).mono ?_; rintro e w' ⟨rfl, hw'⟩; have hw' := hw'.symm; subst hw') | (go_at_call 106; refine (l6Car_is _ _ _).mono ?_; rintro e w' ⟨rfl, hw'⟩; have hw' := hw'.symm; subst hw'))
        go_ret
        exact ⟨says_no (fun h => by rcases h.2.1 with h | h; exact H2.out h.1; exact H3.out h), push (Below.refl _ _) _⟩
  · have e1 : decide (In pe 1 20) = false := decide_eq_false h1
    have H1 : Hid (¬ In pe 1 20) := h1
    clear h1
    go_enter Tryd.func65, Tryd.ntmps65
    go_wp2_with (first | (go_at_call 27; refine (l1In_is _ _ _ _).mono ?_; rintro e w' ⟨rfl, hw'⟩; have hw' := hw'.symm; subst hw') | (go_at_call 106; refine (l6Car_is _ _ _).mono ?_; rintro e w' ⟨rfl, hw'⟩; have hw' := hw'.symm; subst hw'))
    go_ret
    exact ⟨says_no (fun h => H1.out h.1), push (Below.refl _ _) _⟩

end Go.Proofs.YtfbooamjddnagaaDoor
