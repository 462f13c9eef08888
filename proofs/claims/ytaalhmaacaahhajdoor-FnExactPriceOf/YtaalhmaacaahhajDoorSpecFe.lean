/-
  OWN TEXT: the contract of the specification's CabinFare.
-/
import Derived.Test.YtaalhmaacaahhajDoorSpecIn3
import Derived.Test.YtaalhmaacaahhajDoorPlainFa
import Derived.Test.YtaalhmaacaahhajDoorKitG
import Derived.Deep.DeepCutAuto
namespace Go.Proofs.YtaalhmaacaahhajDoor
open Go.RowKit

set_option maxHeartbeats 1600000 in
theorem specCabin_any (cl : Int) (all : Bool) (be : Int) (w : World) :
    Calls Tryd.prog 8 #[.int .i64 cl, .bool all, .int .i64 be] w fun e w' => e = .returned (.int .i64 (cabinFare cl all be)) ∧ Below w.heap.size w w' := by
  obtain ⟨V, hV⟩ : ∃ V, V = cabinFare cl all be := ⟨_, rfl⟩
  rw [← hV]
  have HV : Hid (V = cabinFare cl all be) := hV
  clear hV
  by_cases h1 : In cl 1 3
  · have e1 : decide (In cl 1 3) = true := decide_eq_true h1
    have H1 : Hid (In cl 1 3) := h1
    cases all with
    | true =>
      by_cases h2 : be = 0
      · subst h2
        have h3 : cl = 1 ∨ cl = 2 ∨ cl = 3 := by unfold In at h1; omega
        clear h1
        rcases h3 with rfl | rfl | rfl
        · have HR : Hid (V = 90) := by show V = 90; rw [HV.out]; exact if_pos ⟨H1.out, .inl ⟨rfl, rfl⟩⟩
          rw [HR.out]
          go_enter Tryd.func8, Tryd.ntmps8
          go_wp2_with (first | (go_at_call 16; refine (l1In_is _ _ _ _).mono ?_; rintro e w' ⟨rfl, hw'⟩; have hw' := hw'.symm; subst hw'))
          go_ret
          exact ⟨rfl, push (Below.refl _ _) _⟩
        · have HR : Hid (V = 150) := by show V = 150; rw [HV.out]; exact if_pos ⟨H1.out, .inl ⟨rfl, rfl⟩⟩
          rw [HR.out]
          go_enter Tryd.func8, Tryd.ntmps8
          go_wp2_with (first | (go_at_call 16; refine (l1In_is _ _ _ _).mono ?_; rintro e w' ⟨rfl, hw'⟩; have hw' := hw'.symm; subst hw'))
          go_ret
          exact ⟨rfl, push (Below.refl _ _) _⟩
        · have HR : Hid (V = 240) := by show V = 240; rw [HV.out]; exact if_pos ⟨H1.out, .inl ⟨rfl, rfl⟩⟩
          rw [HR.out]
          go_enter Tryd.func8, Tryd.ntmps8
          go_wp2_with (first | (go_at_call 16; refine (l1In_is _ _ _ _).mono ?_; rintro e w' ⟨rfl, hw'⟩; have hw' := hw'.symm; subst hw'))
          go_ret
          exact ⟨rfl, push (Below.refl _ _) _⟩
      · have e2 : (be == 0) = false := by simpa using h2
        have e3 : (be != 0) = true := by simpa using h2
        have HR : Hid (V = 0) := by rw [HV.out]; exact if_neg (fun h => by rcases h.2 with h | h; exact h2 h.2; cases h.1)
        rw [HR.out]
        clear h1 h2
        go_enter Tryd.func8, Tryd.ntmps8
        go_wp2_with (first | (go_at_call 16; refine (l1In_is _ _ _ _).mono ?_; rintro e w' ⟨rfl, hw'⟩; have hw' := hw'.symm; subst hw'))
        go_ret
        exact ⟨rfl, Below.refl _ _⟩
    | false =>
      by_cases h2 : In be 1 4
      · have e2 : decide (In be 1 4) = true := decide_eq_true h2
        have H2 : Hid (In be 1 4) := h2
        have h3 : cl = 1 ∨ cl = 2 ∨ cl = 3 := by unfold In at h1; omega
        have h4 : 1 ≤ be ∧ be ≤ 4 := h2
        clear h1 h2
        rcases h3 with rfl | rfl | rfl
        · have HR : Hid (V = 30 * be) := by show V = 30 * be; rw [HV.out]; unfold cabinFare; rw [if_pos ⟨H1.out, .inr ⟨rfl, H2.out⟩⟩]; rfl
          rw [HR.out]
          have hw : IntKind.i64.wrap (30 * be) = 30 * be := by rw [IntKind.wrap_i64]; omega
          go_enter Tryd.func8, Tryd.ntmps8
          go_wp2_with (first | (go_at_call 16; refine (l1In_is _ _ _ _).mono ?_; rintro e w' ⟨rfl, hw'⟩; have hw' := hw'.symm; subst hw'))
          go_ret
          exact ⟨rfl, push (Below.refl _ _) _⟩
        · have HR : Hid (V = 50 * be) := by show V = 50 * be; rw [HV.out]; unfold cabinFare; rw [if_pos ⟨H1.out, .inr ⟨rfl, H2.out⟩⟩]; rfl
          rw [HR.out]
          have hw : IntKind.i64.wrap (50 * be) = 50 * be := by rw [IntKind.wrap_i64]; omega
          go_enter Tryd.func8, Tryd.ntmps8
          go_wp2_with (first | (go_at_call 16; refine (l1In_is _ _ _ _).mono ?_; rintro e w' ⟨rfl, hw'⟩; have hw' := hw'.symm; subst hw'))
          go_ret
          exact ⟨rfl, push (Below.refl _ _) _⟩
        · have HR : Hid (V = 80 * be) := by show V = 80 * be; rw [HV.out]; unfold cabinFare; rw [if_pos ⟨H1.out, .inr ⟨rfl, H2.out⟩⟩]; rfl
          rw [HR.out]
          have hw : IntKind.i64.wrap (80 * be) = 80 * be := by rw [IntKind.wrap_i64]; omega
          go_enter Tryd.func8, Tryd.ntmps8
          go_wp2_with (first | (go_at_call 16; refine (l1In_is _ _ _ _).mono ?_; rintro e w' ⟨rfl, hw'⟩; have hw' := hw'.symm; subst hw'))
          go_ret
          exact ⟨rfl, push (Below.refl _ _) _⟩
      · have e2 : decide (In be 1 4) = false := decide_eq_false h2
        have HR : Hid (V = 0) := by rw [HV.out]; exact if_neg (fun h => by rcases h.2 with h | h; cases h.1; exact h2 h.2)
        rw [HR.out]
        clear h1 h2
        go_enter Tryd.func8, Tryd.ntmps8
        go_wp2_with (first | (go_at_call 16; refine (l1In_is _ _ _ _).mono ?_; rintro e w' ⟨rfl, hw'⟩; have hw' := hw'.symm; subst hw'))
        go_ret
        exact ⟨rfl, Below.refl _ _⟩
  · have e1 : decide (In cl 1 3) = false := decide_eq_false h1
    have HR : Hid (V = 0) := by rw [HV.out]; exact if_neg (fun h => h1 h.1)
    rw [HR.out]
    clear h1
    cases all with
    | true =>
      go_enter Tryd.func8, Tryd.ntmps8
      go_wp2_with (first | (go_at_call 16; refine (l1In_is _ _ _ _).mono ?_; rintro e w' ⟨rfl, hw'⟩; have hw' := hw'.symm; subst hw'))
      go_ret
      exact ⟨rfl, Below.refl _ _⟩
    | false =>
      go_enter Tryd.func8, Tryd.ntmps8
      go_wp2_with (first | (go_at_call 16; refine (l1In_is _ _ _ _).mono ?_; rintro e w' ⟨rfl, hw'⟩; have hw' := hw'.symm; subst hw'))
      go_ret
      exact ⟨rfl, Below.refl _ _⟩

end Go.Proofs.YtaalhmaacaahhajDoor
