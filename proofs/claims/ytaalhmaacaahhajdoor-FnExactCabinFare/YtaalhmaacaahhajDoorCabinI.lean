/-
  OWN TEXT: the contract of the program's CabinFare, where the table of the berths' fares lies as the program's text lays it.
-/
import Derived.Test.YtaalhmaacaahhajDoorWishI
import Derived.Test.YtaalhmaacaahhajDoorBandsI
import Derived.Deep.DeepCutAuto
namespace Go.Proofs.YtaalhmaacaahhajDoor
open Go.RowKit

set_option maxHeartbeats 1600000 in
theorem implCabin_any (cl : Int) (all : Bool) (be : Int) (w : World) (hB : FaresAt w) :
    Calls Tryd.prog 9 #[.int .i64 cl, .bool all, .int .i64 be] w fun e w' => e = .returned (.int .i64 (cabinFare cl all be)) ∧ Below w.heap.size w w' := by
  obtain ⟨V, hV⟩ : ∃ V, V = cabinFare cl all be := ⟨_, rfl⟩
  rw [← hV]
  have HV : Hid (V = cabinFare cl all be) := hV
  clear hV
  obtain ⟨b0, b1, b2⟩ := hB
  by_cases h1 : CabOk cl all be
  · have H1 : Hid (CabOk cl all be) := h1
    have h3 : cl = 1 ∨ cl = 2 ∨ cl = 3 := by have := h1.1; unfold In at this; omega
    cases all with
    | true =>
      obtain rfl : be = 0 := by rcases h1.2 with h | h; exact h.2; cases h.1
      clear h1
      rcases h3 with rfl | rfl | rfl
      · have HR : Hid (V = 90) := by show V = 90; rw [HV.out]; exact if_pos H1.out
        rw [HR.out]
        go_enter Tryd.func9, Tryd.ntmps9
        go_wp2_with (first | (go_at_call 17; refine (wish_is _ _ _ _).mono ?_; rw [decide_eq_true H1.out]; rintro e w' ⟨rfl, hw'⟩; have hw' := hw'.symm; subst hw'))
        go_ret
        exact ⟨rfl, Below.refl _ _⟩
      · have HR : Hid (V = 150) := by show V = 150; rw [HV.out]; exact if_pos H1.out
        rw [HR.out]
        go_enter Tryd.func9, Tryd.ntmps9
        go_wp2_with (first | (go_at_call 17; refine (wish_is _ _ _ _).mono ?_; rw [decide_eq_true H1.out]; rintro e w' ⟨rfl, hw'⟩; have hw' := hw'.symm; subst hw'))
        go_ret
        exact ⟨rfl, Below.refl _ _⟩
      · have HR : Hid (V = 240) := by show V = 240; rw [HV.out]; exact if_pos H1.out
        rw [HR.out]
        go_enter Tryd.func9, Tryd.ntmps9
        go_wp2_with (first | (go_at_call 17; refine (wish_is _ _ _ _).mono ?_; rw [decide_eq_true H1.out]; rintro e w' ⟨rfl, hw'⟩; have hw' := hw'.symm; subst hw'))
        go_ret
        exact ⟨rfl, Below.refl _ _⟩
    | false =>
      have h4 : 1 ≤ be ∧ be ≤ 4 := by rcases h1.2 with h | h; cases h.1; exact h.2
      clear h1
      rcases h3 with rfl | rfl | rfl
      · have HR : Hid (V = be * 30) := by show V = be * 30; rw [HV.out]; unfold cabinFare; rw [if_pos H1.out]; exact Int.mul_comm 30 be
        rw [HR.out]
        have hw : IntKind.i64.wrap (be * 30) = be * 30 := by rw [IntKind.wrap_i64]; omega
        go_enter Tryd.func9, Tryd.ntmps9
        go_wp2_with (first | (go_at_call 17; refine (wish_is _ _ _ _).mono ?_; rw [decide_eq_true H1.out]; rintro e w' ⟨rfl, hw'⟩; have hw' := hw'.symm; subst hw'))
        go_ret
        exact ⟨rfl, Below.refl _ _⟩
      · have HR : Hid (V = be * 50) := by show V = be * 50; rw [HV.out]; unfold cabinFare; rw [if_pos H1.out]; exact Int.mul_comm 50 be
        rw [HR.out]
        have hw : IntKind.i64.wrap (be * 50) = be * 50 := by rw [IntKind.wrap_i64]; omega
        go_enter Tryd.func9, Tryd.ntmps9
        go_wp2_with (first | (go_at_call 17; refine (wish_is _ _ _ _).mono ?_; rw [decide_eq_true H1.out]; rintro e w' ⟨rfl, hw'⟩; have hw' := hw'.symm; subst hw'))
        go_ret
        exact ⟨rfl, Below.refl _ _⟩
      · have HR : Hid (V = be * 80) := by show V = be * 80; rw [HV.out]; unfold cabinFare; rw [if_pos H1.out]; exact Int.mul_comm 80 be
        rw [HR.out]
        have hw : IntKind.i64.wrap (be * 80) = be * 80 := by rw [IntKind.wrap_i64]; omega
        go_enter Tryd.func9, Tryd.ntmps9
        go_wp2_with (first | (go_at_call 17; refine (wish_is _ _ _ _).mono ?_; rw [decide_eq_true H1.out]; rintro e w' ⟨rfl, hw'⟩; have hw' := hw'.symm; subst hw'))
        go_ret
        exact ⟨rfl, Below.refl _ _⟩
  · have H1 : Hid (¬ CabOk cl all be) := h1
    have HR : Hid (V = 0) := by rw [HV.out]; exact if_neg h1
    rw [HR.out]
    clear h1
    go_enter Tryd.func9, Tryd.ntmps9
    go_wp2_with (first | (go_at_call 17; refine (wish_is _ _ _ _).mono ?_; rw [decide_eq_false H1.out]; rintro e w' ⟨rfl, hw'⟩; have hw' := hw'.symm; subst hw'))
    go_ret
    exact ⟨rfl, Below.refl _ _⟩

end Go.Proofs.YtaalhmaacaahhajDoor
