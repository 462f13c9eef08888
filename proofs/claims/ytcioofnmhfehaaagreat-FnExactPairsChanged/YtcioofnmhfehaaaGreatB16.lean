/-
  OWN TEXT: OnlyI, SpecIn, SpecIn3.
-/
import Derived.Test.YtcioofnmhfehaaaGreatRows
import Derived.Deep.RegionHeld3
import Derived.Test.YtcioofnmhfehaaaGreatB12
import Derived.Test.YtcioofnmhfehaaaGreatB00
import Derived.Test.YtcioofnmhfehaaaGreatB09
namespace Go.Proofs.YtcioofnmhfehaaaGreat
open Go.RowKit Classical

set_option maxHeartbeats 800000 in
theorem only0_is (a0 a1 a2 : Option Addr) (n0 c0 n1 c1 n2 c2 : Nat) (w : World) :
    Calls Tryz.prog 43 #[.agg #[.slice a0 n0 c0, .slice a1 n1 c1, .slice a2 n2 c2], .int .i64 0] w fun e w' => e = .returned (.agg #[.slice a0 n0 c0, .slice none 0 0, .slice none 0 0]) ∧ Below w.heap.size w w' := by
  go_enter Tryz.func43, Tryz.ntmps43
  go_wp2
  exact bodyPost_ret (v := .agg #[.slice a0 n0 c0, .slice none 0 0, .slice none 0 0]) (by simp [results, Tryz.results43, go_sem]) rfl ⟨rfl, push (push (Below.refl _ _) _) _⟩

set_option maxHeartbeats 800000 in
theorem only1_is (a0 a1 a2 : Option Addr) (n0 c0 n1 c1 n2 c2 : Nat) (w : World) :
    Calls Tryz.prog 43 #[.agg #[.slice a0 n0 c0, .slice a1 n1 c1, .slice a2 n2 c2], .int .i64 1] w fun e w' => e = .returned (.agg #[.slice none 0 0, .slice a1 n1 c1, .slice none 0 0]) ∧ Below w.heap.size w w' := by
  go_enter Tryz.func43, Tryz.ntmps43
  go_wp2
  exact bodyPost_ret (v := .agg #[.slice none 0 0, .slice a1 n1 c1, .slice none 0 0]) (by simp [results, Tryz.results43, go_sem]) rfl ⟨rfl, push (push (Below.refl _ _) _) _⟩

set_option maxHeartbeats 800000 in
theorem only2_is (a0 a1 a2 : Option Addr) (n0 c0 n1 c1 n2 c2 : Nat) (w : World) :
    Calls Tryz.prog 43 #[.agg #[.slice a0 n0 c0, .slice a1 n1 c1, .slice a2 n2 c2], .int .i64 2] w fun e w' => e = .returned (.agg #[.slice none 0 0, .slice none 0 0, .slice a2 n2 c2]) ∧ Below w.heap.size w w' := by
  go_enter Tryz.func43, Tryz.ntmps43
  go_wp2
  exact bodyPost_ret (v := .agg #[.slice none 0 0, .slice none 0 0, .slice a2 n2 c2]) (by simp [results, Tryz.results43, go_sem]) rfl ⟨rfl, push (push (Below.refl _ _) _) _⟩

/-- Two loads are the same. -/
def LoadEq (n0 n1 n2 m0 m1 m2 : Nat) (S0 T0 : Nat → Stay) (S1 T1 : Nat → Room) (S2 T2 : Nat → Seat) : Prop := staysAlike n0 m0 S0 T0 ∧ roomsAlike n1 m1 S1 T1 ∧ seatsAlike n2 m2 S2 T2

set_option maxHeartbeats 1600000 in
set_option maxRecDepth 100000 in
theorem sameLoad_raw (a0 a1 a2 b0 b1 b2 : Option Addr) (n0 c0 n1 c1 n2 c2 m0 d0 m1 d1 m2 d2 : Nat) (S0 T0 : Nat → Stay) (S1 T1 : Nat → Room) (S2 T2 : Nat → Seat) (w : World) (q : Bool) (hq : q = true ↔ LoadEq n0 n1 n2 m0 m1 m2 S0 T0 S1 T1 S2 T2)
    (hn : n0 ≤ 1048576 ∧ n1 ≤ 1048576 ∧ n2 ≤ 1048576) (hm : m0 ≤ 1048576 ∧ m1 ≤ 1048576 ∧ m2 ≤ 1048576) (x0 : StaysAt w a0 n0 S0) (x1 : RoomsAt w a1 n1 S1) (x2 : SeatsAt w a2 n2 S2) (y0 : StaysAt w b0 m0 T0) (y1 : RoomsAt w b1 m1 T1) (y2 : SeatsAt w b2 m2 T2) :
    Calls Tryz.prog 42 #[.agg #[.slice a0 n0 c0, .slice a1 n1 c1, .slice a2 n2 c2], .agg #[.slice b0 m0 d0, .slice b1 m1 d1, .slice b2 m2 d2]] w fun e w' => e = .returned (.bool q) ∧ Below w.heap.size w w' := by
  obtain ⟨hn0, hn1, hn2⟩ := hn
  obtain ⟨hm0, hm1, hm2⟩ := hm
  have HQ : Hid (q = true ↔ LoadEq n0 n1 n2 m0 m1 m2 S0 T0 S1 T1 S2 T2) := hq
  have HX : Hid (StaysAt w a0 n0 S0 ∧ RoomsAt w a1 n1 S1 ∧ SeatsAt w a2 n2 S2) := ⟨x0, x1, x2⟩
  have HY : Hid (StaysAt w b0 m0 T0 ∧ RoomsAt w b1 m1 T1 ∧ SeatsAt w b2 m2 T2) := ⟨y0, y1, y2⟩
  clear hq x0 x1 x2 y0 y1 y2
  obtain ⟨u0, hu⟩ : ∃ u : Bool, u = decide (staysAlike n0 m0 S0 T0) := ⟨_, rfl⟩
  have HU0 : Hid (decide (staysAlike n0 m0 S0 T0) = u0 ∧ (u0 = true ↔ staysAlike n0 m0 S0 T0)) := ⟨hu.symm, by rw [hu]; exact decide_eq_true_iff⟩
  clear hu
  obtain ⟨u1, hu⟩ : ∃ u : Bool, u = decide (roomsAlike n1 m1 S1 T1) := ⟨_, rfl⟩
  have HU1 : Hid (decide (roomsAlike n1 m1 S1 T1) = u1 ∧ (u1 = true ↔ roomsAlike n1 m1 S1 T1)) := ⟨hu.symm, by rw [hu]; exact decide_eq_true_iff⟩
  clear hu
  obtain ⟨u2, hu⟩ : ∃ u : Bool, u = decide (seatsAlike n2 m2 S2 T2) := ⟨_, rfl⟩
  have HU2 : Hid (decide (seatsAlike n2 m2 S2 T2) = u2 ∧ (u2 = true ↔ seatsAlike n2 m2 S2 T2)) := ⟨hu.symm, by rw [hu]; exact decide_eq_true_iff⟩
  clear hu
  have HR : Hid (q = (u0 && (u1 && u2))) := by
    unfold Hid
    rw [Bool.eq_iff_iff, HQ.out]
    simp only [Bool.and_eq_true]
    rw [HU0.out.2, HU1.out.2, HU2.out.2]
    exact Iff.rfl
  clear HQ
  have hb0 : Below w.heap.size w ((w.alloc (.cells #[.slice a0 n0 c0, .slice a1 n1 c1, .slice a2 n2 c2] 55)).alloc (.cells #[.slice b0 m0 d0, .slice b1 m1 d1, .slice b2 m2 d2] 55)) := push (push (Below.refl _ _) _) _
  have bA : ((w.alloc (.cells #[.slice a0 n0 c0, .slice a1 n1 c1, .slice a2 n2 c2] 55)).alloc (.cells #[.slice b0 m0 d0, .slice b1 m1 d1, .slice b2 m2 d2] 55)).heap[w.heap.size]? = some (.cells #[.slice a0 n0 c0, .slice a1 n1 c1, .slice a2 n2 c2] 55 (0, 0)) := blk_alloc (heap_alloc_new w _) _
  have bB : ((w.alloc (.cells #[.slice a0 n0 c0, .slice a1 n1 c1, .slice a2 n2 c2] 55)).alloc (.cells #[.slice b0 m0 d0, .slice b1 m1 d1, .slice b2 m2 d2] 55)).heap[w.heap.size + 1]? = some (.cells #[.slice b0 m0 d0, .slice b1 m1 d1, .slice b2 m2 d2] 55 (0, 0)) := by simpa using heap_alloc_new (w.alloc _) _
  go_enter Tryz.func42, Tryz.ntmps42
  go_wp2_with fail
  generalize (w.alloc (.cells #[.slice a0 n0 c0, .slice a1 n1 c1, .slice a2 n2 c2] 55)).alloc (.cells #[.slice b0 m0 d0, .slice b1 m1 d1, .slice b2 m2 d2] 55) = V at hb0 bA bB ⊢
  refine (equalStay_any a0 b0 n0 c0 m0 d0 S0 T0 _ hn0 hm0 (HX.out.1.below hb0) (HY.out.1.below hb0)).mono ?_
  rintro e w1 ⟨he, hb1⟩
  rw [HU0.out.1] at he
  subst he
  replace bA := blk_below bA hb1
  replace bB := blk_below bB hb1
  replace hb0 := after hb0 hb1
  clear hb1 HU0
  cases u0 with
  | false =>
    have hrf : q = false := by rw [HR.out]; rfl
    subst hrf
    clear HR
    go_wp2
    go_ret
    exact ⟨rfl, hb0⟩
  | true =>
  have x1 := blk_cell bA 1 _ rfl
  have y1 := blk_cell bB 1 _ rfl
  go_wp2_with fail
  refine (equalRoom_any a1 b1 n1 c1 m1 d1 S1 T1 _ hn1 hm1 (HX.out.2.1.below hb0) (HY.out.2.1.below hb0)).mono ?_
  rintro e w2 ⟨he, hb1⟩
  rw [HU1.out.1] at he
  subst he
  replace bA := blk_below bA hb1
  replace bB := blk_below bB hb1
  replace hb0 := after hb0 hb1
  clear hb1 HU1 x1 y1
  cases u1 with
  | false =>
    have hrf : q = false := by rw [HR.out]; rfl
    subst hrf
    clear HR
    go_wp2
    go_ret
    exact ⟨rfl, hb0⟩
  | true =>
  have x2 := blk_cell bA 2 _ rfl
  have y2 := blk_cell bB 2 _ rfl
  go_wp2_with fail
  refine (equalSeat_any a2 b2 n2 c2 m2 d2 S2 T2 _ hn2 hm2 (HX.out.2.2.below hb0) (HY.out.2.2.below hb0)).mono ?_
  rintro e w3 ⟨he, hb1⟩
  rw [HU2.out.1] at he
  subst he
  replace hb0 := after hb0 hb1
  clear hb1 HU2 x2 y2
  have hrf : q = u2 := by rw [HR.out]; rfl
  subst hrf
  clear HR
  go_wp2
  go_ret
  exact ⟨rfl, hb0⟩

end Go.Proofs.YtcioofnmhfehaaaGreat

namespace Go.Proofs.YtcioofnmhfehaaaGreat
open Go.RowKit

theorem l1In_yes (x lo hi : Int) (w : World) (h1 : lo ≤ x) (h2 : x ≤ hi) :
    Calls Tryz.prog 35 #[.int .i64 x, .int .i64 lo, .int .i64 hi] w fun e w' => e = .returned (.bool true) ∧ w' = w := by
  have e1 : decide (lo ≤ x) = true := by simpa using h1
  have e2 : decide (x ≤ hi) = true := by simpa using h2
  go_enter Tryz.func35, Tryz.ntmps35
  go_wp2
  go_ret
  exact ⟨rfl, rfl⟩

theorem l1In_low (x lo hi : Int) (w : World) (h1 : x < lo) :
    Calls Tryz.prog 35 #[.int .i64 x, .int .i64 lo, .int .i64 hi] w fun e w' => e = .returned (.bool false) ∧ w' = w := by
  have e1 : decide (lo ≤ x) = false := by simpa using h1
  go_enter Tryz.func35, Tryz.ntmps35
  go_wp2
  go_ret
  exact ⟨rfl, rfl⟩

theorem l1In_high (x lo hi : Int) (w : World) (h1 : lo ≤ x) (h2 : hi < x) :
    Calls Tryz.prog 35 #[.int .i64 x, .int .i64 lo, .int .i64 hi] w fun e w' => e = .returned (.bool false) ∧ w' = w := by
  have e1 : decide (lo ≤ x) = true := by simpa using h1
  have e2 : decide (x ≤ hi) = false := by simpa using h2
  go_enter Tryz.func35, Tryz.ntmps35
  go_wp2
  go_ret
  exact ⟨rfl, rfl⟩

theorem l1In_no (x lo hi : Int) (w : World) (h : ¬ (lo ≤ x ∧ x ≤ hi)) :
    Calls Tryz.prog 35 #[.int .i64 x, .int .i64 lo, .int .i64 hi] w fun e w' => e = .returned (.bool false) ∧ w' = w := by
  by_cases h1 : lo ≤ x
  · exact l1In_high x lo hi w h1 (by omega)
  · exact l1In_low x lo hi w (by omega)

end Go.Proofs.YtcioofnmhfehaaaGreat

namespace Go.Proofs.YtcioofnmhfehaaaGreat
open Go.RowKit

theorem l1In_is (x lo hi : Int) (w : World) :
    Calls Tryz.prog 35 #[.int .i64 x, .int .i64 lo, .int .i64 hi] w fun e w' => e = .returned (.bool (decide (In x lo hi))) ∧ w' = w := by
  by_cases h : In x lo hi
  · rw [decide_eq_true h]; exact l1In_yes x lo hi w h.1 h.2
  · rw [decide_eq_false h]; exact l1In_no x lo hi w h

end Go.Proofs.YtcioofnmhfehaaaGreat
