/-
  OWN TEXT: the contract of the specification's GoodOp.
-/
import Derived.Test.YtgjcmifnigdndaaDoorSpecOa
import Derived.Test.YtgjcmifnigdndaaDoorSpecOb
import Derived.Test.YtgjcmifnigdndaaDoorSpecOc
namespace Go.Proofs.YtgjcmifnigdndaaDoor
open Go.RowKit

set_option maxHeartbeats 800000 in
theorem specOp_none (kind : Int) (own : ByteArray) (name : Int) (alg : Option Addr) (lgn clg : Nat) (lg : Nat → Int) (pe len hei cl : Int) (all : Bool) (be unt now : Int) (w : World) (k9 : ¬ In kind 1 9) :
    Calls Tryd.prog 10 #[.agg #[.int .i64 kind, .string own, .int .i64 name, .slice alg lgn clg, .int .i64 pe, .int .i64 len, .int .i64 hei, .int .i64 cl, .bool all, .int .i64 be, .int .i64 unt, .int .i64 now]] w fun e w' => e = .returned (.bool (decide (OpOk ⟨kind, own, name, lgn, lg, pe, len, hei, cl, all, be, unt, now⟩))) ∧ Below w.heap.size w w' := by
  rw [decide_eq_false (show ¬ OpOk ⟨kind, own, name, lgn, lg, pe, len, hei, cl, all, be, unt, now⟩ from fun h => k9 h.1)]
  have x9 : decide (In kind 1 9) = false := decide_eq_false k9
  clear k9
  go_enter Tryd.func10, Tryd.ntmps10
  go_wp2_with (first | (go_at_call 16; refine (l1In_is _ _ _ _).mono ?_; rintro e w' ⟨rfl, hw'⟩; have hw' := hw'.symm; subst hw'))
  go_ret
  exact ⟨rfl, push (Below.refl _ _) _⟩

theorem specOp_any (cs : List Value) (x : OpD) (w : World) (hs : x.own.size ≤ 1000000000000000) (h : OpD.Is w cs x) :
    Calls Tryd.prog 10 #[.agg cs.toArray] w fun e w' => e = .returned (.bool (decide (OpOk x))) ∧ Below w.heap.size w w' := by
  obtain ⟨alg, clg, rfl, _, _⟩ := h
  obtain ⟨kind, own, name, lgn, lg, pe, len, hei, cl, all, be, unt, now⟩ := x
  by_cases k9 : In kind 1 9
  · have h9 : kind = 1 ∨ kind = 2 ∨ kind = 3 ∨ kind = 4 ∨ kind = 5 ∨ kind = 6 ∨ kind = 7 ∨ kind = 8 ∨ kind = 9 := by unfold In at k9; omega
    rcases h9 with rfl | rfl | rfl | rfl | rfl | rfl | rfl | rfl | rfl
    · exact specOp_1 own name alg lgn clg lg pe len hei cl all be unt now w hs
    · exact specOp_2 own name alg lgn clg lg pe len hei cl all be unt now w hs
    · exact specOp_3 own name alg lgn clg lg pe len hei cl all be unt now w hs
    · exact specOp_4 own name alg lgn clg lg pe len hei cl all be unt now w hs
    · exact specOp_5 own name alg lgn clg lg pe len hei cl all be unt now w hs
    · exact specOp_6 own name alg lgn clg lg pe len hei cl all be unt now w hs
    · exact specOp_7 own name alg lgn clg lg pe len hei cl all be unt now w hs
    · exact specOp_8 own name alg lgn clg lg pe len hei cl all be unt now w hs
    · exact specOp_9 own name alg lgn clg lg pe len hei cl all be unt now w hs
  · exact specOp_none kind own name alg lgn clg lg pe len hei cl all be unt now w k9

end Go.Proofs.YtgjcmifnigdndaaDoor
