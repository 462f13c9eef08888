/-
  OWN TEXT: when two answers are the same, and the contract of the program's sameAnswer.
-/
import Derived.Test.YtogbaoggebghdaaKitAnswer
import Derived.Test.YtogbaoggebghdaaEqRow
namespace Go.Proofs.Ytogbaoggebghdaa
open Go.RowKit Classical

def AnsSame (a b : AnsD) : Prop := a.code = b.code ∧ a.anam = b.anam ∧ a.price = b.price ∧ rowsAlike a.rwn b.rwn a.rw b.rw

set_option maxHeartbeats 1600000 in
set_option maxRecDepth 100000 in
theorem sameAnswer_raw (c1 n1 p1 : Int) (ao : Option Addr) (rn rc : Nat) (S : Nat → MRow) (c2 n2 p2 : Int) (bo : Option Addr) (rm rd : Nat) (T : Nat → MRow) (w : World) (hn : rn ≤ 1048576) (hm : rm ≤ 1048576) (hx : MRowsAt w ao rn S) (hy : MRowsAt w bo rm T) :
    Calls Try.prog 71 #[.agg #[.int .i64 c1, .int .i64 n1, .int .i64 p1, .slice ao rn rc], .agg #[.int .i64 c2, .int .i64 n2, .int .i64 p2, .slice bo rm rd]] w fun e w' => e = .returned (.bool (decide (AnsSame ⟨c1, n1, p1, rn, S⟩ ⟨c2, n2, p2, rm, T⟩))) ∧ Below w.heap.size w w' := by
  have hb0 : Below w.heap.size w ((w.alloc (.cells #[.int .i64 c1, .int .i64 n1, .int .i64 p1, .slice ao rn rc] 28)).alloc (.cells #[.int .i64 c2, .int .i64 n2, .int .i64 p2, .slice bo rm rd] 28)) := push (push (Below.refl _ _) _) _
  by_cases h1 : c1 = c2
  case neg =>
    have e1 : decide (AnsSame ⟨c1, n1, p1, rn, S⟩ ⟨c2, n2, p2, rm, T⟩) = false := decide_eq_false (fun h => h1 h.1)
    rw [e1]
    have e2 : (c1 = c2) = False := eq_false h1
    go_enter Try.func71, Try.ntmps71
    go_wp2
    go_ret
    exact ⟨rfl, hb0⟩
  subst h1
  by_cases h2 : n1 = n2
  case neg =>
    have e1 : decide (AnsSame ⟨c1, n1, p1, rn, S⟩ ⟨c1, n2, p2, rm, T⟩) = false := decide_eq_false (fun h => h2 h.2.1)
    rw [e1]
    have e2 : (n1 = n2) = False := eq_false h2
    go_enter Try.func71, Try.ntmps71
    go_wp2
    go_ret
    exact ⟨rfl, hb0⟩
  subst h2
  by_cases h3 : p1 = p2
  case neg =>
    have e1 : decide (AnsSame ⟨c1, n1, p1, rn, S⟩ ⟨c1, n1, p2, rm, T⟩) = false := decide_eq_false (fun h => h3 h.2.2.1)
    rw [e1]
    have e2 : (p1 = p2) = False := eq_false h3
    go_enter Try.func71, Try.ntmps71
    go_wp2
    go_ret
    exact ⟨rfl, hb0⟩
  subst h3
  have e1 : decide (AnsSame ⟨c1, n1, p1, rn, S⟩ ⟨c1, n1, p1, rm, T⟩) = decide (rowsAlike rn rm S T) := by rw [decide_eq_decide]; exact ⟨fun h => h.2.2.2, fun h => ⟨rfl, rfl, rfl, h⟩⟩
  rw [e1]
  clear e1
  obtain ⟨q, hq⟩ : ∃ q : Bool, q = decide (rowsAlike rn rm S T) := ⟨_, rfl⟩
  rw [← hq]
  have HQ : Hid (q = decide (rowsAlike rn rm S T)) := hq
  clear hq
  go_enter Try.func71, Try.ntmps71
  go_wp2_with fail
  refine (equalRow_any ao bo rn rc rm rd S T _ hn hm (hx.below hb0) (hy.below hb0)).mono ?_
  rintro e w1 ⟨he, hb1⟩
  rw [← HQ.out] at he
  subst he
  go_wp2
  go_ret
  exact ⟨rfl, after hb0 hb1⟩

end Go.Proofs.Ytogbaoggebghdaa
