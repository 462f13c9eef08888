/-
  OWN TEXT: the contract of spec.LeaveLocks.
-/
import Derived.Test.YtompknfmlnlnfaaSpecLv
import Derived.Test.YtompknfmlnlnfaaSpecOw
import Derived.Test.YtompknfmlnlnfaaSpecL2
namespace Go.Proofs.Ytompknfmlnlnfaa
open Go.RowKit

theorem LocksSL.form {w : World} {base : Nat} {v : Value} {ls : List LockW} (h : LocksSL w base v ls) : ∃ ao c, v = .slice ao ls.length c ∧ LocksAt w ao ls.length (keyF ls) (heldF ls) (queueF ls) := by
  obtain ⟨hs, qs, L⟩ := h
  obtain ⟨ao, c, rfl, _⟩ := own_form L.row
  exact ⟨ao, c, rfl, L.at_⟩

set_option maxHeartbeats 800000 in
set_option maxRecDepth 100000 in
theorem specLeave_any (ao : Option Addr) (N c : Nat) (K : Nat → Int) (H Q : Nat → Line) (x : Int) (w : World) (hN : N ≤ 1048576) (hcap : N ≤ c) (hs : ShortTo N H Q 1048576) (hx : LocksAt w ao N K H Q) :
    Calls Try.prog 15 #[.slice ao N c, .int .i64 x] w fun e w' => (∃ a1 c1 v2 ls es code, e = .returned (.tuple #[.slice a1 ls.length c1, v2, .int .i64 code]) ∧ LocksAt w' a1 ls.length (keyF ls) (heldF ls) (queueF ls) ∧ WaitsIs w' w.heap.size v2 es ∧ Hid (LeaveAns N K H Q x ls es code)) ∧ Below w.heap.size w w' := by
  have HS : Hid (ShortTo N H Q 1048576) := hs
  clear hs
  go_enter Try.func15, Try.ntmps15
  go_wp2_with fail
  refine (specLocks_any ao N c K H Q _ HS.out hcap hx).mono ?_
  rintro e w1 ⟨⟨v, rfl, hv⟩, hb1⟩
  have HV : Hid (v = true ↔ GoodL N K H Q) := hv
  clear hv
  cases v with
  | false =>
    have HG : Hid (¬ GoodL N K H Q) := fun h => by have := HV.out.2 h; cases this
    go_wp2
    exact bodyPost_ret (v := .tuple #[.slice none 0 0, .slice none 0 0, .int .i64 1]) (by simp [results, Try.results15, go_sem]) rfl ⟨⟨none, 0, _, [], [], 1, rfl, fun k hk => absurd hk (Nat.not_lt_zero _), WaitsIs.nil _ _, ⟨fun _ => ⟨rfl, rfl, rfl⟩, fun h => absurd h HG.out, fun h => absurd h HG.out⟩⟩, hb1⟩
  | true =>
    have HG : Hid (GoodL N K H Q) := HV.out.1 rfl
    clear HV
    by_cases ht : isTask x
    · have HT : Hid (isTask x) := ht
      go_wp2_with (first | (go_at_call 37; refine (l2Task_yes _ _ ht).mono ?_; rintro e w' ⟨rfl, hw'⟩; have hw1 := hw'.symm; subst hw1))
      refine (l2Leave_any ao N c K H Q x _ HG.out HS.out (hx.below hb1)).mono ?_
      rintro e w2 ⟨⟨v1, v2, ks, rfl, hL, hwt, hks⟩, hb2⟩
      obtain ⟨a1, c1, rfl, hat⟩ := hL.form
      obtain ⟨a2, c2, rfl, _⟩ := own_form hwt
      go_wp2
      exact bodyPost_ret (v := .tuple #[.slice a1 (leaveTo K H Q x N).length c1, .slice a2 ks.length c2, .int .i64 0]) (by simp [results, Try.results15, go_sem]) rfl ⟨⟨a1, c1, _, _, ks, 0, rfl, hat, own_base hwt hb1.size, ⟨fun h => absurd HG.out h, fun _ h => absurd HT.out h, fun _ _ => ⟨rfl, hks.out, rfl⟩⟩⟩, after hb1 hb2⟩
    · have HT : Hid (¬ isTask x) := ht
      clear ht
      go_wp2_with (first | (go_at_call 37; refine (l2Task_no _ _ HT.out).mono ?_; rintro e w' ⟨rfl, hw'⟩; have hw1 := hw'.symm; subst hw1))
      refine (l2Own_any ao N c K H Q _ hN HS.out (hx.below hb1)).mono ?_
      rintro e w2 ⟨⟨v, hv, qv, rfl, hL⟩, hb2⟩
      obtain ⟨a1, c1, rfl, hat⟩ := hL.told.form
      go_wp2
      exact bodyPost_ret (v := .tuple #[.slice a1 (locksP N K H Q).length c1, .slice none 0 0, .int .i64 2]) (by simp [results, Try.results15, go_sem]) rfl ⟨⟨a1, c1, _, _, [], 2, rfl, hat, WaitsIs.nil _ _, ⟨fun h => absurd HG.out h, fun _ _ => ⟨rfl, rfl, rfl⟩, fun _ h => absurd h HT.out⟩⟩, after hb1 hb2⟩

end Go.Proofs.Ytompknfmlnlnfaa
