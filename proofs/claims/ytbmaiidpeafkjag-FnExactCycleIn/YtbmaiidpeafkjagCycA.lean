/-
  OWN TEXT: the contract of impl.CycleIn.
-/
import Derived.Test.YtbmaiidpeafkjagCycI
namespace Go.Proofs.Ytbmaiidpeafkjag
open Go.RowKit

theorem cycAns_one {N : Nat} {K : Nat → Int} {H Q : Nat → Line} {b b' ok ok' : Bool} (h : CycAns (GoodL N K H Q) b ok) (h' : CycAns (GoodI N K H Q) b' ok') : b' = b ∧ ok' = ok := by
  obtain ⟨rfl, h1⟩ := h
  obtain ⟨rfl, h2⟩ := h'
  refine ⟨rfl, ?_⟩
  have e : ok' = true ↔ ok = true := h2.trans ((goodL_iff N K H Q).symm.trans h1.symm)
  cases ok <;> cases ok' <;> simp_all

set_option maxHeartbeats 800000 in
theorem implCycle_any (ao : Option Addr) (N c : Nat) (K : Nat → Int) (H Q : Nat → Line) (w : World) (hN : N ≤ 1048576) (hs : ShortTo N H Q 1048576) (hx : LocksAt w ao N K H Q) :
    Calls Try.prog 25 #[.slice ao N c] w fun e w' => (∃ b ok, e = .returned (.tuple #[.bool b, .bool ok]) ∧ Hid (CycAns (GoodI N K H Q) b ok)) ∧ Below w.heap.size w w' := by
  have HS : Hid (ShortTo N H Q 1048576) := hs
  clear hs
  go_enter Try.func25, Try.ntmps25
  go_wp2_with fail
  refine (implLocks_any ao N c K H Q _ HS.out (by omega) hx).mono ?_
  rintro e w1 ⟨⟨v, rfl, hv⟩, hb1⟩
  have HV : Hid (v = true ↔ GoodI N K H Q) := hv
  clear hv
  cases v with
  | false =>
    have HG : Hid (¬ GoodI N K H Q) := fun h => by have := HV.out.2 h; cases this
    go_wp2
    exact bodyPost_ret (v := .tuple #[.bool false, .bool false]) (by simp [results, Try.results25, go_sem]) rfl ⟨⟨false, false, rfl, ⟨rfl, ⟨fun h => (by cases h), fun h => absurd h HG.out⟩⟩⟩, hb1⟩
  | true =>
    have HG : Hid (GoodI N K H Q) := HV.out.1 rfl
    clear HV
    go_wp2_with fail
    refine (someWaits_any ao N c K H Q _ hN HS.out HG.out (hx.below hb1)).mono ?_
    rintro e w2 ⟨rfl, hb2⟩
    go_wp2
    exact bodyPost_ret (v := .tuple #[.bool false, .bool true]) (by simp [results, Try.results25, go_sem]) rfl ⟨⟨false, true, rfl, ⟨rfl, ⟨fun _ => HG.out, fun _ => rfl⟩⟩⟩, after hb1 hb2⟩

end Go.Proofs.Ytbmaiidpeafkjag
