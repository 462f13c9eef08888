/-
  OWN TEXT: contracts of spec.WaitsFor, impl.WaitsFor.
-/
import Derived.Test.YtbmaiidpeafkjagForI
namespace Go.Proofs.Ytbmaiidpeafkjag
open Go.RowKit

/-- What WaitsFor answers. -/
def ForAns (P : Prop) (N : Nat) (H Q : Nat → Line) (x : Int) (ks : List Int) (ok : Bool) : Prop := (P → ForIs N H Q x ks ∧ ok = true) ∧ (¬ P → ks = [] ∧ ok = false)
theorem forAns_one {N : Nat} {K : Nat → Int} {H Q : Nat → Line} {x : Int} {ks ks' : List Int} {ok ok' : Bool} (h : ForAns (GoodL N K H Q ∧ isTask x) N H Q x ks ok) (h' : ForAns (GoodI N K H Q ∧ isTask x) N H Q x ks' ok') : ks' = ks ∧ ok' = ok := by
  by_cases p : GoodL N K H Q ∧ isTask x
  · obtain ⟨h1, rfl⟩ := h.1 p
    obtain ⟨h2, rfl⟩ := h'.1 ⟨(goodL_iff N K H Q).1 p.1, p.2⟩
    exact ⟨forIs_one h1 h2, rfl⟩
  · obtain ⟨rfl, rfl⟩ := h.2 p
    exact h'.2 (fun e => p ⟨(goodL_iff N K H Q).2 e.1, e.2⟩)
theorem forIs_len {N : Nat} {K : Nat → Int} {H Q : Nat → Line} {x : Int} {ks : List Int} (hg : GoodI N K H Q) (h : ForIs N H Q x ks) : ks.length ≤ 12 := by
  rcases h with ⟨_, rfl⟩ | ⟨i, j, hi, hj, hs, hm⟩
  · exact Nat.zero_le _
  · exact strict_few hs hm (cat_tasks hg hi.1 (Nat.le_of_lt hj.1))
theorem forAns_len {N : Nat} {K : Nat → Int} {H Q : Nat → Line} {x : Int} {ks : List Int} {ok : Bool} (h : ForAns (GoodL N K H Q ∧ isTask x) N H Q x ks ok) : ks.length ≤ 12 := by
  by_cases p : GoodL N K H Q ∧ isTask x
  · exact forIs_len ((goodL_iff N K H Q).1 p.1) (h.1 p).1
  · rw [(h.2 p).1]; exact Nat.zero_le _

set_option maxHeartbeats 800000 in
theorem implFor_any (ao : Option Addr) (N c : Nat) (K : Nat → Int) (H Q : Nat → Line) (x : Int) (w : World) (hN : N ≤ 1048576) (hs : ShortTo N H Q 1048576) (hx : LocksAt w ao N K H Q) :
    Calls Try.prog 23 #[.slice ao N c, .int .i64 x] w fun e w' => (∃ v ok ks, e = .returned (.tuple #[v, .bool ok]) ∧ WaitsIs w' w.heap.size v ks ∧ Hid (ForAns (GoodI N K H Q ∧ isTask x) N H Q x ks ok)) ∧ Below w.heap.size w w' := by
  have HS : Hid (ShortTo N H Q 1048576) := hs
  clear hs
  go_enter Try.func23, Try.ntmps23
  go_wp2_with fail
  refine (implLocks_any ao N c K H Q _ HS.out (by omega) hx).mono ?_
  rintro e w1 ⟨⟨v, rfl, hv⟩, hb1⟩
  have HV : Hid (v = true ↔ GoodI N K H Q) := hv
  clear hv
  cases v with
  | false =>
    have HG : Hid (¬ GoodI N K H Q) := fun h => by have := HV.out.2 h; cases this
    go_wp2
    exact bodyPost_ret (v := .tuple #[.slice none 0 0, .bool false]) (by simp [results, Try.results23, go_sem]) rfl ⟨⟨_, false, [], rfl, WaitsIs.nil _ _, ⟨fun h => absurd h.1 HG.out, fun _ => ⟨rfl, rfl⟩⟩⟩, hb1⟩
  | true =>
    have HG : Hid (GoodI N K H Q) := HV.out.1 rfl
    clear HV
    by_cases ht : isTask x
    · go_wp2_with (first | (go_at_call 33; refine (isTask_yes _ _ ht).mono ?_; rintro e w' ⟨rfl, hw'⟩; have hw1 := hw'.symm; subst hw1))
      refine (waitedFor_any ao N c K H Q x _ hN HS.out HG.out (hx.below hb1)).mono ?_
      rintro e w2 ⟨⟨v, ks, rfl, hwt, hfor⟩, hb2⟩
      go_wp2
      exact bodyPost_ret (v := .tuple #[v, .bool true]) (by simp [results, Try.results23, go_sem]) rfl ⟨⟨v, true, ks, rfl, own_base hwt hb1.size, ⟨fun _ => ⟨hfor.out, rfl⟩, fun h => absurd ⟨HG.out, ht⟩ h⟩⟩, after hb1 hb2⟩
    · have HT : Hid (¬ isTask x) := ht
      clear ht
      go_wp2_with (first | (go_at_call 33; refine (isTask_no _ _ HT.out).mono ?_; rintro e w' ⟨rfl, hw'⟩; have hw1 := hw'.symm; subst hw1))
      exact bodyPost_ret (v := .tuple #[.slice none 0 0, .bool false]) (by simp [results, Try.results23, go_sem]) rfl ⟨⟨_, false, [], rfl, WaitsIs.nil _ _, ⟨fun h => absurd h.2 HT.out, fun _ => ⟨rfl, rfl⟩⟩⟩, hb1⟩

set_option maxHeartbeats 800000 in
theorem specFor_any (ao : Option Addr) (N c : Nat) (K : Nat → Int) (H Q : Nat → Line) (x : Int) (w : World) (hN : N ≤ 1048576) (hcap : N ≤ c) (hs : ShortTo N H Q 1048576) (hx : LocksAt w ao N K H Q) :
    Calls Try.prog 22 #[.slice ao N c, .int .i64 x] w fun e w' => (∃ v ok ks, e = .returned (.tuple #[v, .bool ok]) ∧ WaitsIs w' w.heap.size v ks ∧ Hid (ForAns (GoodL N K H Q ∧ isTask x) N H Q x ks ok)) ∧ Below w.heap.size w w' := by
  have HS : Hid (ShortTo N H Q 1048576) := hs
  clear hs
  go_enter Try.func22, Try.ntmps22
  go_wp2_with fail
  refine (specLocks_any ao N c K H Q _ HS.out hcap hx).mono ?_
  rintro e w1 ⟨⟨v, rfl, hv⟩, hb1⟩
  have HV : Hid (v = true ↔ GoodL N K H Q) := hv
  clear hv
  cases v with
  | false =>
    have HG : Hid (¬ GoodL N K H Q) := fun h => by have := HV.out.2 h; cases this
    go_wp2
    exact bodyPost_ret (v := .tuple #[.slice none 0 0, .bool false]) (by simp [results, Try.results22, go_sem]) rfl ⟨⟨_, false, [], rfl, WaitsIs.nil _ _, ⟨fun h => absurd h.1 HG.out, fun _ => ⟨rfl, rfl⟩⟩⟩, hb1⟩
  | true =>
    have HG : Hid (GoodL N K H Q) := HV.out.1 rfl
    clear HV
    by_cases ht : isTask x
    · go_wp2_with (first | (go_at_call 28; refine (l2Task_yes _ _ ht).mono ?_; rintro e w' ⟨rfl, hw'⟩; have hw1 := hw'.symm; subst hw1))
      refine (l2For_any ao N c K H Q x _ hN HS.out ((goodL_iff N K H Q).1 HG.out) (hx.below hb1)).mono ?_
      rintro e w2 ⟨⟨v, ks, rfl, hwt, hfor⟩, hb2⟩
      go_wp2
      exact bodyPost_ret (v := .tuple #[v, .bool true]) (by simp [results, Try.results22, go_sem]) rfl ⟨⟨v, true, ks, rfl, own_base hwt hb1.size, ⟨fun _ => ⟨hfor.out, rfl⟩, fun h => absurd ⟨HG.out, ht⟩ h⟩⟩, after hb1 hb2⟩
    · have HT : Hid (¬ isTask x) := ht
      clear ht
      go_wp2_with (first | (go_at_call 28; refine (l2Task_no _ _ HT.out).mono ?_; rintro e w' ⟨rfl, hw'⟩; have hw1 := hw'.symm; subst hw1))
      exact bodyPost_ret (v := .tuple #[.slice none 0 0, .bool false]) (by simp [results, Try.results22, go_sem]) rfl ⟨⟨_, false, [], rfl, WaitsIs.nil _ _, ⟨fun h => absurd h.2 HT.out, fun _ => ⟨rfl, rfl⟩⟩⟩, hb1⟩

end Go.Proofs.Ytbmaiidpeafkjag
