/-
  OWN TEXT: words for drawn arenas: lists of handles, arenas in rows of their own, what put and drop leave small.
-/
import Derived.Test.YtclcjnbjpelcjaaDraw1
import Derived.Test.YtclcjnbjpelcjaaPlain8
import Derived.Test.YtclcjnbjpelcjaaSpecPut
import Derived.Test.YtclcjnbjpelcjaaSpecDrop
namespace Go.Proofs.Ytclcjnbjpelcjaa
open Go.RowKit

theorem Try.infoHandle : (Try.prog.info? 30).map (fun i => (i.zero, i.size, i.bytes)) = some (some (.agg #[.int .i64 0, .int .i64 0]), 2, 16) := by kernel_rfl
def handCell (f : Nat → Int × Int) (j : Nat) : Value := if j % 2 = 0 then .int .i64 (f (j / 2)).1 else .int .i64 (f (j / 2)).2
theorem handCell_0 (f : Nat → Int × Int) (k : Nat) : handCell f (k * 2) = .int .i64 (f k).1 := by
  unfold handCell; rw [if_pos (by omega), show k * 2 / 2 = k by omega]
theorem handCell_1 (f : Nat → Int × Int) (k : Nat) : handCell f (k * 2 + 1) = .int .i64 (f k).2 := by
  unfold handCell; rw [if_neg (by omega), show (k * 2 + 1) / 2 = k by omega]
def handList (f : Nat → Int × Int) (k : Nat) : List Value := (List.range (k * 2)).map (handCell f)
theorem handList_put (f : Nat → Int × Int) (k : Nat) (x a : Int) : handList (put f k (x, a)) (k + 1) = handList f k ++ [.int .i64 x, .int .i64 a] := by
  unfold handList
  rw [show (k + 1) * 2 = k * 2 + 1 + 1 by omega, List.range_succ, List.range_succ]
  simp only [List.map_append, List.map_cons, List.map_nil, List.append_assoc, List.cons_append, List.nil_append]
  rw [handCell_0, handCell_1, put_at]
  congr 1
  refine List.map_congr_left (fun j hj => ?_)
  have hj' : j < k * 2 := by simpa using hj
  unfold handCell
  rw [put_ne _ _ _ _ (by omega)]

/-- An arena of at most z slots and z free ones, in rows of its own. -/
def ArnIs (w : World) (base z : Nat) (s t : Value) : Prop :=
  ∃ ao bo n m d1 d2 A U V F, s = .slice ao n d1 ∧ t = .slice bo m d2 ∧ n ≤ z ∧ m ≤ z ∧ LooseRow w base 106 3 (.slice ao n d1) n (slotList A U V n) ∧ LooseRow w base 3 1 (.slice bo m d2) m (intList F m)
theorem ArnIs.kept {w w' : World} {S : Nat → Prop} {base z : Nat} {s t : Value} (h : ArnIs w base z s t) (hk : Kept w w' S) (hS : ∀ b, S b → b < base) : ArnIs w' base z s t := by
  obtain ⟨ao, bo, n, m, d1, d2, A, U, V, F, rfl, rfl, h1, h2, h3, h4⟩ := h
  refine ⟨ao, bo, n, m, d1, d2, A, U, V, F, rfl, rfl, h1, h2, ?_, ?_⟩
  · rcases h3 with h | h
    · exact .inl h
    · exact .inr (hk.own h (fun b hb s => by have := (h.lt b hb).1; have := hS b s; omega))
  · rcases h4 with h | h
    · exact .inl h
    · exact .inr (hk.own h (fun b hb s => by have := (h.lt b hb).1; have := hS b s; omega))
theorem ArnIs.below {w w' : World} {base z : Nat} {s t : Value} (h : ArnIs w base z s t) (hb : Below w.heap.size w w') : ArnIs w' base z s t := h.kept (S := fun _ => False) (Kept.of_below hb) (fun _ h => h.elim)
theorem loose_form {w : World} {base e size n c : Nat} {ao : Option Addr} {xs : List Value} (h : LooseRow w base e size (.slice ao n c) n xs) : n ≤ c ∧ c ≤ 9223372036854775807 ∧ (ao = none → n = 0 ∧ c = 0) := by
  rcases h with ⟨h0, ao', hv⟩ | h
  · simp only [Value.slice.injEq] at hv
    obtain ⟨rfl, _, rfl⟩ := hv
    exact ⟨by omega, by omega, fun _ => ⟨h0, rfl⟩⟩
  · obtain ⟨ao', c', e', h1, h2, h3⟩ := own_form h
    simp only [Value.slice.injEq, true_and] at e'
    obtain ⟨rfl, rfl⟩ := e'
    exact ⟨h1, by unfold maxLen at h2; omega, h3⟩
theorem arn_zero (w : World) (base z : Nat) : ArnIs w base z (.slice none 0 0) (.slice none 0 0) :=
  ⟨none, none, 0, 0, 0, 0, fun _ => 0, fun _ => false, fun _ => 0, fun _ => 0, rfl, rfl, Nat.zero_le _, Nat.zero_le _, .inl ⟨rfl, none, rfl⟩, .inl ⟨rfl, none, rfl⟩⟩

theorem drop_small {n m : Nat} {A : Nat → Int} {U : Nat → Bool} {V F : Nat → Int} {x a : Int} {o : Out} (h : Answers (Good n m A U V F) (dropOut n m A U V F x a) o) (hc : o.c = 0) : o.n ≤ 20 ∧ o.m ≤ 20 := by
  by_cases hp : Good n m A U V F
  · have ho := h.1 hp
    by_cases hf : faultOf n A U x a = 0
    · have := (drop_good ((good_iff n m A U V F).1 hp) hf).2.1
      rw [← ho] at this
      exact good_few ((good_iff _ _ _ _ _ _).2 this)
    · rw [ho] at hc
      unfold dropOut at hc
      rw [if_neg hf] at hc
      exact absurd hc hf
  · rw [h.2 hp] at hc; cases hc
theorem put_small {n m : Nat} {A : Nat → Int} {U : Nat → Bool} {V F : Nat → Int} {u : Int} {o : Out × Int × Int} (h : AnswersH (Good n m A U V F) (putOut n m A U V F u) o) (hc : o.1.c = 0) : o.1.n ≤ 20 ∧ o.1.m ≤ 20 := by
  by_cases hp : Good n m A U V F
  · have ho := h.1 hp
    rw [ho] at hc
    have := (put_good u ((good_iff n m A U V F).1 hp) hc).1
    rw [← ho] at this
    exact good_few ((good_iff _ _ _ _ _ _).2 this)
  · rw [h.2 hp] at hc; cases hc
theorem out_rows_arn {w : World} {base : Nat} {ao bo : Option Addr} {d1 d2 : Nat} {o : Out} (h : OutRows w base (.slice ao o.n d1) (.slice bo o.m d2) o) (hs : o.n ≤ 20 ∧ o.m ≤ 20) : ArnIs w base 20 (.slice ao o.n d1) (.slice bo o.m d2) :=
  ⟨ao, bo, o.n, o.m, d1, d2, o.A, o.U, o.V, o.F, rfl, rfl, hs.1, hs.2, LooseRow.of_spec h.1, LooseRow.of_spec h.2⟩
theorem out_loose_arn {w : World} {base : Nat} {ao bo : Option Addr} {d1 d2 : Nat} {o : Out} (h : OutLoose w base (.slice ao o.n d1) (.slice bo o.m d2) o) (hs : o.n ≤ 20 ∧ o.m ≤ 20) : ArnIs w base 20 (.slice ao o.n d1) (.slice bo o.m d2) :=
  ⟨ao, bo, o.n, o.m, d1, d2, o.A, o.U, o.V, o.F, rfl, rfl, hs.1, hs.2, h.1, h.2⟩
theorem ArnIs.base {w : World} {base base' z : Nat} {s t : Value} (h : ArnIs w base z s t) (hb : base' ≤ base) : ArnIs w base' z s t := by
  obtain ⟨ao, bo, n, m, d1, d2, A, U, V, F, rfl, rfl, h1, h2, h3, h4⟩ := h
  exact ⟨ao, bo, n, m, d1, d2, A, U, V, F, rfl, rfl, h1, h2, h3.base hb, h4.base hb⟩

end Go.Proofs.Ytclcjnbjpelcjaa
