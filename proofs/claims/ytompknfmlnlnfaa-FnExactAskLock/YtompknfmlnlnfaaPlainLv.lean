/-
  OWN TEXT: plain words for leaving locks: who is let in, what locks are left. No theorem of the program.
-/
import Derived.Test.YtompknfmlnlnfaaSpecHo
namespace Go.Proofs.Ytompknfmlnlnfaa
open Go.RowKit

/-- A list of asked ones as a line. -/
def lineOf (ys : List (Int × Bool)) : Line := ⟨ys.length, fun i => (ys.getD i (0, false)).1, fun i => (ys.getD i (0, false)).2⟩
theorem askCells_asks (l : Line) : ∀ k, (List.range (k * 2)).map (askCell l) = cellsA (asksTo l k) := by
  intro k
  induction k with
  | zero => rfl
  | succ k ih =>
    rw [asksTo_succ, cellsA_append, ← ih, show (k + 1) * 2 = k * 2 + 1 + 1 by omega, List.range_succ, List.range_succ]
    simp only [List.map_append, List.map_cons, List.map_nil, List.append_assoc, List.cons_append, List.nil_append]
    rw [askCell_0, askCell_1]
    rfl
theorem askList_asks (l : Line) : askList l = cellsA (asksTo l l.n) := askCells_asks l l.n
theorem asksTo_lineOf (ys : List (Int × Bool)) (k : Nat) (h : k ≤ ys.length) : asksTo (lineOf ys) k = ys.take k := by
  apply List.ext_getElem?
  intro i
  unfold asksTo lineOf
  rw [List.getElem?_map, List.getElem?_take]
  by_cases hi : i < k
  · rw [if_pos hi, List.getElem?_range hi, List.getElem?_eq_getElem (show i < ys.length by omega)]
    simp [List.getD, List.getElem?_eq_getElem (show i < ys.length by omega)]
  · rw [if_neg hi, List.getElem?_eq_none (by simpa using hi)]
    rfl
theorem askList_lineOf (ys : List (Int × Bool)) : askList (lineOf ys) = cellsA ys := by
  rw [askList_asks, show (lineOf ys).n = ys.length from rfl, asksTo_lineOf ys _ (Nat.le_refl _), List.take_length]
theorem askList_drop (ys : List (Int × Bool)) (p : Nat) : askList (dropLine (lineOf ys) p) = cellsA (ys.drop p) := by
  rw [← askList_lineOf (ys.drop p)]
  have e : dropLine (lineOf ys) p = lineOf (ys.drop p) := by
    unfold dropLine lineOf
    congr 1
    · rw [List.length_drop]
    · funext i; simp [List.getD, List.getElem?_drop, Nat.add_comm]
    · funext i; simp [List.getD, List.getElem?_drop, Nat.add_comm]
  rw [e]
theorem askList_head (ys : List (Int × Bool)) (p : Nat) (h : p ≤ ys.length) : askList (headLine (lineOf ys) p) = cellsA (ys.take p) := by
  have e : askList (headLine (lineOf ys) p) = (List.range (p * 2)).map (askCell (lineOf ys)) := rfl
  rw [e, askCells_asks, asksTo_lineOf ys p h]
theorem tail_lineOf (a : Int × Bool) (ys : List (Int × Bool)) : tailLine (lineOf (a :: ys)) = lineOf ys := by
  unfold tailLine lineOf
  congr 1
theorem cellsA_take (h : List (Int × Bool)) : ∀ i, (cellsA h).take (i * 2) = cellsA (h.take i) := by
  induction h with
  | nil => intro i; simp [cellsA]
  | cons a h ih =>
    intro i
    cases i with
    | zero => simp [cellsA]
    | succ i => rw [show (i + 1) * 2 = i * 2 + 1 + 1 by omega]; simp [cellsA, ih]
theorem cellsA_drop (h : List (Int × Bool)) : ∀ i, (cellsA h).drop (i * 2) = cellsA (h.drop i) := by
  induction h with
  | nil => intro i; simp [cellsA]
  | cons a h ih =>
    intro i
    cases i with
    | zero => simp
    | succ i => rw [show (i + 1) * 2 = i * 2 + 1 + 1 by omega]; simp [cellsA, ih]
theorem cellsA_one (h : List (Int × Bool)) : ∀ u ∈ cellsA h, u.oneCell' = true := by
  induction h with
  | nil => intro u hu; cases hu
  | cons a h ih =>
    intro u hu
    simp only [cellsA, List.mem_cons] at hu
    rcases hu with rfl | rfl | hu
    · rfl
    · rfl
    · exact ih u hu

/-- Where the task x goes. -/
def slotP : List (Int × Bool) → Int → Nat
  | [], _ => 0
  | a :: r, x => if a.1 < x then slotP r x + 1 else 0
theorem slotP_le (h : List (Int × Bool)) (x : Int) : slotP h x ≤ h.length := by
  induction h with
  | nil => exact Nat.le_refl _
  | cons a r ih => unfold slotP; split <;> simp <;> omega
theorem slotP_is (h : List (Int × Bool)) (x : Int) : IsSlot (lineOf h) x (slotP h x) := by
  refine ⟨slotP_le h x, ?_, ?_⟩
  · induction h with
    | nil => intro j hj; simp [slotP] at hj
    | cons a r ih =>
      intro j hj
      unfold slotP at hj
      by_cases c : a.1 < x
      · rw [if_pos c] at hj
        cases j with
        | zero => exact c
        | succ j => exact ih j (by omega)
      · rw [if_neg c] at hj; omega
  · induction h with
    | nil => intro h; simp [lineOf] at h
    | cons a r ih =>
      intro hl
      unfold slotP at hl ⊢
      by_cases c : a.1 < x
      · rw [if_pos c] at hl ⊢
        have hl' : slotP r x < (lineOf r).n := by simp only [lineOf, List.length_cons] at hl ⊢; omega
        exact ih hl'
      · rw [if_neg c] at hl ⊢
        exact c
/-- One more at its place. -/
def insP (h : List (Int × Bool)) (a : Int × Bool) : List (Int × Bool) := h.take (slotP h a.1) ++ a :: h.drop (slotP h a.1)
theorem insP_length (h : List (Int × Bool)) (a : Int × Bool) : (insP h a).length = h.length + 1 := by
  unfold insP
  have := slotP_le h a.1
  simp only [List.length_append, List.length_take, List.length_cons, List.length_drop]
  omega
theorem insA_list {h : List (Int × Bool)} {x : Int} {s : Bool} {p : Nat} (hp : IsSlot (lineOf h) x p) : insA (lineOf h) x s p = cellsA (insP h (x, s)) := by
  obtain rfl := slot_one hp (slotP_is h x)
  unfold insA insP
  rw [askList_head h _ (slotP_le h x), askList_drop h _, cellsA_append, List.append_assoc]
  rfl
def mayP : List (Int × Bool) → Bool → Bool
  | [], _ => true
  | a :: _, s => a.2 && s
theorem mayB_lineOf (h : List (Int × Bool)) (s : Bool) : mayB (lineOf h) s = mayP h s := by
  cases h <;> simp [mayB, lineOf, mayP]
/-- Those that hold, those that wait, those that came in, when the first ones are let in. -/
def letP : List (Int × Bool) → List (Int × Bool) → List (Int × Bool) × List (Int × Bool) × List Int
  | h, [] => (h, [], [])
  | h, a :: q => if mayP h a.2 = true then ((letP (insP h a) q).1, (letP (insP h a) q).2.1, a.1 :: (letP (insP h a) q).2.2) else (h, a :: q, [])
theorem letP_yes {h q : List (Int × Bool)} {a : Int × Bool} (m : mayP h a.2 = true) : letP h (a :: q) = ((letP (insP h a) q).1, (letP (insP h a) q).2.1, a.1 :: (letP (insP h a) q).2.2) := by rw [letP, if_pos m]
theorem letP_no {h q : List (Int × Bool)} {a : Int × Bool} (m : mayP h a.2 = false) : letP h (a :: q) = (h, a :: q, []) := by rw [letP, if_neg (by rw [m]; decide)]
theorem letP_pre : ∀ (q h : List (Int × Bool)), (letP h q).2.2 <+: q.map (·.1) := by
  intro q
  induction q with
  | nil => intro h; exact List.prefix_refl _
  | cons a q ih =>
    intro h
    by_cases m : mayP h a.2 = true
    · rw [letP_yes m]
      exact List.cons_prefix_cons.2 ⟨rfl, ih _⟩
    · rw [letP_no (by simpa using m)]
      exact List.nil_prefix
theorem letP_len : ∀ (q h : List (Int × Bool)), (letP h q).1.length + (letP h q).2.1.length = h.length + q.length ∧ (letP h q).2.2.length ≤ q.length := by
  intro q
  induction q with
  | nil => intro h; exact ⟨rfl, Nat.le_refl _⟩
  | cons a q ih =>
    intro h
    by_cases m : mayP h a.2 = true
    · rw [letP_yes m]
      have := ih (insP h a)
      rw [insP_length] at this
      simp only [List.length_cons]
      omega
    · rw [letP_no (by simpa using m)]
      simp

/-- What lock k is when x has left it. -/
def leftOf (H Q : Nat → Line) (x : Int) (k : Nat) : List (Int × Bool) × List (Int × Bool) × List Int := letP (lessTo (H k) x (H k).n) (lessTo (Q k) x (Q k).n)
/-- The locks that are left of the first k. -/
def leaveTo (K : Nat → Int) (H Q : Nat → Line) (x : Int) : Nat → List (Int × List (Int × Bool) × List (Int × Bool))
  | 0 => []
  | k + 1 => if (leftOf H Q x k).1.length = 0 then leaveTo K H Q x k else leaveTo K H Q x k ++ [(K k, (leftOf H Q x k).1, (leftOf H Q x k).2.1)]
theorem leaveTo_no {K : Nat → Int} {H Q : Nat → Line} {x : Int} {k : Nat} (h : (leftOf H Q x k).1.length = 0) : leaveTo K H Q x (k + 1) = leaveTo K H Q x k := by rw [leaveTo, if_pos h]
theorem leaveTo_yes {K : Nat → Int} {H Q : Nat → Line} {x : Int} {k : Nat} (h : ¬ (leftOf H Q x k).1.length = 0) : leaveTo K H Q x (k + 1) = leaveTo K H Q x k ++ [(K k, (leftOf H Q x k).1, (leftOf H Q x k).2.1)] := by rw [leaveTo, if_neg h]
theorem leaveTo_length (K : Nat → Int) (H Q : Nat → Line) (x : Int) (k : Nat) : (leaveTo K H Q x k).length ≤ k := by
  induction k with
  | zero => exact Nat.le_refl _
  | succ k ih =>
    by_cases h : (leftOf H Q x k).1.length = 0
    · rw [leaveTo_no h]; omega
    · rw [leaveTo_yes h, List.length_append]; simp; omega
/-- Who came in at the first k. -/
def entTo (H Q : Nat → Line) (x : Int) : Nat → List Int
  | 0 => []
  | k + 1 => entTo H Q x k ++ (leftOf H Q x k).2.2
theorem lessTo_tasks (l : Line) (x : Int) (k : Nat) : List.Sublist ((lessTo l x k).map (·.1)) (tasks l k) := by
  unfold lessTo asksTo tasks
  have := (List.filter_sublist (p := fun a : Int × Bool => a.1 != x) (l := (List.range k).map (fun i => (l.T i, l.S i)))).map (·.1)
  rw [List.map_map] at this
  exact this
theorem left_tasks (H Q : Nat → Line) (x : Int) (k : Nat) : List.Sublist (leftOf H Q x k).2.2 (tasks (Q k) (Q k).n) := (letP_pre _ _).sublist.trans (lessTo_tasks _ _ _)
theorem entTo_sub (H Q : Nat → Line) (x : Int) (k : Nat) : List.Sublist (entTo H Q x k) (waited Q k) := by
  induction k with
  | zero => exact List.Sublist.refl _
  | succ k ih => exact ih.append (left_tasks H Q x k)
theorem entTo_good {N : Nat} {K : Nat → Int} {H Q : Nat → Line} {x : Int} (hg : GoodL N K H Q) (k : Nat) (hk : k ≤ N) : (entTo H Q x k).Nodup ∧ ∀ y, y ∈ entTo H Q x k → isTask y := by
  have hq : ∀ i', i' < k → ∀ j, j < (Q i').n → queueOk N H Q i' j := fun i' hi' => (hg.2 i' (by omega)).2.2.2.1
  refine ⟨(waited_nodup Q k (fun i' hi' j hj => (hq i' hi' j hj).2.2.1)).sublist (entTo_sub H Q x k), fun y hy => ?_⟩
  obtain ⟨i', hi', j, hj, e⟩ := (mem_waited Q k y).1 ((entTo_sub H Q x k).subset hy)
  rw [← e]
  exact (hq i' hi' j hj).1
theorem entTo_few {N : Nat} {K : Nat → Int} {H Q : Nat → Line} {x : Int} (hg : GoodL N K H Q) (k : Nat) (hk : k ≤ N) : (entTo H Q x k).length ≤ 12 := few_tasks _ (entTo_good hg k hk).1 (entTo_good hg k hk).2
/-- A rising list of such that came in is short. -/
theorem got_few {N : Nat} {K : Nat → Int} {H Q : Nat → Line} {x : Int} (hg : GoodL N K H Q) {k : Nat} (hk : k < N) {ks es : List Int} (hs : Strict ks) (he : es <+: (leftOf H Q x k).2.2) (hm : ∀ y, y ∈ ks ↔ y ∈ entTo H Q x k ++ es) : ks.length ≤ 12 := by
  refine few_tasks ks (strict_nodup hs) (fun y hy => ?_)
  have h := (entTo_good (x := x) hg (k + 1) hk).2 y
  refine h ?_
  have h1 := (hm y).1 hy
  show y ∈ entTo H Q x k ++ (leftOf H Q x k).2.2
  rcases List.mem_append.1 h1 with e | e
  · exact List.mem_append.2 (.inl e)
  · exact List.mem_append.2 (.inr (he.subset e))

end Go.Proofs.Ytompknfmlnlnfaa
