/-
  OWN TEXT: PlainLv, KitLv.
-/
import Derived.Test.YtdmkpflphjemoaaB14
import Derived.Test.YtdmkpflphjemoaaB06
namespace Go.Proofs.Ytdmkpflphjemoaa
open Go.RowKit

/-- A list of asked ones as a line. -/
def lineOf (ys : List (Int × Bool)) : Line := ⟨ys.length, fun i => (ys.getD i (0, false)).1, fun i => (ys.getD i (0, false)).2⟩
theorem askCells_asks (l : Line) : ∀ k, (List.range (k * 2)).map (askCell l) = cellsA (asksTo l k) := by
  intro k
  induction k with
  | zero => rfl
  | succ k ih =>
    rw [asksTo_succ, cellsA_append, ← ih, show (k + 1) * 2 = k * 2 + 1 + 1 by omega, List.range_succ, List.range_succ]
    simp only [List.map_append, List.map_cons, List.map_nil, List.append_assoc, List.cons_append, List.nil_append]
    rw [askCell_0, askCell_1]
    rfl
theorem askList_asks (l : Line) : askList l = cellsA (asksTo l l.n) := askCells_asks l l.n
theorem asksTo_lineOf (ys : List (Int × Bool)) (k : Nat) (h : k ≤ ys.length) : asksTo (lineOf ys) k = ys.take k := by
  apply List.ext_getElem?
  intro i
  unfold asksTo lineOf
  rw [List.getElem?_map, List.getElem?_take]
  by_cases hi : i < k
  · rw [if_pos hi, List.getElem?_range hi, List.getElem?_eq_getElem (show i < ys.length by omega)]
    simp [List.getD, List.getElem?_eq_getElem (show i < ys.length by omega)]
  · rw [if_neg hi, List.getElem?_eq_none (by simpa using hi)]
    rfl
theorem askList_lineOf (ys : List (Int × Bool)) : askList (lineOf ys) = cellsA ys := by
  rw [askList_asks, show (lineOf ys).n = ys.length from rfl, asksTo_lineOf ys _ (Nat.le_refl _), List.take_length]
theorem askList_drop (ys : List (Int × Bool)) (p : Nat) : askList (dropLine (lineOf ys) p) = cellsA (ys.drop p) := by
  rw [← askList_lineOf (ys.drop p)]
  have e : dropLine (lineOf ys) p = lineOf (ys.drop p) := by
    unfold dropLine lineOf
    congr 1
    · rw [List.length_drop]
    · funext i; simp [List.getD, List.getElem?_drop, Nat.add_comm]
    · funext i; simp [List.getD, List.getElem?_drop, Nat.add_comm]
  rw [e]
theorem askList_head (ys : List (Int × Bool)) (p : Nat) (h : p ≤ ys.length) : askList (headLine (lineOf ys) p) = cellsA (ys.take p) := by
  have e : askList (headLine (lineOf ys) p) = (List.range (p * 2)).map (askCell (lineOf ys)) := rfl
  rw [e, askCells_asks, asksTo_lineOf ys p h]
theorem tail_lineOf (a : Int × Bool) (ys : List (Int × Bool)) : tailLine (lineOf (a :: ys)) = lineOf ys := by
  unfold tailLine lineOf
  congr 1
theorem cellsA_take (h : List (Int × Bool)) : ∀ i, (cellsA h).take (i * 2) = cellsA (h.take i) := by
  induction h with
  | nil => intro i; simp [cellsA]
  | cons a h ih =>
    intro i
    cases i with
    | zero => simp [cellsA]
    | succ i => rw [show (i + 1) * 2 = i * 2 + 1 + 1 by omega]; simp [cellsA, ih]
theorem cellsA_drop (h : List (Int × Bool)) : ∀ i, (cellsA h).drop (i * 2) = cellsA (h.drop i) := by
  induction h with
  | nil => intro i; simp [cellsA]
  | cons a h ih =>
    intro i
    cases i with
    | zero => simp
    | succ i => rw [show (i + 1) * 2 = i * 2 + 1 + 1 by omega]; simp [cellsA, ih]
theorem cellsA_one (h : List (Int × Bool)) : ∀ u ∈ cellsA h, u.oneCell' = true := by
  induction h with
  | nil => intro u hu; cases hu
  | cons a h ih =>
    intro u hu
    simp only [cellsA, List.mem_cons] at hu
    rcases hu with rfl | rfl | hu
    · rfl
    · rfl
    · exact ih u hu

/-- Where the task x goes. -/
def slotP : List (Int × Bool) → Int → Nat
  | [], _ => 0
  | a :: r, x => if a.1 < x then slotP r x + 1 else 0
theorem slotP_le (h : List (Int × Bool)) (x : Int) : slotP h x ≤ h.length := by
  induction h with
  | nil => exact Nat.le_refl _
  | cons a r ih => unfold slotP; split <;> simp <;> omega
theorem slotP_is (h : List (Int × Bool)) (x : Int) : IsSlot (lineOf h) x (slotP h x) := by
  refine ⟨slotP_le h x, ?_, ?_⟩
  · induction h with
    | nil => intro j hj; simp [slotP] at hj
    | cons a r ih =>
      intro j hj
      unfold slotP at hj
      by_cases c : a.1 < x
      · rw [if_pos c] at hj
        cases j with
        | zero => exact c
        | succ j => exact ih j (by omega)
      · rw [if_neg c] at hj; omega
  · induction h with
    | nil => intro h; simp [lineOf] at h
    | cons a r ih =>
      intro hl
      unfold slotP at hl ⊢
      by_cases c : a.1 < x
      · rw [if_pos c] at hl ⊢
        have hl' : slotP r x < (lineOf r).n := by simp only [lineOf, List.length_cons] at hl ⊢; omega
        exact ih hl'
      · rw [if_neg c] at hl ⊢
        exact c
/-- One more at its place. -/
def insP (h : List (Int × Bool)) (a : Int × Bool) : List (Int × Bool) := h.take (slotP h a.1) ++ a :: h.drop (slotP h a.1)
theorem insP_length (h : List (Int × Bool)) (a : Int × Bool) : (insP h a).length = h.length + 1 := by
  unfold insP
  have := slotP_le h a.1
  simp only [List.length_append, List.length_take, List.length_cons, List.length_drop]
  omega
theorem insA_list {h : List (Int × Bool)} {x : Int} {s : Bool} {p : Nat} (hp : IsSlot (lineOf h) x p) : insA (lineOf h) x s p = cellsA (insP h (x, s)) := by
  obtain rfl := slot_one hp (slotP_is h x)
  unfold insA insP
  rw [askList_head h _ (slotP_le h x), askList_drop h _, cellsA_append, List.append_assoc]
  rfl
def mayP : List (Int × Bool) → Bool → Bool
  | [], _ => true
  | a :: _, s => a.2 && s
theorem mayB_lineOf (h : List (Int × Bool)) (s : Bool) : mayB (lineOf h) s = mayP h s := by
  cases h <;> simp [mayB, lineOf, mayP]
/-- Those that hold, those that wait, those that came in, when the first ones are let in. -/
def letP : List (Int × Bool) → List (Int × Bool) → List (Int × Bool) × List (Int × Bool) × List Int
  | h, [] => (h, [], [])
  | h, a :: q => if mayP h a.2 = true then ((letP (insP h a) q).1, (letP (insP h a) q).2.1, a.1 :: (letP (insP h a) q).2.2) else (h, a :: q, [])
theorem letP_yes {h q : List (Int × Bool)} {a : Int × Bool} (m : mayP h a.2 = true) : letP h (a :: q) = ((letP (insP h a) q).1, (letP (insP h a) q).2.1, a.1 :: (letP (insP h a) q).2.2) := by rw [letP, if_pos m]
theorem letP_no {h q : List (Int × Bool)} {a : Int × Bool} (m : mayP h a.2 = false) : letP h (a :: q) = (h, a :: q, []) := by rw [letP, if_neg (by rw [m]; decide)]
theorem letP_pre : ∀ (q h : List (Int × Bool)), (letP h q).2.2 <+: q.map (·.1) := by
  intro q
  induction q with
  | nil => intro h; exact List.prefix_refl _
  | cons a q ih =>
    intro h
    by_cases m : mayP h a.2 = true
    · rw [letP_yes m]
      exact List.cons_prefix_cons.2 ⟨rfl, ih _⟩
    · rw [letP_no (by simpa using m)]
      exact List.nil_prefix
theorem letP_len : ∀ (q h : List (Int × Bool)), (letP h q).1.length + (letP h q).2.1.length = h.length + q.length ∧ (letP h q).2.2.length ≤ q.length := by
  intro q
  induction q with
  | nil => intro h; exact ⟨rfl, Nat.le_refl _⟩
  | cons a q ih =>
    intro h
    by_cases m : mayP h a.2 = true
    · rw [letP_yes m]
      have := ih (insP h a)
      rw [insP_length] at this
      simp only [List.length_cons]
      omega
    · rw [letP_no (by simpa using m)]
      simp

/-- What lock k is when x has left it. -/
def leftOf (H Q : Nat → Line) (x : Int) (k : Nat) : List (Int × Bool) × List (Int × Bool) × List Int := letP (lessTo (H k) x (H k).n) (lessTo (Q k) x (Q k).n)
/-- The locks that are left of the first k. -/
def leaveTo (K : Nat → Int) (H Q : Nat → Line) (x : Int) : Nat → List (Int × List (Int × Bool) × List (Int × Bool))
  | 0 => []
  | k + 1 => if (leftOf H Q x k).1.length = 0 then leaveTo K H Q x k else leaveTo K H Q x k ++ [(K k, (leftOf H Q x k).1, (leftOf H Q x k).2.1)]
theorem leaveTo_no {K : Nat → Int} {H Q : Nat → Line} {x : Int} {k : Nat} (h : (leftOf H Q x k).1.length = 0) : leaveTo K H Q x (k + 1) = leaveTo K H Q x k := by rw [leaveTo, if_pos h]
theorem leaveTo_yes {K : Nat → Int} {H Q : Nat → Line} {x : Int} {k : Nat} (h : ¬ (leftOf H Q x k).1.length = 0) : leaveTo K H Q x (k + 1) = leaveTo K H Q x k ++ [(K k, (leftOf H Q x k).1, (leftOf H Q x k).2.1)] := by rw [leaveTo, if_neg h]
theorem leaveTo_length (K : Nat → Int) (H Q : Nat → Line) (x : Int) (k : Nat) : (leaveTo K H Q x k).length ≤ k := by
  induction k with
  | zero => exact Nat.le_refl _
  | succ k ih =>
    by_cases h : (leftOf H Q x k).1.length = 0
    · rw [leaveTo_no h]; omega
    · rw [leaveTo_yes h, List.length_append]; simp; omega
/-- Who came in at the first k. -/
def entTo (H Q : Nat → Line) (x : Int) : Nat → List Int
  | 0 => []
  | k + 1 => entTo H Q x k ++ (leftOf H Q x k).2.2
theorem lessTo_tasks (l : Line) (x : Int) (k : Nat) : List.Sublist ((lessTo l x k).map (·.1)) (tasks l k) := by
  unfold lessTo asksTo tasks
  have := (List.filter_sublist (p := fun a : Int × Bool => a.1 != x) (l := (List.range k).map (fun i => (l.T i, l.S i)))).map (·.1)
  rw [List.map_map] at this
  exact this
theorem left_tasks (H Q : Nat → Line) (x : Int) (k : Nat) : List.Sublist (leftOf H Q x k).2.2 (tasks (Q k) (Q k).n) := (letP_pre _ _).sublist.trans (lessTo_tasks _ _ _)
theorem entTo_sub (H Q : Nat → Line) (x : Int) (k : Nat) : List.Sublist (entTo H Q x k) (waited Q k) := by
  induction k with
  | zero => exact List.Sublist.refl _
  | succ k ih => exact ih.append (left_tasks H Q x k)
theorem entTo_good {N : Nat} {K : Nat → Int} {H Q : Nat → Line} {x : Int} (hg : GoodL N K H Q) (k : Nat) (hk : k ≤ N) : (entTo H Q x k).Nodup ∧ ∀ y, y ∈ entTo H Q x k → isTask y := by
  have hq : ∀ i', i' < k → ∀ j, j < (Q i').n → queueOk N H Q i' j := fun i' hi' => (hg.2 i' (by omega)).2.2.2.1
  refine ⟨(waited_nodup Q k (fun i' hi' j hj => (hq i' hi' j hj).2.2.1)).sublist (entTo_sub H Q x k), fun y hy => ?_⟩
  obtain ⟨i', hi', j, hj, e⟩ := (mem_waited Q k y).1 ((entTo_sub H Q x k).subset hy)
  rw [← e]
  exact (hq i' hi' j hj).1
theorem entTo_few {N : Nat} {K : Nat → Int} {H Q : Nat → Line} {x : Int} (hg : GoodL N K H Q) (k : Nat) (hk : k ≤ N) : (entTo H Q x k).length ≤ 12 := few_tasks _ (entTo_good hg k hk).1 (entTo_good hg k hk).2
/-- A rising list of such that came in is short. -/
theorem got_few {N : Nat} {K : Nat → Int} {H Q : Nat → Line} {x : Int} (hg : GoodL N K H Q) {k : Nat} (hk : k < N) {ks es : List Int} (hs : Strict ks) (he : es <+: (leftOf H Q x k).2.2) (hm : ∀ y, y ∈ ks ↔ y ∈ entTo H Q x k ++ es) : ks.length ≤ 12 := by
  refine few_tasks ks (strict_nodup hs) (fun y hy => ?_)
  have h := (entTo_good (x := x) hg (k + 1) hk).2 y
  refine h ?_
  have h1 := (hm y).1 hy
  show y ∈ entTo H Q x k ++ (leftOf H Q x k).2.2
  rcases List.mem_append.1 h1 with e | e
  · exact List.mem_append.2 (.inl e)
  · exact List.mem_append.2 (.inr (he.subset e))

end Go.Proofs.Ytdmkpflphjemoaa

namespace Go.Proofs.Ytdmkpflphjemoaa
open Go.RowKit

abbrev LockW := Int × List (Int × Bool) × List (Int × Bool)
def keyF (ls : List LockW) (i : Nat) : Int := (ls.getD i (0, [], [])).1
def heldF (ls : List LockW) (i : Nat) : Line := lineOf (ls.getD i (0, [], [])).2.1
def queueF (ls : List LockW) (i : Nat) : Line := lineOf (ls.getD i (0, [], [])).2.2
theorem getD_left {ls : List LockW} {x : LockW} {i : Nat} (h : i < ls.length) : (ls ++ [x]).getD i (0, [], []) = ls.getD i (0, [], []) := by
  simp [List.getD, List.getElem?_append_left h]
theorem getD_last (ls : List LockW) (x : LockW) : (ls ++ [x]).getD ls.length (0, [], []) = x := by
  simp [List.getD]
theorem LocksOwn.congr {w : World} {base N : Nat} {v : Value} {K K' : Nat → Int} {H H' Q Q' : Nat → Line} {hs qs : Nat → Value} (L : LocksOwn w base N v K H Q hs qs) (hK : ∀ i, i < N → K i = K' i)
    (hH : ∀ i, i < N → (H i).n = (H' i).n ∧ askList (H i) = askList (H' i)) (hQ : ∀ i, i < N → (Q i).n = (Q' i).n ∧ askList (Q i) = askList (Q' i)) : LocksOwn w base N v K' H' Q' hs qs := by
  refine ⟨own_congr L.row (fun j hj => ?_), fun i hi => ?_, fun i hi => ?_, L.hh, L.hq, L.qq⟩
  · unfold lockCell
    rw [hK (j / 3) (by omega)]
  · have := L.held i hi
    rwa [(hH i hi).1, (hH i hi).2] at this
  · have := L.queue i hi
    rwa [(hQ i hi).1, (hQ i hi).2] at this
/-- One lock more behind those of a list. -/
theorem LocksOwn.snocL {w w' : World} {base lim : Nat} {v v' hv qv : Value} {ls : List LockW} {key : Int} {h q : List (Int × Bool)} {hs qs : Nat → Value} (L : LocksOwn w base ls.length v (keyF ls) (heldF ls) (queueF ls) hs qs) (hlim : ∀ b, LockBlocks ls.length v hs qs b → b < lim)
    (h1 : AsksIs w lim hv h) (h2 : AsksIs w lim qv q) (h12 : ∀ b, hv.ownBlock = some b → qv.ownBlock ≠ some b) (hb : base ≤ lim) (hg : w.grownBy w' v.ownBlock)
    (ho : w'.ownsRow base 60 3 v' (ls.length + 1) ((List.range (ls.length * 3)).map (lockCell (keyF ls) hs qs) ++ [.int .i64 key, hv, qv])) :
    LocksOwn w' base (ls ++ [(key, h, q)]).length v' (keyF (ls ++ [(key, h, q)])) (heldF (ls ++ [(key, h, q)])) (queueF (ls ++ [(key, h, q)])) (atL hs ls.length hv) (atL qs ls.length qv) := by
  have L2 : LocksOwn w base ls.length v (keyF (ls ++ [(key, h, q)])) (heldF (ls ++ [(key, h, q)])) (queueF (ls ++ [(key, h, q)])) hs qs :=
    L.congr (fun i hi => by unfold keyF; rw [getD_left hi]) (fun i hi => by unfold heldF; rw [getD_left hi]; exact ⟨rfl, rfl⟩) (fun i hi => by unfold queueF; rw [getD_left hi]; exact ⟨rfl, rfl⟩)
  have eK : keyF (ls ++ [(key, h, q)]) ls.length = key := by unfold keyF; rw [getD_last]
  have eH : heldF (ls ++ [(key, h, q)]) ls.length = lineOf h := by unfold heldF; rw [getD_last]
  have eQ : queueF (ls ++ [(key, h, q)]) ls.length = lineOf q := by unfold queueF; rw [getD_last]
  have e3 : (List.range (ls.length * 3)).map (lockCell (keyF ls) hs qs) = (List.range (ls.length * 3)).map (lockCell (keyF (ls ++ [(key, h, q)])) hs qs) := by
    refine List.map_congr_left fun j hj => ?_
    have hj' : j < ls.length * 3 := by simpa using hj
    unfold lockCell keyF
    rw [getD_left (show j / 3 < ls.length by omega)]
  rw [show (ls ++ [(key, h, q)]).length = ls.length + 1 by simp]
  refine L2.snoc hlim ?_ ?_ h12 hb hg ?_
  · rw [eH, askList_lineOf]; exact h1
  · rw [eQ, askList_lineOf]; exact h2
  · rw [eK, ← e3]; exact ho
theorem LocksOwn.kept {w w' : World} {base N : Nat} {v : Value} {K : Nat → Int} {H Q : Nat → Line} {hs qs : Nat → Value} {S : Nat → Prop} (L : LocksOwn w base N v K H Q hs qs) (hk : Kept w w' S) (hS : ∀ b, LockBlocks N v hs qs b → ¬ S b) : LocksOwn w' base N v K H Q hs qs :=
  ⟨hk.own L.row (fun b e => hS b (.inl e)), fun i hi => hk.own (L.held i hi) (fun b e => hS b (.inr ⟨i, hi, .inl e⟩)), fun i hi => hk.own (L.queue i hi) (fun b e => hS b (.inr ⟨i, hi, .inr e⟩)), L.hh, L.hq, L.qq⟩
/-- Locks and a list of numbers lie apart. -/
theorem LocksOwn.ints_apart {w : World} {base N bi n : Nat} {v vi : Value} {xs : List Value} {K : Nat → Int} {H Q : Nat → Line} {hs qs : Nat → Value} (L : LocksOwn w base N v K H Q hs qs) (ho : w.ownsRow bi 3 1 vi n xs) : ∀ b, LockBlocks N v hs qs b → vi.ownBlock ≠ some b := by
  rintro b (e | ⟨i, hi, e | e⟩)
  · exact own_apart L.row ho (by decide) b e
  · exact own_apart (L.held i hi) ho (by decide) b e
  · exact own_apart (L.queue i hi) ho (by decide) b e
/-- Locks in rows of their own, told by a list. -/
def LocksL (w : World) (base : Nat) (v : Value) (ls : List LockW) : Prop := ∃ hs qs, LocksOwn w base ls.length v (keyF ls) (heldF ls) (queueF ls) hs qs
theorem LocksL.nil (w : World) (base : Nat) : LocksL w base (.slice none 0 0) [] := ⟨fun _ => .slice none 0 0, fun _ => .slice none 0 0, LocksOwn.nil _ _ _ _ _ _ _⟩
theorem LocksL.below {w w' : World} {base : Nat} {v : Value} {ls : List LockW} (L : LocksL w base v ls) (hb : Below w.heap.size w w') : LocksL w' base v ls := by
  obtain ⟨hs, qs, h⟩ := L
  exact ⟨hs, qs, h.below hb⟩
theorem LocksOwn.base {w : World} {base base' N : Nat} {v : Value} {K : Nat → Int} {H Q : Nat → Line} {hs qs : Nat → Value} (L : LocksOwn w base N v K H Q hs qs) (hb : base' ≤ base) : LocksOwn w base' N v K H Q hs qs :=
  ⟨own_base L.row hb, fun i hi => own_base (L.held i hi) hb, fun i hi => own_base (L.queue i hi) hb, L.hh, L.hq, L.qq⟩
theorem LocksL.base {w : World} {base base' : Nat} {v : Value} {ls : List LockW} (L : LocksL w base v ls) (hb : base' ≤ base) : LocksL w base' v ls := by
  obtain ⟨hs, qs, h⟩ := L
  exact ⟨hs, qs, h.base hb⟩
/-- Locks as a list. -/
def locksP (N : Nat) (K : Nat → Int) (H Q : Nat → Line) : List LockW := (List.range N).map (fun i => (K i, asksTo (H i) (H i).n, asksTo (Q i) (Q i).n))
theorem locksP_get {N : Nat} (K : Nat → Int) (H Q : Nat → Line) {i : Nat} (hi : i < N) : (locksP N K H Q).getD i (0, [], []) = (K i, asksTo (H i) (H i).n, asksTo (Q i) (Q i).n) := by
  simp [locksP, List.getD, List.getElem?_range hi]
theorem LocksOwn.told {w : World} {base N : Nat} {v : Value} {K : Nat → Int} {H Q : Nat → Line} {hs qs : Nat → Value} (L : LocksOwn w base N v K H Q hs qs) : LocksL w base v (locksP N K H Q) := by
  have e : (locksP N K H Q).length = N := by simp [locksP]
  unfold LocksL
  rw [e]
  refine ⟨hs, qs, L.congr (fun i hi => ?_) (fun i hi => ?_) (fun i hi => ?_)⟩
  · unfold keyF; rw [locksP_get K H Q hi]
  · unfold heldF; rw [locksP_get K H Q hi, askList_lineOf, askList_asks]; exact ⟨(asksTo_length _ _).symm, rfl⟩
  · unfold queueF; rw [locksP_get K H Q hi, askList_lineOf, askList_asks]; exact ⟨(asksTo_length _ _).symm, rfl⟩
theorem LocksOwn.at_ {w : World} {base N c : Nat} {ao : Option Addr} {K : Nat → Int} {H Q : Nat → Line} {hs qs : Nat → Value} (L : LocksOwn w base N (.slice ao N c) K H Q hs qs) : LocksAt w ao N K H Q := by
  intro k hk
  obtain ⟨g, rfl, _, _⟩ := own_addr L.row (by omega)
  have c0 := own_cell L.row (k * 3) (by omega) rfl
  have c1 := own_cell L.row (k * 3 + 1) (by omega) rfl
  have c2 := own_cell L.row (k * 3 + 2) (by omega) rfl
  rw [lockCell_0] at c0
  rw [lockCell_1] at c1
  rw [lockCell_2] at c2
  have oh := L.held k hk
  have oq := L.queue k hk
  obtain ⟨ha, hc, eh, h1, h2, h3⟩ := own_form oh
  obtain ⟨qa, qc, eq, q1, q2, q3⟩ := own_form oq
  rw [eh] at c1 oh
  rw [eq] at c2 oq
  unfold maxLen at h2 q2
  exact ⟨g, 0, ha, hc, qa, qc, rfl, by rw [Nat.zero_add]; exact c0, by rw [Nat.zero_add]; exact c1, by rw [Nat.zero_add]; exact c2, line_of_own oh, line_of_own oq, ⟨h1, by omega, h3⟩, ⟨q1, by omega, q3⟩⟩

theorem LocksL.form {w : World} {base : Nat} {v : Value} {ls : List LockW} (h : LocksL w base v ls) : ∃ ao c, v = .slice ao ls.length c ∧ LocksAt w ao ls.length (keyF ls) (heldF ls) (queueF ls) ∧ LocksL w base (.slice ao ls.length c) ls := by
  obtain ⟨hs, qs, L⟩ := h
  obtain ⟨ao, c, rfl, _⟩ := own_form L.row
  exact ⟨ao, c, rfl, L.at_, hs, qs, L⟩

/-- What LeaveLocks answers. -/
def LeaveAns (N : Nat) (K : Nat → Int) (H Q : Nat → Line) (x : Int) (ls : List LockW) (es : List Int) (code : Int) : Prop :=
  (¬ GoodL N K H Q → ls = [] ∧ es = [] ∧ code = 1) ∧ (GoodL N K H Q → ¬ isTask x → ls = locksP N K H Q ∧ es = [] ∧ code = 2) ∧
  (GoodL N K H Q → isTask x → ls = leaveTo K H Q x N ∧ (Strict es ∧ ∀ y, y ∈ es ↔ y ∈ entTo H Q x N) ∧ code = 0)
theorem leaveAns_one {N : Nat} {K : Nat → Int} {H Q : Nat → Line} {x : Int} {ls ls' : List LockW} {es es' : List Int} {code code' : Int} (h : LeaveAns N K H Q x ls es code) (h' : LeaveAns N K H Q x ls' es' code') : ls' = ls ∧ es' = es ∧ code' = code := by
  by_cases g : GoodL N K H Q
  · by_cases t : isTask x
    · obtain ⟨rfl, h1, rfl⟩ := h.2.2 g t
      obtain ⟨rfl, h2, rfl⟩ := h'.2.2 g t
      exact ⟨rfl, strict_one h2.1 h1.1 (fun y => (h2.2 y).trans (h1.2 y).symm), rfl⟩
    · obtain ⟨rfl, rfl, rfl⟩ := h.2.1 g t
      obtain ⟨rfl, rfl, rfl⟩ := h'.2.1 g t
      exact ⟨rfl, rfl, rfl⟩
  · obtain ⟨rfl, rfl, rfl⟩ := h.1 g
    obtain ⟨rfl, rfl, rfl⟩ := h'.1 g
    exact ⟨rfl, rfl, rfl⟩
/-- All lines of a list are short. -/
def ShortL (ls : List LockW) (B : Nat) : Prop := ∀ a ∈ ls, a.2.1.length ≤ B ∧ a.2.2.length ≤ B
theorem ShortL.to {ls : List LockW} {B : Nat} (h : ShortL ls B) : ShortTo ls.length (heldF ls) (queueF ls) B := by
  intro i hi
  unfold heldF queueF lineOf
  have e : ls.getD i (0, [], []) = ls[i] := by simp [List.getD, List.getElem?_eq_getElem hi]
  rw [e]
  exact h _ (List.getElem_mem hi)
theorem locksP_short {N : Nat} {K : Nat → Int} {H Q : Nat → Line} {B : Nat} (h : ShortTo N H Q B) : ShortL (locksP N K H Q) B := by
  intro a ha
  obtain ⟨i, hi, rfl⟩ := List.mem_map.1 ha
  have hi' : i < N := by simpa using hi
  simp only [asksTo_length]
  exact h i hi'
theorem leaveTo_short {K : Nat → Int} {H Q : Nat → Line} {x : Int} {B : Nat} : ∀ k, ShortTo k H Q B → ShortL (leaveTo K H Q x k) (2 * B) := by
  intro k
  induction k with
  | zero => intro _ a ha; cases ha
  | succ k ih =>
    intro h
    have ih' := ih (fun i hi => h i (by omega))
    by_cases e : (leftOf H Q x k).1.length = 0
    · rw [leaveTo_no e]; exact ih'
    · rw [leaveTo_yes e]
      intro a ha
      rcases List.mem_append.1 ha with ha | ha
      · exact ih' a ha
      · simp only [List.mem_singleton] at ha
        subst ha
        have hl := (letP_len (lessTo (Q k) x (Q k).n) (lessTo (H k) x (H k).n)).1
        have h1 := lessTo_length (H k) x (H k).n
        have h2 := lessTo_length (Q k) x (Q k).n
        have h3 := h k (by omega)
        have e1 : leftOf H Q x k = letP (lessTo (H k) x (H k).n) (lessTo (Q k) x (Q k).n) := rfl
        rw [← e1] at hl
        exact ⟨by show (leftOf H Q x k).1.length ≤ _; omega, by show (leftOf H Q x k).2.1.length ≤ _; omega⟩
theorem good_lines {N : Nat} {K : Nat → Int} {H Q : Nat → Line} (hg : GoodI N K H Q) {i : Nat} (hi : i < N) : (H i).n + (Q i).n ≤ 12 := by
  have h := few_tasks (tasks (catLine (H i) (Q i) (Q i).n) ((H i).n + (Q i).n)) ?_ ?_
  · simpa [tasks] using h
  · refine List.pairwise_map.2 (List.Pairwise.imp_of_mem (fun {a b} ha hb hab => ?_) List.pairwise_lt_range)
    exact cat_apart hg hi (Nat.le_refl _) a b hab (by simpa using hb)
  · intro x hx
    obtain ⟨a, ha, rfl⟩ := List.mem_map.1 hx
    exact cat_tasks hg hi (Nat.le_refl _) a (by simpa using ha)
/-- Nothing in an answer is long. -/
theorem leaveAns_short {N : Nat} {K : Nat → Int} {H Q : Nat → Line} {x : Int} {ls : List LockW} {es : List Int} {code : Int} (h : LeaveAns N K H Q x ls es code) : ls.length ≤ 60 ∧ ShortL ls 24 ∧ es.length ≤ 12 := by
  by_cases g : GoodL N K H Q
  · have hs : ShortTo N H Q 12 := fun i hi => by have := good_lines ((goodL_iff N K H Q).1 g) hi; omega
    by_cases t : isTask x
    · obtain ⟨rfl, h1, _⟩ := h.2.2 g t
      exact ⟨Nat.le_trans (leaveTo_length K H Q x N) g.1, leaveTo_short (K := K) (x := x) N hs, few_tasks _ (strict_nodup h1.1) (fun y hy => (entTo_good g N (Nat.le_refl _)).2 y ((h1.2 y).1 hy))⟩
    · obtain ⟨rfl, rfl, _⟩ := h.2.1 g t
      refine ⟨by simp [locksP]; exact g.1, fun a ha => ?_, Nat.zero_le _⟩
      have := locksP_short (K := K) hs a ha
      omega
  · obtain ⟨rfl, rfl, _⟩ := h.1 g
    exact ⟨Nat.zero_le _, (by intro a ha; simp at ha), Nat.zero_le _⟩

end Go.Proofs.Ytdmkpflphjemoaa
