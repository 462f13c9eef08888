/-
  OWN TEXT: own locks told by a list; what LeaveLocks answers, in plain words.
-/
import Derived.Test.YtompknfmlnlnfaaOwnL
import Derived.Test.YtompknfmlnlnfaaPlainLv
namespace Go.Proofs.Ytompknfmlnlnfaa
open Go.RowKit

abbrev LockW := Int × List (Int × Bool) × List (Int × Bool)
def keyF (ls : List LockW) (i : Nat) : Int := (ls.getD i (0, [], [])).1
def heldF (ls : List LockW) (i : Nat) : Line := lineOf (ls.getD i (0, [], [])).2.1
def queueF (ls : List LockW) (i : Nat) : Line := lineOf (ls.getD i (0, [], [])).2.2
theorem getD_left {ls : List LockW} {x : LockW} {i : Nat} (h : i < ls.length) : (ls ++ [x]).getD i (0, [], []) = ls.getD i (0, [], []) := by
  simp [List.getD, List.getElem?_append_left h]
theorem getD_last (ls : List LockW) (x : LockW) : (ls ++ [x]).getD ls.length (0, [], []) = x := by
  simp [List.getD]
theorem LocksOwn.congr {w : World} {base N : Nat} {v : Value} {K K' : Nat → Int} {H H' Q Q' : Nat → Line} {hs qs : Nat → Value} (L : LocksOwn w base N v K H Q hs qs) (hK : ∀ i, i < N → K i = K' i)
    (hH : ∀ i, i < N → (H i).n = (H' i).n ∧ askList (H i) = askList (H' i)) (hQ : ∀ i, i < N → (Q i).n = (Q' i).n ∧ askList (Q i) = askList (Q' i)) : LocksOwn w base N v K' H' Q' hs qs := by
  refine ⟨own_congr L.row (fun j hj => ?_), fun i hi => ?_, fun i hi => ?_, L.hh, L.hq, L.qq⟩
  · unfold lockCell
    rw [hK (j / 3) (by omega)]
  · have := L.held i hi
    rwa [(hH i hi).1, (hH i hi).2] at this
  · have := L.queue i hi
    rwa [(hQ i hi).1, (hQ i hi).2] at this
/-- One lock more behind those of a list. -/
theorem LocksOwn.snocL {w w' : World} {base lim : Nat} {v v' hv qv : Value} {ls : List LockW} {key : Int} {h q : List (Int × Bool)} {hs qs : Nat → Value} (L : LocksOwn w base ls.length v (keyF ls) (heldF ls) (queueF ls) hs qs) (hlim : ∀ b, LockBlocks ls.length v hs qs b → b < lim)
    (h1 : AsksIs w lim hv h) (h2 : AsksIs w lim qv q) (h12 : ∀ b, hv.ownBlock = some b → qv.ownBlock ≠ some b) (hb : base ≤ lim) (hg : w.grownBy w' v.ownBlock)
    (ho : w'.ownsRow base 68 3 v' (ls.length + 1) ((List.range (ls.length * 3)).map (lockCell (keyF ls) hs qs) ++ [.int .i64 key, hv, qv])) :
    LocksOwn w' base (ls ++ [(key, h, q)]).length v' (keyF (ls ++ [(key, h, q)])) (heldF (ls ++ [(key, h, q)])) (queueF (ls ++ [(key, h, q)])) (atL hs ls.length hv) (atL qs ls.length qv) := by
  have L2 : LocksOwn w base ls.length v (keyF (ls ++ [(key, h, q)])) (heldF (ls ++ [(key, h, q)])) (queueF (ls ++ [(key, h, q)])) hs qs :=
    L.congr (fun i hi => by unfold keyF; rw [getD_left hi]) (fun i hi => by unfold heldF; rw [getD_left hi]; exact ⟨rfl, rfl⟩) (fun i hi => by unfold queueF; rw [getD_left hi]; exact ⟨rfl, rfl⟩)
  have eK : keyF (ls ++ [(key, h, q)]) ls.length = key := by unfold keyF; rw [getD_last]
  have eH : heldF (ls ++ [(key, h, q)]) ls.length = lineOf h := by unfold heldF; rw [getD_last]
  have eQ : queueF (ls ++ [(key, h, q)]) ls.length = lineOf q := by unfold queueF; rw [getD_last]
  have e3 : (List.range (ls.length * 3)).map (lockCell (keyF ls) hs qs) = (List.range (ls.length * 3)).map (lockCell (keyF (ls ++ [(key, h, q)])) hs qs) := by
    refine List.map_congr_left fun j hj => ?_
    have hj' : j < ls.length * 3 := by simpa using hj
    unfold lockCell keyF
    rw [getD_left (show j / 3 < ls.length by omega)]
  rw [show (ls ++ [(key, h, q)]).length = ls.length + 1 by simp]
  refine L2.snoc hlim ?_ ?_ h12 hb hg ?_
  · rw [eH, askList_lineOf]; exact h1
  · rw [eQ, askList_lineOf]; exact h2
  · rw [eK, ← e3]; exact ho
theorem LocksOwn.kept {w w' : World} {base N : Nat} {v : Value} {K : Nat → Int} {H Q : Nat → Line} {hs qs : Nat → Value} {S : Nat → Prop} (L : LocksOwn w base N v K H Q hs qs) (hk : Kept w w' S) (hS : ∀ b, LockBlocks N v hs qs b → ¬ S b) : LocksOwn w' base N v K H Q hs qs :=
  ⟨hk.own L.row (fun b e => hS b (.inl e)), fun i hi => hk.own (L.held i hi) (fun b e => hS b (.inr ⟨i, hi, .inl e⟩)), fun i hi => hk.own (L.queue i hi) (fun b e => hS b (.inr ⟨i, hi, .inr e⟩)), L.hh, L.hq, L.qq⟩
/-- Locks and a list of numbers lie apart. -/
theorem LocksOwn.ints_apart {w : World} {base N bi n : Nat} {v vi : Value} {xs : List Value} {K : Nat → Int} {H Q : Nat → Line} {hs qs : Nat → Value} (L : LocksOwn w base N v K H Q hs qs) (ho : w.ownsRow bi 3 1 vi n xs) : ∀ b, LockBlocks N v hs qs b → vi.ownBlock ≠ some b := by
  rintro b (e | ⟨i, hi, e | e⟩)
  · exact own_apart L.row ho (by decide) b e
  · exact own_apart (L.held i hi) ho (by decide) b e
  · exact own_apart (L.queue i hi) ho (by decide) b e
/-- Locks in rows of their own, told by a list. -/
def LocksL (w : World) (base : Nat) (v : Value) (ls : List LockW) : Prop := ∃ hs qs, LocksOwn w base ls.length v (keyF ls) (heldF ls) (queueF ls) hs qs
theorem LocksL.nil (w : World) (base : Nat) : LocksL w base (.slice none 0 0) [] := ⟨fun _ => .slice none 0 0, fun _ => .slice none 0 0, LocksOwn.nil _ _ _ _ _ _ _⟩
theorem LocksL.below {w w' : World} {base : Nat} {v : Value} {ls : List LockW} (L : LocksL w base v ls) (hb : Below w.heap.size w w') : LocksL w' base v ls := by
  obtain ⟨hs, qs, h⟩ := L
  exact ⟨hs, qs, h.below hb⟩
theorem LocksOwn.base {w : World} {base base' N : Nat} {v : Value} {K : Nat → Int} {H Q : Nat → Line} {hs qs : Nat → Value} (L : LocksOwn w base N v K H Q hs qs) (hb : base' ≤ base) : LocksOwn w base' N v K H Q hs qs :=
  ⟨own_base L.row hb, fun i hi => own_base (L.held i hi) hb, fun i hi => own_base (L.queue i hi) hb, L.hh, L.hq, L.qq⟩
theorem LocksL.base {w : World} {base base' : Nat} {v : Value} {ls : List LockW} (L : LocksL w base v ls) (hb : base' ≤ base) : LocksL w base' v ls := by
  obtain ⟨hs, qs, h⟩ := L
  exact ⟨hs, qs, h.base hb⟩
/-- Locks as a list. -/
def locksP (N : Nat) (K : Nat → Int) (H Q : Nat → Line) : List LockW := (List.range N).map (fun i => (K i, asksTo (H i) (H i).n, asksTo (Q i) (Q i).n))
theorem locksP_get {N : Nat} (K : Nat → Int) (H Q : Nat → Line) {i : Nat} (hi : i < N) : (locksP N K H Q).getD i (0, [], []) = (K i, asksTo (H i) (H i).n, asksTo (Q i) (Q i).n) := by
  simp [locksP, List.getD, List.getElem?_range hi]
theorem LocksOwn.told {w : World} {base N : Nat} {v : Value} {K : Nat → Int} {H Q : Nat → Line} {hs qs : Nat → Value} (L : LocksOwn w base N v K H Q hs qs) : LocksL w base v (locksP N K H Q) := by
  have e : (locksP N K H Q).length = N := by simp [locksP]
  unfold LocksL
  rw [e]
  refine ⟨hs, qs, L.congr (fun i hi => ?_) (fun i hi => ?_) (fun i hi => ?_)⟩
  · unfold keyF; rw [locksP_get K H Q hi]
  · unfold heldF; rw [locksP_get K H Q hi, askList_lineOf, askList_asks]; exact ⟨(asksTo_length _ _).symm, rfl⟩
  · unfold queueF; rw [locksP_get K H Q hi, askList_lineOf, askList_asks]; exact ⟨(asksTo_length _ _).symm, rfl⟩
theorem LocksOwn.at_ {w : World} {base N c : Nat} {ao : Option Addr} {K : Nat → Int} {H Q : Nat → Line} {hs qs : Nat → Value} (L : LocksOwn w base N (.slice ao N c) K H Q hs qs) : LocksAt w ao N K H Q := by
  intro k hk
  obtain ⟨g, rfl, _, _⟩ := own_addr L.row (by omega)
  have c0 := own_cell L.row (k * 3) (by omega) rfl
  have c1 := own_cell L.row (k * 3 + 1) (by omega) rfl
  have c2 := own_cell L.row (k * 3 + 2) (by omega) rfl
  rw [lockCell_0] at c0
  rw [lockCell_1] at c1
  rw [lockCell_2] at c2
  have oh := L.held k hk
  have oq := L.queue k hk
  obtain ⟨ha, hc, eh, h1, h2, h3⟩ := own_form oh
  obtain ⟨qa, qc, eq, q1, q2, q3⟩ := own_form oq
  rw [eh] at c1 oh
  rw [eq] at c2 oq
  unfold maxLen at h2 q2
  exact ⟨g, 0, ha, hc, qa, qc, rfl, by rw [Nat.zero_add]; exact c0, by rw [Nat.zero_add]; exact c1, by rw [Nat.zero_add]; exact c2, line_of_own oh, line_of_own oq, ⟨h1, by omega, h3⟩, ⟨q1, by omega, q3⟩⟩

/-- What LeaveLocks answers. -/
def LeaveAns (N : Nat) (K : Nat → Int) (H Q : Nat → Line) (x : Int) (ls : List LockW) (es : List Int) (code : Int) : Prop :=
  (¬ GoodL N K H Q → ls = [] ∧ es = [] ∧ code = 1) ∧ (GoodL N K H Q → ¬ isTask x → ls = locksP N K H Q ∧ es = [] ∧ code = 2) ∧
  (GoodL N K H Q → isTask x → ls = leaveTo K H Q x N ∧ (Strict es ∧ ∀ y, y ∈ es ↔ y ∈ entTo H Q x N) ∧ code = 0)
theorem leaveAns_one {N : Nat} {K : Nat → Int} {H Q : Nat → Line} {x : Int} {ls ls' : List LockW} {es es' : List Int} {code code' : Int} (h : LeaveAns N K H Q x ls es code) (h' : LeaveAns N K H Q x ls' es' code') : ls' = ls ∧ es' = es ∧ code' = code := by
  by_cases g : GoodL N K H Q
  · by_cases t : isTask x
    · obtain ⟨rfl, h1, rfl⟩ := h.2.2 g t
      obtain ⟨rfl, h2, rfl⟩ := h'.2.2 g t
      exact ⟨rfl, strict_one h2.1 h1.1 (fun y => (h2.2 y).trans (h1.2 y).symm), rfl⟩
    · obtain ⟨rfl, rfl, rfl⟩ := h.2.1 g t
      obtain ⟨rfl, rfl, rfl⟩ := h'.2.1 g t
      exact ⟨rfl, rfl, rfl⟩
  · obtain ⟨rfl, rfl, rfl⟩ := h.1 g
    obtain ⟨rfl, rfl, rfl⟩ := h'.1 g
    exact ⟨rfl, rfl, rfl⟩
/-- All lines of a list are short. -/
def ShortL (ls : List LockW) (B : Nat) : Prop := ∀ a ∈ ls, a.2.1.length ≤ B ∧ a.2.2.length ≤ B
theorem ShortL.to {ls : List LockW} {B : Nat} (h : ShortL ls B) : ShortTo ls.length (heldF ls) (queueF ls) B := by
  intro i hi
  unfold heldF queueF lineOf
  have e : ls.getD i (0, [], []) = ls[i] := by simp [List.getD, List.getElem?_eq_getElem hi]
  rw [e]
  exact h _ (List.getElem_mem hi)
theorem locksP_short {N : Nat} {K : Nat → Int} {H Q : Nat → Line} {B : Nat} (h : ShortTo N H Q B) : ShortL (locksP N K H Q) B := by
  intro a ha
  obtain ⟨i, hi, rfl⟩ := List.mem_map.1 ha
  have hi' : i < N := by simpa using hi
  simp only [asksTo_length]
  exact h i hi'
theorem leaveTo_short {K : Nat → Int} {H Q : Nat → Line} {x : Int} {B : Nat} : ∀ k, ShortTo k H Q B → ShortL (leaveTo K H Q x k) (2 * B) := by
  intro k
  induction k with
  | zero => intro _ a ha; cases ha
  | succ k ih =>
    intro h
    have ih' := ih (fun i hi => h i (by omega))
    by_cases e : (leftOf H Q x k).1.length = 0
    · rw [leaveTo_no e]; exact ih'
    · rw [leaveTo_yes e]
      intro a ha
      rcases List.mem_append.1 ha with ha | ha
      · exact ih' a ha
      · simp only [List.mem_singleton] at ha
        subst ha
        have hl := (letP_len (lessTo (Q k) x (Q k).n) (lessTo (H k) x (H k).n)).1
        have h1 := lessTo_length (H k) x (H k).n
        have h2 := lessTo_length (Q k) x (Q k).n
        have h3 := h k (by omega)
        have e1 : leftOf H Q x k = letP (lessTo (H k) x (H k).n) (lessTo (Q k) x (Q k).n) := rfl
        rw [← e1] at hl
        exact ⟨by show (leftOf H Q x k).1.length ≤ _; omega, by show (leftOf H Q x k).2.1.length ≤ _; omega⟩
theorem good_lines {N : Nat} {K : Nat → Int} {H Q : Nat → Line} (hg : GoodI N K H Q) {i : Nat} (hi : i < N) : (H i).n + (Q i).n ≤ 12 := by
  have h := few_tasks (tasks (catLine (H i) (Q i) (Q i).n) ((H i).n + (Q i).n)) ?_ ?_
  · simpa [tasks] using h
  · refine List.pairwise_map.2 (List.Pairwise.imp_of_mem (fun {a b} ha hb hab => ?_) List.pairwise_lt_range)
    exact cat_apart hg hi (Nat.le_refl _) a b hab (by simpa using hb)
  · intro x hx
    obtain ⟨a, ha, rfl⟩ := List.mem_map.1 hx
    exact cat_tasks hg hi (Nat.le_refl _) a (by simpa using ha)
/-- Nothing in an answer is long. -/
theorem leaveAns_short {N : Nat} {K : Nat → Int} {H Q : Nat → Line} {x : Int} {ls : List LockW} {es : List Int} {code : Int} (h : LeaveAns N K H Q x ls es code) : ls.length ≤ 60 ∧ ShortL ls 24 ∧ es.length ≤ 12 := by
  by_cases g : GoodL N K H Q
  · have hs : ShortTo N H Q 12 := fun i hi => by have := good_lines ((goodL_iff N K H Q).1 g) hi; omega
    by_cases t : isTask x
    · obtain ⟨rfl, h1, _⟩ := h.2.2 g t
      exact ⟨Nat.le_trans (leaveTo_length K H Q x N) g.1, leaveTo_short (K := K) (x := x) N hs, few_tasks _ (strict_nodup h1.1) (fun y hy => (entTo_good g N (Nat.le_refl _)).2 y ((h1.2 y).1 hy))⟩
    · obtain ⟨rfl, rfl, _⟩ := h.2.1 g t
      refine ⟨by simp [locksP]; exact g.1, fun a ha => ?_, Nat.zero_le _⟩
      have := locksP_short (K := K) hs a ha
      omega
  · obtain ⟨rfl, rfl, _⟩ := h.1 g
    exact ⟨Nat.zero_le _, (by intro a ha; simp at ha), Nat.zero_le _⟩

end Go.Proofs.Ytompknfmlnlnfaa
