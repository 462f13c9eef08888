/-
  OWN TEXT: locks that the specification makes: an own row of locks whose lines are read.
-/
import Derived.Test.YtompknfmlnlnfaaKitLv
import Derived.Test.YtompknfmlnlnfaaKit3
namespace Go.Proofs.Ytompknfmlnlnfaa
open Go.RowKit

/-- A line that is read: empty, or an own row. -/
def LineV (w : World) (base : Nat) (v : Value) (l : Line) : Prop := ∃ ao c, v = .slice ao l.n c ∧ SliceOk ao l.n c ∧ (l.n = 0 ∨ w.ownsRow base 65 2 v l.n (askList l))
theorem LineV.base {w : World} {base base' : Nat} {v : Value} {l : Line} (h : LineV w base v l) (hb : base' ≤ base) : LineV w base' v l := by
  obtain ⟨ao, c, e, s, h⟩ := h
  exact ⟨ao, c, e, s, h.imp_right (fun h => own_base h hb)⟩
theorem LineV.kept {w w' : World} {base : Nat} {v : Value} {l : Line} {S : Nat → Prop} (h : LineV w base v l) (hk : Kept w w' S) (hS : ∀ g, w.ownsRow base 65 2 v l.n (askList l) → v.ownBlock = some g → ¬ S g) : LineV w' base v l := by
  obtain ⟨ao, c, e, s, h⟩ := h
  exact ⟨ao, c, e, s, h.imp_right (fun h => hk.own h (fun g hg => hS g h hg))⟩
theorem LineV.below {w w' : World} {base : Nat} {v : Value} {l : Line} (h : LineV w base v l) (hb : Below w.heap.size w w') : LineV w' base v l := h.kept (Kept.of_below (S := fun _ => False) hb) (fun _ _ _ h => h)
theorem LineV.of_own {w : World} {base n : Nat} {v : Value} {l : Line} (hn : l.n = n) (h : w.ownsRow base 65 2 v n (askList l)) : LineV w base v l := by
  subst hn
  obtain ⟨ao, c, e, h1, h2, h3⟩ := own_form h
  exact ⟨ao, c, e, ⟨h1, by unfold maxLen at h2; omega, h3⟩, .inr h⟩
theorem LineV.at_ {w : World} {base : Nat} {v : Value} {l : Line} (h : LineV w base v l) : ∃ ao c, v = .slice ao l.n c ∧ SliceOk ao l.n c ∧ LineAt w ao l := by
  obtain ⟨ao, c, e, s, h⟩ := h
  refine ⟨ao, c, e, s, ?_⟩
  rcases h with h | h
  · intro k hk; omega
  · rw [e] at h; exact line_of_own h
theorem LineV.congr {w : World} {base : Nat} {v : Value} {l l' : Line} (h : LineV w base v l) (hn : l.n = l'.n) (ha : askList l = askList l') : LineV w base v l' := by
  unfold LineV at h ⊢
  rwa [hn, ha] at h
/-- Locks of the specification. -/
structure LocksSp (w : World) (base N : Nat) (v : Value) (K : Nat → Int) (H Q : Nat → Line) (hs qs : Nat → Value) : Prop where
  row : w.ownsRow base 68 3 v N ((List.range (N * 3)).map (lockCell K hs qs))
  held : ∀ i, i < N → LineV w base (hs i) (H i)
  queue : ∀ i, i < N → LineV w base (qs i) (Q i)
theorem LocksSp.below {w w' : World} {base N : Nat} {v : Value} {K : Nat → Int} {H Q : Nat → Line} {hs qs : Nat → Value} (L : LocksSp w base N v K H Q hs qs) (hb : Below w.heap.size w w') : LocksSp w' base N v K H Q hs qs :=
  ⟨own_below hb L.row, fun i hi => (L.held i hi).below hb, fun i hi => (L.queue i hi).below hb⟩
theorem LocksSp.nil (w : World) (base : Nat) (K : Nat → Int) (H Q : Nat → Line) (hs qs : Nat → Value) : LocksSp w base 0 (.slice none 0 0) K H Q hs qs :=
  ⟨⟨rfl, .inl ⟨rfl, rfl⟩⟩, fun i hi => by omega, fun i hi => by omega⟩
theorem LocksSp.congr {w : World} {base N : Nat} {v : Value} {K K' : Nat → Int} {H H' Q Q' : Nat → Line} {hs qs : Nat → Value} (L : LocksSp w base N v K H Q hs qs) (hK : ∀ i, i < N → K i = K' i)
    (hH : ∀ i, i < N → (H i).n = (H' i).n ∧ askList (H i) = askList (H' i)) (hQ : ∀ i, i < N → (Q i).n = (Q' i).n ∧ askList (Q i) = askList (Q' i)) : LocksSp w base N v K' H' Q' hs qs := by
  refine ⟨own_congr L.row (fun j hj => ?_), fun i hi => (L.held i hi).congr (hH i hi).1 (hH i hi).2, fun i hi => (L.queue i hi).congr (hQ i hi).1 (hQ i hi).2⟩
  unfold lockCell
  rw [hK (j / 3) (by omega)]
theorem LocksSp.snoc {w w' : World} {base k : Nat} {v v' hv qv : Value} {K : Nat → Int} {H Q : Nat → Line} {hs qs : Nat → Value} (L : LocksSp w base k v K H Q hs qs)
    (h1 : LineV w base hv (H k)) (h2 : LineV w base qv (Q k)) (hg : w.grownBy w' v.ownBlock)
    (ho : w'.ownsRow base 68 3 v' (k + 1) ((List.range (k * 3)).map (lockCell K hs qs) ++ [.int .i64 (K k), hv, qv])) :
    LocksSp w' base (k + 1) v' K H Q (atL hs k hv) (atL qs k qv) := by
  have hk := kept_by hg
  have far : ∀ {u : Value} {l : Line}, LineV w base u l → LineV w' base u l := fun h => h.kept hk (fun g o e1 e2 => own_apart L.row o (by decide) g e2 e1)
  refine ⟨by rw [lockRow_snoc]; exact ho, fun i hi => ?_, fun i hi => ?_⟩
  · by_cases e : i = k
    · subst e; rw [atL_at]; exact far h1
    · rw [atL_ne _ _ _ _ e]; exact far (L.held i (by omega))
  · by_cases e : i = k
    · subst e; rw [atL_at]; exact far h2
    · rw [atL_ne _ _ _ _ e]; exact far (L.queue i (by omega))
theorem LocksSp.at_ {w : World} {base N c : Nat} {ao : Option Addr} {K : Nat → Int} {H Q : Nat → Line} {hs qs : Nat → Value} (L : LocksSp w base N (.slice ao N c) K H Q hs qs) : LocksAt w ao N K H Q := by
  intro k hk
  obtain ⟨g, rfl, _, _⟩ := own_addr L.row (by omega)
  have c0 := own_cell L.row (k * 3) (by omega) rfl
  have c1 := own_cell L.row (k * 3 + 1) (by omega) rfl
  have c2 := own_cell L.row (k * 3 + 2) (by omega) rfl
  rw [lockCell_0] at c0
  rw [lockCell_1] at c1
  rw [lockCell_2] at c2
  obtain ⟨ha, hc, eh, h1, h2⟩ := (L.held k hk).at_
  obtain ⟨qa, qc, eq, q1, q2⟩ := (L.queue k hk).at_
  rw [eh] at c1
  rw [eq] at c2
  exact ⟨g, 0, ha, hc, qa, qc, rfl, by rw [Nat.zero_add]; exact c0, by rw [Nat.zero_add]; exact c1, by rw [Nat.zero_add]; exact c2, h2, q2, h1, q1⟩
/-- Told by a list. -/
def LocksSL (w : World) (base : Nat) (v : Value) (ls : List LockW) : Prop := ∃ hs qs, LocksSp w base ls.length v (keyF ls) (heldF ls) (queueF ls) hs qs
theorem LocksSp.told {w : World} {base N : Nat} {v : Value} {K : Nat → Int} {H Q : Nat → Line} {hs qs : Nat → Value} (L : LocksSp w base N v K H Q hs qs) : LocksSL w base v (locksP N K H Q) := by
  have e : (locksP N K H Q).length = N := by simp [locksP]
  unfold LocksSL
  rw [e]
  refine ⟨hs, qs, L.congr (fun i hi => ?_) (fun i hi => ?_) (fun i hi => ?_)⟩
  · unfold keyF; rw [locksP_get K H Q hi]
  · unfold heldF; rw [locksP_get K H Q hi, askList_lineOf, askList_asks]; exact ⟨(asksTo_length _ _).symm, rfl⟩
  · unfold queueF; rw [locksP_get K H Q hi, askList_lineOf, askList_asks]; exact ⟨(asksTo_length _ _).symm, rfl⟩
/-- One lock more behind those of a list. -/
theorem LocksSp.snocL {w w' : World} {base : Nat} {v v' hv qv : Value} {ls : List LockW} {key : Int} {h q : List (Int × Bool)} {hs qs : Nat → Value} (L : LocksSp w base ls.length v (keyF ls) (heldF ls) (queueF ls) hs qs)
    (h1 : LineV w base hv (lineOf h)) (h2 : LineV w base qv (lineOf q)) (hg : w.grownBy w' v.ownBlock)
    (ho : w'.ownsRow base 68 3 v' (ls.length + 1) ((List.range (ls.length * 3)).map (lockCell (keyF ls) hs qs) ++ [.int .i64 key, hv, qv])) :
    LocksSp w' base (ls ++ [(key, h, q)]).length v' (keyF (ls ++ [(key, h, q)])) (heldF (ls ++ [(key, h, q)])) (queueF (ls ++ [(key, h, q)])) (atL hs ls.length hv) (atL qs ls.length qv) := by
  have L2 : LocksSp w base ls.length v (keyF (ls ++ [(key, h, q)])) (heldF (ls ++ [(key, h, q)])) (queueF (ls ++ [(key, h, q)])) hs qs :=
    L.congr (fun i hi => by unfold keyF; rw [getD_left hi]) (fun i hi => by unfold heldF; rw [getD_left hi]; exact ⟨rfl, rfl⟩) (fun i hi => by unfold queueF; rw [getD_left hi]; exact ⟨rfl, rfl⟩)
  have eK : keyF (ls ++ [(key, h, q)]) ls.length = key := by unfold keyF; rw [getD_last]
  have eH : heldF (ls ++ [(key, h, q)]) ls.length = lineOf h := by unfold heldF; rw [getD_last]
  have eQ : queueF (ls ++ [(key, h, q)]) ls.length = lineOf q := by unfold queueF; rw [getD_last]
  have e3 : (List.range (ls.length * 3)).map (lockCell (keyF ls) hs qs) = (List.range (ls.length * 3)).map (lockCell (keyF (ls ++ [(key, h, q)])) hs qs) := by
    refine List.map_congr_left fun j hj => ?_
    have hj' : j < ls.length * 3 := by simpa using hj
    unfold lockCell keyF
    rw [getD_left (show j / 3 < ls.length by omega)]
  rw [show (ls ++ [(key, h, q)]).length = ls.length + 1 by simp]
  refine L2.snoc ?_ ?_ hg ?_
  · rw [eH]; exact h1
  · rw [eQ]; exact h2
  · rw [eK, ← e3]; exact ho

end Go.Proofs.Ytompknfmlnlnfaa
