/-
  OWN TEXT: own locks with one more lock, or with another line.
-/
import Derived.Test.YtompknfmlnlnfaaPlainAk
import Derived.Test.YtompknfmlnlnfaaInsK
namespace Go.Proofs.Ytompknfmlnlnfaa
open Go.RowKit

def shF (p i : Nat) : Nat := if i < p then i else i - 1
theorem insF_ne {α : Type} {f : Nat → α} {p : Nat} {y : α} {i : Nat} (h : i ≠ p) : insF f p y i = f (shF p i) := by
  unfold insF shF
  by_cases h1 : i < p
  · rw [if_pos h1, if_pos h1]
  · rw [if_neg h1, if_neg h, if_neg h1]
theorem shF_lt {p i N : Nat} (hp : p ≤ N) (hi : i < N + 1) (h : i ≠ p) : shF p i < N := by unfold shF; split <;> omega
theorem shF_inj {p i j : Nat} (hi : i ≠ p) (hj : j ≠ p) (h : i ≠ j) : shF p i ≠ shF p j := by unfold shF; split <;> split <;> omega
theorem nil_block (b : Nat) : (Value.slice none 0 0).ownBlock ≠ some b := by simp [Value.ownBlock]

/-- One lock more at its place. -/
theorem LocksOwn.ins {w w' : World} {base N c p : Nat} {ao : Option Addr} {v' hv : Value} {key : Int} {l : Line} {K : Nat → Int} {H Q : Nat → Line} {hs qs : Nat → Value} (L : LocksOwn w base N (.slice ao N c) K H Q hs qs) (hp : p ≤ N)
    (h1 : w.ownsRow base 65 2 hv l.n (askList l)) (hfar : ∀ b, hv.ownBlock = some b → ¬ LockBlocks N (.slice ao N c) hs qs b) (hg : w.grownBy w' (Value.slice ao N c).ownBlock)
    (ho : w'.ownsRow base 68 3 v' (N + 1) (insK ((List.range (N * 3)).map (lockCell K hs qs)) p key hv (.slice none 0 0))) :
    LocksOwn w' base (N + 1) v' (insF K p key) (insF H p l) (insF Q p (lineOf [])) (insF hs p hv) (insF qs p (.slice none 0 0)) := by
  have hk := kept_by hg
  have far : ∀ {u : Value} {m : Line}, w.ownsRow base 65 2 u m.n (askList m) → w'.ownsRow base 65 2 u m.n (askList m) := fun h => hk.own h (fun g e1 e2 => own_apart L.row h (by decide) g e2 e1)
  refine ⟨by rw [lockRow_ins K hs qs N p key hv _ hp]; exact ho, fun i hi => ?_, fun i hi => ?_, fun i j hi hj hne b e1 e2 => ?_, fun i j hi hj b e1 e2 => ?_, fun i j hi hj hne b e1 e2 => ?_⟩
  · by_cases e : i = p
    · subst e; rw [insF_at, insF_at]; exact far h1
    · rw [insF_ne e, insF_ne e]; exact far (L.held _ (shF_lt hp hi e))
  · by_cases e : i = p
    · subst e; rw [insF_at, insF_at]; exact ⟨rfl, .inl ⟨rfl, rfl⟩⟩
    · rw [insF_ne e, insF_ne e]; exact far (L.queue _ (shF_lt hp hi e))
  · by_cases ei : i = p
    · subst ei
      rw [insF_at] at e1
      have ej : j ≠ i := fun h => hne h.symm
      rw [insF_ne ej] at e2
      exact hfar b e1 (.inr ⟨_, shF_lt hp hj ej, .inl e2⟩)
    · rw [insF_ne ei] at e1
      by_cases ej : j = p
      · subst ej; rw [insF_at] at e2; exact hfar b e2 (.inr ⟨_, shF_lt hp hi ei, .inl e1⟩)
      · rw [insF_ne ej] at e2; exact L.hh _ _ (shF_lt hp hi ei) (shF_lt hp hj ej) (shF_inj ei ej hne) b e1 e2
  · by_cases ej : j = p
    · subst ej; rw [insF_at] at e2; exact nil_block b e2
    · rw [insF_ne ej] at e2
      by_cases ei : i = p
      · subst ei; rw [insF_at] at e1; exact hfar b e1 (.inr ⟨_, shF_lt hp hj ej, .inr e2⟩)
      · rw [insF_ne ei] at e1; exact L.hq _ _ (shF_lt hp hi ei) (shF_lt hp hj ej) b e1 e2
  · by_cases ei : i = p
    · subst ei; rw [insF_at] at e1; exact nil_block b e1
    · rw [insF_ne ei] at e1
      by_cases ej : j = p
      · subst ej; rw [insF_at] at e2; exact nil_block b e2
      · rw [insF_ne ej] at e2; exact L.qq _ _ (shF_lt hp hi ei) (shF_lt hp hj ej) (shF_inj ei ej hne) b e1 e2

/-- Another line of those that hold lock p. -/
theorem LocksOwn.putHeld {w w1 : World} {base N g c p : Nat} {v2 : Value} {l : Line} {K : Nat → Int} {H Q : Nat → Line} {hs qs : Nat → Value} (L : LocksOwn w base N (.slice (some ⟨g, 0, none⟩) N c) K H Q hs qs) (hp : p < N)
    (hk : Kept w w1 (fun b => (hs p).ownBlock = some b)) (ho : w1.ownsRow base 65 2 v2 l.n (askList l)) (hat : ∀ b, v2.ownBlock = some b → (hs p).ownBlock = some b ∨ w.heap.size ≤ b) :
    LocksOwn (w1.setCell ⟨g, p * 3 + 1, none⟩ v2) base N (.slice (some ⟨g, 0, none⟩) N c) K (setF H p l) Q (setF hs p v2) qs := by
  have hr1 := hk.own L.row (fun b e1 e2 => own_apart L.row (L.held p hp) (by decide) b e1 e2)
  have hset : Kept w1 (w1.setCell ⟨g, p * 3 + 1, none⟩ v2) (fun b => b = g) := (Kept.refl w1 (fun b => b = g)).set (a := ⟨g, p * 3 + 1, none⟩) rfl _
  have go : ∀ {u : Value} {m : Line}, w1.ownsRow base 65 2 u m.n (askList m) → (w1.setCell ⟨g, p * 3 + 1, none⟩ v2).ownsRow base 65 2 u m.n (askList m) := fun h => hset.own h (fun b e1 e2 => own_apart hr1 h (by decide) g rfl (e2 ▸ e1))
  have hold : ∀ b, (hs p).ownBlock = some b → b < w.heap.size := fun b e => ((L.held p hp).lt b e).2
  have new : ∀ b, v2.ownBlock = some b → ∀ j, j < N → j ≠ p → (hs j).ownBlock ≠ some b := fun b e j hj hne e2 => by
    rcases hat b e with h | h
    · exact L.hh p j hp hj (fun h => hne h.symm) b h e2
    · have := ((L.held j hj).lt b e2).2; omega
  have newq : ∀ b, v2.ownBlock = some b → ∀ j, j < N → (qs j).ownBlock ≠ some b := fun b e j hj e2 => by
    rcases hat b e with h | h
    · exact L.hq p j hp hj b h e2
    · have := ((L.queue j hj).lt b e2).2; omega
  refine ⟨own_congr (own_store hr1 (p * 3 + 1) v2) (fun j _ => ?_), fun i hi => ?_, fun i hi => ?_, fun i j hi hj hne b e1 e2 => ?_, fun i j hi hj b e1 e2 => ?_, L.qq⟩
  · by_cases e : j = p * 3 + 1
    · subst e; rw [if_pos rfl, lockCell_1, setF_at]
    · rw [if_neg e]
      unfold lockCell
      by_cases e0 : j % 3 = 0
      · rw [if_pos e0, if_pos e0]
      · by_cases e1 : j % 3 = 1
        · rw [if_neg e0, if_neg e0, if_pos e1, if_pos e1, setF_ne (show j / 3 ≠ p by omega)]
        · rw [if_neg e0, if_neg e0, if_neg e1, if_neg e1]
  · by_cases e : i = p
    · subst e; rw [setF_at, setF_at]; exact go ho
    · rw [setF_ne e, setF_ne e]; exact go (hk.own (L.held i hi) (fun b e1 e2 => L.hh i p hi hp e b e1 e2))
  · exact go (hk.own (L.queue i hi) (fun b e1 e2 => L.hq p i hp hi b e2 e1))
  · by_cases ei : i = p
    · subst ei
      rw [setF_at] at e1
      rw [setF_ne (fun h => hne h.symm)] at e2
      exact new b e1 j hj (fun h => hne h.symm) e2
    · rw [setF_ne ei] at e1
      by_cases ej : j = p
      · subst ej; rw [setF_at] at e2; exact new b e2 i hi ei e1
      · rw [setF_ne ej] at e2; exact L.hh i j hi hj hne b e1 e2
  · by_cases ei : i = p
    · subst ei; rw [setF_at] at e1; exact newq b e1 j hj e2
    · rw [setF_ne ei] at e1; exact L.hq i j hi hj b e1 e2
/-- Another line of those that wait at lock p, in new memory. -/
theorem LocksOwn.putQueue {w w1 : World} {base N g c p : Nat} {v2 : Value} {l : Line} {K : Nat → Int} {H Q : Nat → Line} {hs qs : Nat → Value} (L : LocksOwn w base N (.slice (some ⟨g, 0, none⟩) N c) K H Q hs qs)
    (hk : Below w.heap.size w w1) (ho : w1.ownsRow w.heap.size 65 2 v2 l.n (askList l)) (hb : base ≤ w.heap.size) :
    LocksOwn (w1.setCell ⟨g, p * 3 + 2, none⟩ v2) base N (.slice (some ⟨g, 0, none⟩) N c) K H (setF Q p l) hs (setF qs p v2) := by
  have hr1 := own_below hk L.row
  have hset : Kept w1 (w1.setCell ⟨g, p * 3 + 2, none⟩ v2) (fun b => b = g) := (Kept.refl w1 (fun b => b = g)).set (a := ⟨g, p * 3 + 2, none⟩) rfl _
  have go : ∀ {u : Value} {m : Line}, w1.ownsRow base 65 2 u m.n (askList m) → (w1.setCell ⟨g, p * 3 + 2, none⟩ v2).ownsRow base 65 2 u m.n (askList m) := fun h => hset.own h (fun b e1 e2 => own_apart hr1 h (by decide) g rfl (e2 ▸ e1))
  have newh : ∀ b, v2.ownBlock = some b → ∀ j, j < N → (hs j).ownBlock ≠ some b := fun b e j hj e2 => by
    have := ((L.held j hj).lt b e2).2; have := (ho.lt b e).1; omega
  have newq : ∀ b, v2.ownBlock = some b → ∀ j, j < N → (qs j).ownBlock ≠ some b := fun b e j hj e2 => by
    have := ((L.queue j hj).lt b e2).2; have := (ho.lt b e).1; omega
  refine ⟨own_congr (own_store hr1 (p * 3 + 2) v2) (fun j _ => ?_), fun i hi => go (own_below hk (L.held i hi)), fun i hi => ?_, L.hh, fun i j hi hj b e1 e2 => ?_, fun i j hi hj hne b e1 e2 => ?_⟩
  · by_cases e : j = p * 3 + 2
    · subst e; rw [if_pos rfl, lockCell_2, setF_at]
    · rw [if_neg e]
      unfold lockCell
      by_cases e0 : j % 3 = 0
      · rw [if_pos e0, if_pos e0]
      · by_cases e1 : j % 3 = 1
        · rw [if_neg e0, if_neg e0, if_pos e1, if_pos e1]
        · rw [if_neg e0, if_neg e0, if_neg e1, if_neg e1, setF_ne (show j / 3 ≠ p by omega)]
  · by_cases e : i = p
    · subst e; rw [setF_at, setF_at]; exact go (own_base ho hb)
    · rw [setF_ne e, setF_ne e]; exact go (own_below hk (L.queue i hi))
  · by_cases ej : j = p
    · subst ej; rw [setF_at] at e2; exact newh b e2 i hi e1
    · rw [setF_ne ej] at e2; exact L.hq i j hi hj b e1 e2
  · by_cases ei : i = p
    · subst ei
      rw [setF_at] at e1
      rw [setF_ne (fun h => hne h.symm)] at e2
      exact newq b e1 j hj e2
    · rw [setF_ne ei] at e1
      by_cases ej : j = p
      · subst ej; rw [setF_at] at e2; exact newq b e2 i hi e1
      · rw [setF_ne ej] at e2; exact L.qq i j hi hj hne b e1 e2
theorem lockRow_one {w : World} {base N : Nat} {v : Value} {K : Nat → Int} {H Q : Nat → Line} {hs qs : Nat → Value} (L : LocksOwn w base N v K H Q hs qs) : ∀ u ∈ (List.range (N * 3)).map (lockCell K hs qs), u.oneCell' = true := by
  intro u hu
  obtain ⟨j, hj, rfl⟩ := List.mem_map.1 hu
  have hj' : j < N * 3 := by simpa using hj
  unfold lockCell
  split
  · rfl
  · split
    · obtain ⟨a, c, e, _⟩ := own_form (L.held (j / 3) (by omega)); rw [e]; rfl
    · obtain ⟨a, c, e, _⟩ := own_form (L.queue (j / 3) (by omega)); rw [e]; rfl

end Go.Proofs.Ytompknfmlnlnfaa
