/-
  OWN TEXT: legs that fit, by the sailings' places: when a way goes on by a sailing, in plain words.
-/
import Derived.Test.YtaalhmaacaahhahPlainX
import Derived.Test.YtaalhmaacaahhahPlainQ
namespace Go.Proofs.Ytaalhmaacaahhah
open Go.RowKit

theorem findIx_id {N : Nat} {S : Nat → Sail} (hr : Rising N S) {k : Nat} (hk : k < N) : findIx S (S k).id N = k :=
  findIx_is hk rfl (fun j hj => by have := hr j k hj hk; omega)
theorem getI_ids {S : Nat → Sail} {p : List Nat} {i : Nat} (hi : i < p.length) : getI (ids S p) i = (S (p[i]'hi)).id := by
  unfold getI ids
  simp [List.getElem?_eq_getElem hi]
/-- The ways that fit, told by the sailings' places. -/
def Steps (S : Nat → Sail) (p : List Nat) : Prop := ∀ i (hi : i < p.length) (_ : 0 < i), (S (p[i - 1]'(by omega))).dst = (S (p[i]'hi)).fr ∧ (S (p[i - 1]'(by omega))).arr ≤ (S (p[i]'hi)).dep
theorem legs_steps {N : Nat} {S : Nat → Sail} (hr : Rising N S) {p : List Nat} (hp : ∀ k ∈ p, k < N) (h1 : p ≠ []) (h3 : p.length ≤ 3) : LegsOk N S p.length (getI (ids S p)) ↔ Steps S p := by
  have hl : 1 ≤ p.length := by cases p with
    | nil => exact absurd rfl h1
    | cons _ _ => simp
  have fi : ∀ i (hi : i < p.length), findIx S (getI (ids S p) i) N = p[i]'hi := fun i hi => by rw [getI_ids hi]; exact findIx_id hr (hp _ (List.getElem_mem hi))
  constructor
  · rintro ⟨_, _, h⟩ i hi h0
    have := (h i hi).2 h0
    rw [fi i hi, fi (i - 1) (by omega)] at this
    exact this
  · intro h
    refine ⟨hl, h3, fun i hi => ⟨by rw [fi i hi]; exact hp _ (List.getElem_mem hi), fun h0 => ?_⟩⟩
    rw [fi i hi, fi (i - 1) (by omega)]
    exact h i hi h0
theorem steps_snoc {S : Nat → Sail} {r : List Nat} {k : Nat} (hr : Steps S r) : Steps S (r ++ [k]) ↔ ∀ l, r.getLast? = some l → (S l).dst = (S k).fr ∧ (S l).arr ≤ (S k).dep := by
  constructor
  · intro h l hl
    have hne : r ≠ [] := by intro e; subst e; simp at hl
    have hlen : 0 < r.length := List.length_pos_iff.2 hne
    have := h r.length (by simp) hlen
    rw [List.getLast?_eq_getElem?] at hl
    obtain ⟨h1, e⟩ := List.getElem?_eq_some_iff.1 hl
    simp only [List.getElem_append_left (show r.length - 1 < r.length by omega), List.getElem_append_right (Nat.le_refl r.length), Nat.sub_self, List.getElem_singleton] at this
    rw [e] at this
    exact this
  · intro h i hi h0
    have hi' : i < r.length + 1 := by simpa using hi
    by_cases e : i = r.length
    · subst e
      simp only [List.getElem_append_left (show r.length - 1 < r.length by omega), List.getElem_append_right (Nat.le_refl r.length), Nat.sub_self, List.getElem_singleton]
      refine h _ ?_
      rw [List.getLast?_eq_getElem?, List.getElem?_eq_getElem (by omega)]
    · have h1 : i < r.length := by omega
      simp only [List.getElem_append_left h1, List.getElem_append_left (show i - 1 < r.length by omega)]
      exact hr i h1 h0
theorem path_steps {N : Nat} {S : Nat → Sail} {fr : ByteArray} {t0 : Int} {p : List Nat} (h : Path N S fr t0 p) : Steps S p ∧ ∀ k, p.head? = some k → (S k).fr = fr ∧ t0 ≤ (S k).dep := by
  induction h with
  | nil => exact ⟨fun i hi => absurd hi (Nat.not_lt_zero _), fun k hk => by cases hk⟩
  | @snoc p k hp hk hf ht ih =>
    refine ⟨(steps_snoc ih.1).2 (fun l hl => ?_), fun j hj => ?_⟩
    · unfold placeOf at hf
      unfold timeOf at ht
      rw [hl] at hf ht
      exact ⟨hf.symm, ht⟩
    · cases p with
      | nil =>
        simp at hj
        subst hj
        exact ⟨hf, ht⟩
      | cons a p => exact ih.2 j (by simpa using hj)
/-- When a way goes on by a sailing, as the specification asks it. -/
theorem goes_on {N : Nat} {S : Nat → Sail} {fr : ByteArray} {t0 : Int} (hr : Rising N S) {r : List Nat} {k : Nat} (hp : Path N S fr t0 r) (h2 : r.length ≤ 2) (hk : k < N) :
    Path N S fr t0 (r ++ [k]) ↔ LegsOk N S (r.length + 1) (getI (ids S (r ++ [k]))) ∧ ∀ j, (r ++ [k]).head? = some j → (S j).fr = fr ∧ t0 ≤ (S j).dep := by
  have hall : ∀ j ∈ r ++ [k], j < N := by
    intro j hj
    rcases List.mem_append.1 hj with h | h
    · exact path_lt hp j h
    · simp at h; omega
  have hls := legs_steps hr hall (by simp) (by simp; omega)
  rw [List.length_append, List.length_singleton] at hls
  rw [hls]
  constructor
  · intro h; exact path_steps h
  · rintro ⟨h1, h3⟩
    have hs := (steps_snoc (path_steps hp).1).1 h1
    refine .snoc hp hk ?_ ?_
    · unfold placeOf
      cases hl : r.getLast? with
      | none =>
        have : r = [] := List.getLast?_eq_none_iff.1 hl
        subst this
        exact (h3 k (by simp)).1
      | some l => exact (hs l hl).1.symm
    · unfold timeOf
      cases hl : r.getLast? with
      | none =>
        have : r = [] := List.getLast?_eq_none_iff.1 hl
        subst this
        exact (h3 k (by simp)).2
      | some l => exact (hs l hl).2

end Go.Proofs.Ytaalhmaacaahhah
