/-
  OWN TEXT: what is found by going through all ways, the shorter ones first, and of one length in their order: in plain words.
-/
import Derived.Test.YtaalhmaacaahhahPlainR
namespace Go.Proofs.Ytaalhmaacaahhah
open Go.RowKit

section
variable {N : Nat} {S : Nat → Sail} {fr : ByteArray} {t0 : Int} {tt : ByteArray}
/-- The best of those that were seen. -/
def BestIn (S : Nat → Sail) (fr : ByteArray) (t0 : Int) (tt : ByteArray) (seen : List (List Nat)) : Option (List Nat) → Prop
  | none => ∀ q, q ∈ seen → placeOf S fr q ≠ tt
  | some p => p ∈ seen ∧ placeOf S fr p = tt ∧ ∀ q, q ∈ seen → placeOf S fr q = tt → ¬ Before S t0 q p
theorem bestIn_other {seen : List (List Nat)} {b : Option (List Nat)} {x : List Nat} (h : BestIn S fr t0 tt seen b) (hx : placeOf S fr x ≠ tt) : BestIn S fr t0 tt (seen ++ [x]) b := by
  cases b with
  | none =>
    intro q hq
    rcases List.mem_append.1 hq with hq | hq
    · exact h q hq
    · simp at hq; subst hq; exact hx
  | some p =>
    refine ⟨List.mem_append.2 (.inl h.1), h.2.1, fun q hq hp => ?_⟩
    rcases List.mem_append.1 hq with hq | hq
    · exact h.2.2 q hq hp
    · simp at hq; subst hq; exact absurd hp hx
theorem bestIn_first {seen : List (List Nat)} {x : List Nat} (h : BestIn S fr t0 tt seen none) (hx : placeOf S fr x = tt) : BestIn S fr t0 tt (seen ++ [x]) (some x) := by
  refine ⟨List.mem_append.2 (.inr (by simp)), hx, fun q hq hp => ?_⟩
  rcases List.mem_append.1 hq with hq | hq
  · exact absurd hp (h q hq)
  · simp at hq; subst hq; exact before_irrefl _
theorem bestIn_better {seen : List (List Nat)} {x p : List Nat} (h : BestIn S fr t0 tt seen (some p)) (hx : placeOf S fr x = tt) (ht : timeOf S t0 x < timeOf S t0 p) : BestIn S fr t0 tt (seen ++ [x]) (some x) := by
  refine ⟨List.mem_append.2 (.inr (by simp)), hx, fun q hq hp hb => ?_⟩
  rcases List.mem_append.1 hq with hq | hq
  · exact h.2.2 q hq hp (before_trans hb (.inl ht))
  · simp at hq; subst hq; exact before_irrefl _ hb
/-- Ahead in the order in which they are gone through. -/
def Ahead (q x : List Nat) : Prop := q.length < x.length ∨ (q.length = x.length ∧ lexLt q x)
theorem bestIn_worse {seen : List (List Nat)} {x p : List Nat} (h : BestIn S fr t0 tt seen (some p)) (ha : ∀ q, q ∈ seen → Ahead q x) (ht : ¬ timeOf S t0 x < timeOf S t0 p) : BestIn S fr t0 tt (seen ++ [x]) (some p) := by
  refine ⟨List.mem_append.2 (.inl h.1), h.2.1, fun q hq hp hb => ?_⟩
  rcases List.mem_append.1 hq with hq | hq
  · exact h.2.2 q hq hp hb
  · simp at hq
    subst hq
    have h1 := ha p h.1
    rcases hb with hb | ⟨_, hb⟩
    · exact ht hb
    · rcases h1 with h1 | ⟨e, h1⟩
      · rcases hb with hb | ⟨e2, _⟩ <;> omega
      · rcases hb with hb | ⟨e2, hb⟩
        · omega
        · exact lexLt_irrefl _ (lexLt_trans h1 hb)
/-- All ways of n legs, in their order. -/
structure Level (N : Nat) (S : Nat → Sail) (fr : ByteArray) (t0 : Int) (n : Nat) (rows : List (List Nat)) : Prop where
  all : ∀ p, p ∈ rows ↔ Path N S fr t0 p ∧ p.length = n
  rise : rows.Pairwise lexLt
/-- The ways of one leg more, those made so far: from the first i rows all, from row i by the first k sailings. -/
structure LevelTo (N : Nat) (S : Nat → Sail) (fr : ByteArray) (t0 : Int) (n : Nat) (rows : List (List Nat)) (i k : Nat) (next : List (List Nat)) : Prop where
  is : ∀ q, q ∈ next → Path N S fr t0 q ∧ q.length = n + 1
  of : ∀ q, q ∈ next → ∃ j m r, q = r ++ [m] ∧ rows[j]? = some r ∧ (j < i ∨ (j = i ∧ m < k))
  all : ∀ j m r, rows[j]? = some r → (j < i ∨ (j = i ∧ m < k)) → Path N S fr t0 (r ++ [m]) → r ++ [m] ∈ next
  rise : next.Pairwise lexLt
theorem level_zero : Level N S fr t0 0 [[]] :=
  ⟨fun p => ⟨fun h => by simp at h; subst h; exact ⟨.nil, rfl⟩, fun h => by have := List.length_eq_zero_iff.1 h.2; simp [this]⟩, by simp⟩
theorem levelTo_start (n : Nat) (rows : List (List Nat)) : LevelTo N S fr t0 n rows 0 0 [] :=
  ⟨fun q h => (by cases h), fun q h => (by cases h), fun j m r _ h => by omega, by simp⟩
/-- A row is done. -/
theorem levelTo_row {n i : Nat} {rows next : List (List Nat)} (h : LevelTo N S fr t0 n rows i N next) : LevelTo N S fr t0 n rows (i + 1) 0 next :=
  ⟨h.is, fun q hq => by obtain ⟨j, m, r, e, h1, h2⟩ := h.of q hq; exact ⟨j, m, r, e, h1, by omega⟩, fun j m r h1 h2 h3 => h.all j m r h1 (by have := h3.last.2.1; omega) h3, h.rise⟩
/-- A sailing by which row i can't go on. -/
theorem levelTo_skip {n i k : Nat} {rows next : List (List Nat)} (h : LevelTo N S fr t0 n rows i k next) {r : List Nat} (hr : rows[i]? = some r) (hno : ¬ Path N S fr t0 (r ++ [k])) : LevelTo N S fr t0 n rows i (k + 1) next :=
  ⟨h.is, fun q hq => by obtain ⟨j, m, r, e, h1, h2⟩ := h.of q hq; exact ⟨j, m, r, e, h1, by omega⟩, fun j m r' h1 h2 h3 => by
    by_cases e : j = i ∧ m = k
    · obtain ⟨rfl, rfl⟩ := e
      rw [hr] at h1
      cases h1
      exact absurd h3 hno
    · exact h.all j m r' h1 (by omega) h3, h.rise⟩
/-- What was made so far stands ahead of what row i makes by sailing k. -/
theorem levelTo_ahead {n i k : Nat} {rows next : List (List Nat)} (hl : Level N S fr t0 n rows) (h : LevelTo N S fr t0 n rows i k next) {r : List Nat} (hr : rows[i]? = some r) : ∀ q, q ∈ next → lexLt q (r ++ [k]) := by
  intro q hq
  obtain ⟨j, m, r', rfl, h1, h2⟩ := h.of q hq
  rcases h2 with h2 | ⟨rfl, h2⟩
  · have hlt : lexLt r' r := by
      obtain ⟨hj, e1⟩ := List.getElem?_eq_some_iff.1 h1
      obtain ⟨hi, e2⟩ := List.getElem?_eq_some_iff.1 hr
      have := List.pairwise_iff_getElem.1 hl.rise j i hj hi h2
      rw [e1, e2] at this
      exact this
    have l1 := ((hl.all r').1 (List.mem_of_getElem? h1)).2
    have l2 := ((hl.all r).1 (List.mem_of_getElem? hr)).2
    exact lexLt_append _ _ (by omega) hlt
  · rw [hr] at h1
    cases h1
    exact lexLt_same _ _ _ (.inl h2)
/-- A sailing by which row i goes on. -/
theorem levelTo_add {n i k : Nat} {rows next : List (List Nat)} (hl : Level N S fr t0 n rows) (h : LevelTo N S fr t0 n rows i k next) {r : List Nat} (hr : rows[i]? = some r) (hp : Path N S fr t0 (r ++ [k])) : LevelTo N S fr t0 n rows i (k + 1) (next ++ [r ++ [k]]) := by
  have l2 := ((hl.all r).1 (List.mem_of_getElem? hr)).2
  refine ⟨fun q hq => ?_, fun q hq => ?_, fun j m r' h1 h2 h3 => ?_, ?_⟩
  · rcases List.mem_append.1 hq with hq | hq
    · exact h.is q hq
    · simp at hq; subst hq; exact ⟨hp, by simp; omega⟩
  · rcases List.mem_append.1 hq with hq | hq
    · obtain ⟨j, m, r, e, h1, h2⟩ := h.of q hq; exact ⟨j, m, r, e, h1, by omega⟩
    · simp at hq; exact ⟨i, k, r, hq, hr, by omega⟩
  · by_cases e : j = i ∧ m = k
    · obtain ⟨rfl, rfl⟩ := e
      rw [hr] at h1
      cases h1
      exact List.mem_append.2 (.inr (by simp))
    · exact List.mem_append.2 (.inl (h.all j m r' h1 (by omega) h3))
  · rw [List.pairwise_append]
    refine ⟨h.rise, by simp, fun a ha b hb => ?_⟩
    simp at hb
    subst hb
    exact levelTo_ahead hl h hr a ha
/-- All rows are done: the next level. -/
theorem levelTo_end {n : Nat} {rows next : List (List Nat)} (hl : Level N S fr t0 n rows) (h : LevelTo N S fr t0 n rows rows.length 0 next) : Level N S fr t0 (n + 1) next := by
  refine ⟨fun p => ⟨fun hp => h.is p hp, fun hp => ?_⟩, h.rise⟩
  have key : ∀ p : List Nat, Path N S fr t0 p ∧ p.length = n + 1 → p ∈ next := by
    intro p
    refine snocRec (P := fun p => Path N S fr t0 p ∧ p.length = n + 1 → p ∈ next) ?_ ?_ p
    · rintro ⟨_, h0⟩; simp at h0
    · intro r m _ ⟨h1, h2⟩
      have hr := (hl.all r).2 ⟨h1.last.1, by simpa using h2⟩
      obtain ⟨j, hj, e⟩ := List.getElem_of_mem hr
      exact h.all j m r (by rw [List.getElem?_eq_getElem hj, e]) (.inl hj) h1
  exact key p hp
/-- What was seen is all: the best of it is the best. -/
theorem bestIn_none {seen : List (List Nat)} (h : BestIn S fr t0 tt seen none) (hall : ∀ q, Path N S fr t0 q → q.length ≤ 3 → q ≠ [] → q ∈ seen) (hne : fr ≠ tt) : ∀ q, ¬ Goal N S fr t0 tt q := by
  rintro q ⟨h1, h2, h3⟩
  by_cases e : q = []
  · subst e; exact hne h3
  · exact h q (hall q h1 h2 e) h3
theorem bestIn_some {seen : List (List Nat)} {p : List Nat} (h : BestIn S fr t0 tt seen (some p)) (his : ∀ q, q ∈ seen → Path N S fr t0 q ∧ q.length ≤ 3) (hall : ∀ q, Path N S fr t0 q → q.length ≤ 3 → q ≠ [] → q ∈ seen) (hne : fr ≠ tt) : Best N S fr t0 tt p := by
  refine ⟨⟨(his p h.1).1, (his p h.1).2, h.2.1⟩, ?_⟩
  rintro q ⟨h1, h2, h3⟩
  by_cases e : q = []
  · subst e; exact absurd h3 hne
  · exact h.2.2 q (hall q h1 h2 e) h3
end

end Go.Proofs.Ytaalhmaacaahhah
