/-
  OWN TEXT: ways through a timetable in plain words: which one comes first, and what a search that always takes the first open way finds.
-/
import Derived.Test.YtaalhmaacaahhahPlainF
namespace Go.Proofs.Ytaalhmaacaahhah
open Go.RowKit

def lexLt : List Nat → List Nat → Prop
  | _, [] => False
  | [], _ :: _ => True
  | a :: p, b :: q => a < b ∨ (a = b ∧ lexLt p q)
theorem lexLt_nil (p : List Nat) : ¬ lexLt p [] := by cases p <;> simp [lexLt]
theorem lexLt_irrefl : ∀ p, ¬ lexLt p p
  | [], h => h
  | a :: p, h => by rcases h with h | ⟨_, h⟩
                    · omega
                    · exact lexLt_irrefl p h
theorem lexLt_trans : ∀ {p q r}, lexLt p q → lexLt q r → lexLt p r
  | _, [], _, h, _ => absurd h (lexLt_nil _)
  | _, _ :: _, [], _, h => absurd h (lexLt_nil _)
  | [], _ :: _, _ :: _, _, _ => trivial
  | a :: p, b :: q, c :: r, h1, h2 => by
    rcases h1 with h1 | ⟨e1, h1⟩
    · rcases h2 with h2 | ⟨e2, h2⟩
      · exact .inl (by omega)
      · exact .inl (by omega)
    · rcases h2 with h2 | ⟨e2, h2⟩
      · exact .inl (by omega)
      · exact .inr ⟨by omega, lexLt_trans h1 h2⟩
theorem lexLt_total : ∀ p q, lexLt p q ∨ p = q ∨ lexLt q p
  | [], [] => .inr (.inl rfl)
  | [], _ :: _ => .inl trivial
  | _ :: _, [] => .inr (.inr trivial)
  | a :: p, b :: q => by
    by_cases h : a < b
    · exact .inl (.inl h)
    · by_cases h2 : b < a
      · exact .inr (.inr (.inl h2))
      · have e : a = b := by omega
        subst e
        rcases lexLt_total p q with h | h | h
        · exact .inl (.inr ⟨rfl, h⟩)
        · exact .inr (.inl (by rw [h]))
        · exact .inr (.inr (.inr ⟨rfl, h⟩))
/-- Two ways of one length: what stands ahead decides. -/
theorem lexLt_append : ∀ {p q : List Nat} (a b : List Nat), p.length = q.length → lexLt p q → lexLt (p ++ a) (q ++ b)
  | _, [], _, _, _, h => absurd h (lexLt_nil _)
  | [], _ :: _, _, _, hl, _ => by simp at hl
  | x :: p, y :: q, a, b, hl, h => by
    rcases h with h | ⟨e, h⟩
    · exact .inl h
    · exact .inr ⟨e, lexLt_append a b (by simpa using hl) h⟩
theorem lexLt_same : ∀ (p a b : List Nat), lexLt a b → lexLt (p ++ a) (p ++ b)
  | [], _, _, h => h
  | _ :: p, a, b, h => .inr ⟨rfl, lexLt_same p a b h⟩

theorem snocRec {P : List Nat → Prop} (h0 : P []) (h1 : ∀ r k, P r → P (r ++ [k])) (l : List Nat) : P l := by
  have key : ∀ m : List Nat, P m.reverse := by
    intro m
    induction m with
    | nil => exact h0
    | cons a m ih => rw [List.reverse_cons]; exact h1 _ _ ih
  have := key l.reverse
  rwa [List.reverse_reverse] at this
def placeOf (S : Nat → Sail) (fr : ByteArray) (p : List Nat) : ByteArray := match p.getLast? with
  | none => fr
  | some k => (S k).dst
def timeOf (S : Nat → Sail) (t0 : Int) (p : List Nat) : Int := match p.getLast? with
  | none => t0
  | some k => (S k).arr
theorem placeOf_snoc (S : Nat → Sail) (fr : ByteArray) (p : List Nat) (k : Nat) : placeOf S fr (p ++ [k]) = (S k).dst := by
  unfold placeOf; simp
theorem timeOf_snoc (S : Nat → Sail) (t0 : Int) (p : List Nat) (k : Nat) : timeOf S t0 (p ++ [k]) = (S k).arr := by
  unfold timeOf; simp

/-- The sailings p can be taken one behind the other, from fr, at t0 or later. -/
inductive Path (N : Nat) (S : Nat → Sail) (fr : ByteArray) (t0 : Int) : List Nat → Prop
  | nil : Path N S fr t0 []
  | snoc {p : List Nat} {k : Nat} : Path N S fr t0 p → k < N → (S k).fr = placeOf S fr p → timeOf S t0 p ≤ (S k).dep → Path N S fr t0 (p ++ [k])
theorem Path.last {N : Nat} {S : Nat → Sail} {fr : ByteArray} {t0 : Int} {p : List Nat} {k : Nat} (h : Path N S fr t0 (p ++ [k])) : Path N S fr t0 p ∧ k < N ∧ (S k).fr = placeOf S fr p ∧ timeOf S t0 p ≤ (S k).dep := by
  generalize hq : p ++ [k] = q at h
  cases h with
  | nil => simp at hq
  | snoc h1 h2 h3 h4 =>
    obtain ⟨rfl, e⟩ := List.append_inj' hq rfl
    simp at e
    subst e
    exact ⟨h1, h2, h3, h4⟩

section
variable {N : Nat} {S : Nat → Sail} {fr : ByteArray} {t0 : Int}
theorem Path.pre {p : List Nat} : ∀ {r : List Nat}, Path N S fr t0 (p ++ r) → Path N S fr t0 p := by
  intro r
  refine snocRec (P := fun r => Path N S fr t0 (p ++ r) → Path N S fr t0 p) ?_ ?_ r
  · intro h; simpa using h
  · intro r k ih h
    rw [← List.append_assoc] at h
    exact ih h.last.1
theorem Path.later (hd : ∀ k, k < N → (S k).dep < (S k).arr) {p : List Nat} : ∀ {r : List Nat}, Path N S fr t0 (p ++ r) → r ≠ [] → timeOf S t0 p < timeOf S t0 (p ++ r) := by
  intro r
  refine snocRec (P := fun r => Path N S fr t0 (p ++ r) → r ≠ [] → timeOf S t0 p < timeOf S t0 (p ++ r)) ?_ ?_ r
  · intro _ h; exact absurd rfl h
  · intro r k ih h _
    rw [← List.append_assoc] at h ⊢
    obtain ⟨h1, h2, h3, h4⟩ := h.last
    rw [timeOf_snoc]
    have := hd k h2
    by_cases hr : r = []
    · subst hr; rw [List.append_nil] at h4; omega
    · have := ih h1 hr; omega

/-- The way p comes before the way q. -/
def Before (S : Nat → Sail) (t0 : Int) (p q : List Nat) : Prop :=
  timeOf S t0 p < timeOf S t0 q ∨ (timeOf S t0 p = timeOf S t0 q ∧ (p.length < q.length ∨ (p.length = q.length ∧ lexLt p q)))
theorem before_irrefl (p : List Nat) : ¬ Before S t0 p p := by
  rintro (h | ⟨_, h | ⟨_, h⟩⟩)
  · omega
  · omega
  · exact lexLt_irrefl p h
theorem before_trans {p q r : List Nat} (h1 : Before S t0 p q) (h2 : Before S t0 q r) : Before S t0 p r := by
  rcases h1 with h1 | ⟨e1, h1⟩
  · rcases h2 with h2 | ⟨e2, _⟩
    · exact .inl (by omega)
    · exact .inl (by omega)
  · rcases h2 with h2 | ⟨e2, h2⟩
    · exact .inl (by omega)
    · refine .inr ⟨by omega, ?_⟩
      rcases h1 with h1 | ⟨l1, h1⟩
      · rcases h2 with h2 | ⟨l2, _⟩
        · exact .inl (by omega)
        · exact .inl (by omega)
      · rcases h2 with h2 | ⟨l2, h2⟩
        · exact .inl (by omega)
        · exact .inr ⟨by omega, lexLt_trans h1 h2⟩
theorem before_total (p q : List Nat) : Before S t0 p q ∨ p = q ∨ Before S t0 q p := by
  by_cases h1 : timeOf S t0 p < timeOf S t0 q
  · exact .inl (.inl h1)
  by_cases h2 : timeOf S t0 q < timeOf S t0 p
  · exact .inr (.inr (.inl h2))
  have e : timeOf S t0 p = timeOf S t0 q := by omega
  by_cases h3 : p.length < q.length
  · exact .inl (.inr ⟨e, .inl h3⟩)
  by_cases h4 : q.length < p.length
  · exact .inr (.inr (.inr ⟨e.symm, .inl h4⟩))
  have e2 : p.length = q.length := by omega
  rcases lexLt_total p q with h | h | h
  · exact .inl (.inr ⟨e, .inr ⟨e2, h⟩⟩)
  · exact .inr (.inl h)
  · exact .inr (.inr (.inr ⟨e.symm, .inr ⟨e2.symm, h⟩⟩))

/-- A way of at most three legs that comes to the place. -/
def Goal (N : Nat) (S : Nat → Sail) (fr : ByteArray) (t0 : Int) (tt : ByteArray) (p : List Nat) : Prop := Path N S fr t0 p ∧ p.length ≤ 3 ∧ placeOf S fr p = tt
/-- The one that comes first of them. -/
def Best (N : Nat) (S : Nat → Sail) (fr : ByteArray) (t0 : Int) (tt : ByteArray) (p : List Nat) : Prop := Goal N S fr t0 tt p ∧ ∀ q, Goal N S fr t0 tt q → ¬ Before S t0 q p
theorem best_unique {tt : ByteArray} {p q : List Nat} (hp : Best N S fr t0 tt p) (hq : Best N S fr t0 tt q) : p = q := by
  rcases before_total (S := S) (t0 := t0) p q with h | h | h
  · exact absurd h (hq.2 p hp.1)
  · exact h
  · exact absurd h (hp.2 q hq.1)

/-- What is open in the search. -/
structure Search (N : Nat) (S : Nat → Sail) (fr : ByteArray) (t0 : Int) (tt : ByteArray) (o : List (List Nat)) : Prop where
  path : ∀ p, p ∈ o → Path N S fr t0 p ∧ p.length ≤ 3
  all : ∀ q, Goal N S fr t0 tt q → ∃ p r, p ∈ o ∧ q = p ++ r
theorem search_start (tt : ByteArray) : Search N S fr t0 tt [[]] :=
  ⟨fun p hp => by simp at hp; subst hp; exact ⟨.nil, by simp⟩, fun q _ => ⟨[], q, by simp, by simp⟩⟩
/-- Nothing open: no way. -/
theorem search_end {tt : ByteArray} (h : Search N S fr t0 tt []) : ∀ q, ¬ Goal N S fr t0 tt q := by
  intro q hq
  obtain ⟨p, _, hp, _⟩ := h.all q hq
  cases hp
/-- The first open one that comes to the place is the best. -/
theorem search_found {tt : ByteArray} (hd : ∀ k, k < N → (S k).dep < (S k).arr) {o : List (List Nat)} (h : Search N S fr t0 tt o) {p : List Nat} (hp : p ∈ o) (hmin : ∀ q, q ∈ o → ¬ Before S t0 q p) (hpl : placeOf S fr p = tt) : Best N S fr t0 tt p := by
  refine ⟨⟨(h.path p hp).1, (h.path p hp).2, hpl⟩, fun q hq hbef => ?_⟩
  obtain ⟨a, r, ha, rfl⟩ := h.all q hq
  by_cases hr : r = []
  · subst hr; rw [List.append_nil] at hbef; exact hmin a ha hbef
  · exact hmin a ha (before_trans (.inl (hq.1.later hd hr)) hbef)
/-- One open way is taken and gone on from by all that can be. -/
theorem search_next {tt : ByteArray} {o o' : List (List Nat)} (h : Search N S fr t0 tt o) {p : List Nat} (hp : p ∈ o) (hpl : placeOf S fr p ≠ tt)
    (hsame : ∀ q, q ∈ o → q = p ∨ q ∈ o') (hnew : ∀ q, q ∈ o' → q ∈ o ∨ ∃ k, q = p ++ [k] ∧ p.length < 3 ∧ Path N S fr t0 q)
    (hall : p.length < 3 → ∀ k, Path N S fr t0 (p ++ [k]) → p ++ [k] ∈ o') : Search N S fr t0 tt o' := by
  refine ⟨fun q hq => ?_, fun q hq => ?_⟩
  · rcases hnew q hq with h1 | ⟨k, rfl, h2, h3⟩
    · exact h.path q h1
    · exact ⟨h3, by simp; omega⟩
  · obtain ⟨a, r, ha, rfl⟩ := h.all q hq
    rcases hsame a ha with rfl | h1
    · match r, hq with
      | [], hq => exact absurd (by simpa using hq.2.2) hpl
      | k :: r, hq =>
        have e : a ++ k :: r = (a ++ [k]) ++ r := by simp
        have hlen : a.length < 3 := by have := hq.2.1; simp at this; omega
        refine ⟨a ++ [k], r, hall hlen k ?_, e⟩
        have := hq.1
        rw [e] at this
        exact this.pre
    · exact ⟨a, r, h1, rfl⟩
end

end Go.Proofs.Ytaalhmaacaahhah
