/-
  OWN TEXT: PlainR, PlainH.
-/
import Derived.Test.YthcjfoaejomfaaaB14
namespace Go.Proofs.Ythcjfoaejomfaaa
open Go.RowKit

def lexLt : List Nat → List Nat → Prop
  | _, [] => False
  | [], _ :: _ => True
  | a :: p, b :: q => a < b ∨ (a = b ∧ lexLt p q)
theorem lexLt_nil (p : List Nat) : ¬ lexLt p [] := by cases p <;> simp [lexLt]
theorem lexLt_irrefl : ∀ p, ¬ lexLt p p
  | [], h => h
  | a :: p, h => by rcases h with h | ⟨_, h⟩
                    · omega
                    · exact lexLt_irrefl p h
theorem lexLt_trans : ∀ {p q r}, lexLt p q → lexLt q r → lexLt p r
  | _, [], _, h, _ => absurd h (lexLt_nil _)
  | _, _ :: _, [], _, h => absurd h (lexLt_nil _)
  | [], _ :: _, _ :: _, _, _ => trivial
  | a :: p, b :: q, c :: r, h1, h2 => by
    rcases h1 with h1 | ⟨e1, h1⟩
    · rcases h2 with h2 | ⟨e2, h2⟩
      · exact .inl (by omega)
      · exact .inl (by omega)
    · rcases h2 with h2 | ⟨e2, h2⟩
      · exact .inl (by omega)
      · exact .inr ⟨by omega, lexLt_trans h1 h2⟩
theorem lexLt_total : ∀ p q, lexLt p q ∨ p = q ∨ lexLt q p
  | [], [] => .inr (.inl rfl)
  | [], _ :: _ => .inl trivial
  | _ :: _, [] => .inr (.inr trivial)
  | a :: p, b :: q => by
    by_cases h : a < b
    · exact .inl (.inl h)
    · by_cases h2 : b < a
      · exact .inr (.inr (.inl h2))
      · have e : a = b := by omega
        subst e
        rcases lexLt_total p q with h | h | h
        · exact .inl (.inr ⟨rfl, h⟩)
        · exact .inr (.inl (by rw [h]))
        · exact .inr (.inr (.inr ⟨rfl, h⟩))
/-- Two ways of one length: what stands ahead decides. -/
theorem lexLt_append : ∀ {p q : List Nat} (a b : List Nat), p.length = q.length → lexLt p q → lexLt (p ++ a) (q ++ b)
  | _, [], _, _, _, h => absurd h (lexLt_nil _)
  | [], _ :: _, _, _, hl, _ => by simp at hl
  | x :: p, y :: q, a, b, hl, h => by
    rcases h with h | ⟨e, h⟩
    · exact .inl h
    · exact .inr ⟨e, lexLt_append a b (by simpa using hl) h⟩
theorem lexLt_same : ∀ (p a b : List Nat), lexLt a b → lexLt (p ++ a) (p ++ b)
  | [], _, _, h => h
  | _ :: p, a, b, h => .inr ⟨rfl, lexLt_same p a b h⟩

theorem snocRec {P : List Nat → Prop} (h0 : P []) (h1 : ∀ r k, P r → P (r ++ [k])) (l : List Nat) : P l := by
  have key : ∀ m : List Nat, P m.reverse := by
    intro m
    induction m with
    | nil => exact h0
    | cons a m ih => rw [List.reverse_cons]; exact h1 _ _ ih
  have := key l.reverse
  rwa [List.reverse_reverse] at this
def placeOf (S : Nat → Sail) (fr : ByteArray) (p : List Nat) : ByteArray := match p.getLast? with
  | none => fr
  | some k => (S k).dst
def timeOf (S : Nat → Sail) (t0 : Int) (p : List Nat) : Int := match p.getLast? with
  | none => t0
  | some k => (S k).arr
theorem placeOf_snoc (S : Nat → Sail) (fr : ByteArray) (p : List Nat) (k : Nat) : placeOf S fr (p ++ [k]) = (S k).dst := by
  unfold placeOf; simp
theorem timeOf_snoc (S : Nat → Sail) (t0 : Int) (p : List Nat) (k : Nat) : timeOf S t0 (p ++ [k]) = (S k).arr := by
  unfold timeOf; simp

/-- The sailings p can be taken one behind the other, from fr, at t0 or later. -/
inductive Path (N : Nat) (S : Nat → Sail) (fr : ByteArray) (t0 : Int) : List Nat → Prop
  | nil : Path N S fr t0 []
  | snoc {p : List Nat} {k : Nat} : Path N S fr t0 p → k < N → (S k).fr = placeOf S fr p → timeOf S t0 p ≤ (S k).dep → Path N S fr t0 (p ++ [k])
theorem Path.last {N : Nat} {S : Nat → Sail} {fr : ByteArray} {t0 : Int} {p : List Nat} {k : Nat} (h : Path N S fr t0 (p ++ [k])) : Path N S fr t0 p ∧ k < N ∧ (S k).fr = placeOf S fr p ∧ timeOf S t0 p ≤ (S k).dep := by
  generalize hq : p ++ [k] = q at h
  cases h with
  | nil => simp at hq
  | snoc h1 h2 h3 h4 =>
    obtain ⟨rfl, e⟩ := List.append_inj' hq rfl
    simp at e
    subst e
    exact ⟨h1, h2, h3, h4⟩

section
variable {N : Nat} {S : Nat → Sail} {fr : ByteArray} {t0 : Int}
theorem Path.pre {p : List Nat} : ∀ {r : List Nat}, Path N S fr t0 (p ++ r) → Path N S fr t0 p := by
  intro r
  refine snocRec (P := fun r => Path N S fr t0 (p ++ r) → Path N S fr t0 p) ?_ ?_ r
  · intro h; simpa using h
  · intro r k ih h
    rw [← List.append_assoc] at h
    exact ih h.last.1
theorem Path.later (hd : ∀ k, k < N → (S k).dep < (S k).arr) {p : List Nat} : ∀ {r : List Nat}, Path N S fr t0 (p ++ r) → r ≠ [] → timeOf S t0 p < timeOf S t0 (p ++ r) := by
  intro r
  refine snocRec (P := fun r => Path N S fr t0 (p ++ r) → r ≠ [] → timeOf S t0 p < timeOf S t0 (p ++ r)) ?_ ?_ r
  · intro _ h; exact absurd rfl h
  · intro r k ih h _
    rw [← List.append_assoc] at h ⊢
    obtain ⟨h1, h2, h3, h4⟩ := h.last
    rw [timeOf_snoc]
    have := hd k h2
    by_cases hr : r = []
    · subst hr; rw [List.append_nil] at h4; omega
    · have := ih h1 hr; omega

/-- The way p comes before the way q. -/
def Before (S : Nat → Sail) (t0 : Int) (p q : List Nat) : Prop :=
  timeOf S t0 p < timeOf S t0 q ∨ (timeOf S t0 p = timeOf S t0 q ∧ (p.length < q.length ∨ (p.length = q.length ∧ lexLt p q)))
theorem before_irrefl (p : List Nat) : ¬ Before S t0 p p := by
  rintro (h | ⟨_, h | ⟨_, h⟩⟩)
  · omega
  · omega
  · exact lexLt_irrefl p h
theorem before_trans {p q r : List Nat} (h1 : Before S t0 p q) (h2 : Before S t0 q r) : Before S t0 p r := by
  rcases h1 with h1 | ⟨e1, h1⟩
  · rcases h2 with h2 | ⟨e2, _⟩
    · exact .inl (by omega)
    · exact .inl (by omega)
  · rcases h2 with h2 | ⟨e2, h2⟩
    · exact .inl (by omega)
    · refine .inr ⟨by omega, ?_⟩
      rcases h1 with h1 | ⟨l1, h1⟩
      · rcases h2 with h2 | ⟨l2, _⟩
        · exact .inl (by omega)
        · exact .inl (by omega)
      · rcases h2 with h2 | ⟨l2, h2⟩
        · exact .inl (by omega)
        · exact .inr ⟨by omega, lexLt_trans h1 h2⟩
theorem before_total (p q : List Nat) : Before S t0 p q ∨ p = q ∨ Before S t0 q p := by
  by_cases h1 : timeOf S t0 p < timeOf S t0 q
  · exact .inl (.inl h1)
  by_cases h2 : timeOf S t0 q < timeOf S t0 p
  · exact .inr (.inr (.inl h2))
  have e : timeOf S t0 p = timeOf S t0 q := by omega
  by_cases h3 : p.length < q.length
  · exact .inl (.inr ⟨e, .inl h3⟩)
  by_cases h4 : q.length < p.length
  · exact .inr (.inr (.inr ⟨e.symm, .inl h4⟩))
  have e2 : p.length = q.length := by omega
  rcases lexLt_total p q with h | h | h
  · exact .inl (.inr ⟨e, .inr ⟨e2, h⟩⟩)
  · exact .inr (.inl h)
  · exact .inr (.inr (.inr ⟨e.symm, .inr ⟨e2.symm, h⟩⟩))

/-- A way of at most three legs that comes to the place. -/
def Goal (N : Nat) (S : Nat → Sail) (fr : ByteArray) (t0 : Int) (tt : ByteArray) (p : List Nat) : Prop := Path N S fr t0 p ∧ p.length ≤ 3 ∧ placeOf S fr p = tt
/-- The one that comes first of them. -/
def Best (N : Nat) (S : Nat → Sail) (fr : ByteArray) (t0 : Int) (tt : ByteArray) (p : List Nat) : Prop := Goal N S fr t0 tt p ∧ ∀ q, Goal N S fr t0 tt q → ¬ Before S t0 q p
theorem best_unique {tt : ByteArray} {p q : List Nat} (hp : Best N S fr t0 tt p) (hq : Best N S fr t0 tt q) : p = q := by
  rcases before_total (S := S) (t0 := t0) p q with h | h | h
  · exact absurd h (hq.2 p hp.1)
  · exact h
  · exact absurd h (hp.2 q hq.1)

/-- What is open in the search. -/
structure Search (N : Nat) (S : Nat → Sail) (fr : ByteArray) (t0 : Int) (tt : ByteArray) (o : List (List Nat)) : Prop where
  path : ∀ p, p ∈ o → Path N S fr t0 p ∧ p.length ≤ 3
  all : ∀ q, Goal N S fr t0 tt q → ∃ p r, p ∈ o ∧ q = p ++ r
theorem search_start (tt : ByteArray) : Search N S fr t0 tt [[]] :=
  ⟨fun p hp => by simp at hp; subst hp; exact ⟨.nil, by simp⟩, fun q _ => ⟨[], q, by simp, by simp⟩⟩
/-- Nothing open: no way. -/
theorem search_end {tt : ByteArray} (h : Search N S fr t0 tt []) : ∀ q, ¬ Goal N S fr t0 tt q := by
  intro q hq
  obtain ⟨p, _, hp, _⟩ := h.all q hq
  cases hp
/-- The first open one that comes to the place is the best. -/
theorem search_found {tt : ByteArray} (hd : ∀ k, k < N → (S k).dep < (S k).arr) {o : List (List Nat)} (h : Search N S fr t0 tt o) {p : List Nat} (hp : p ∈ o) (hmin : ∀ q, q ∈ o → ¬ Before S t0 q p) (hpl : placeOf S fr p = tt) : Best N S fr t0 tt p := by
  refine ⟨⟨(h.path p hp).1, (h.path p hp).2, hpl⟩, fun q hq hbef => ?_⟩
  obtain ⟨a, r, ha, rfl⟩ := h.all q hq
  by_cases hr : r = []
  · subst hr; rw [List.append_nil] at hbef; exact hmin a ha hbef
  · exact hmin a ha (before_trans (.inl (hq.1.later hd hr)) hbef)
/-- One open way is taken and gone on from by all that can be. -/
theorem search_next {tt : ByteArray} {o o' : List (List Nat)} (h : Search N S fr t0 tt o) {p : List Nat} (hp : p ∈ o) (hpl : placeOf S fr p ≠ tt)
    (hsame : ∀ q, q ∈ o → q = p ∨ q ∈ o') (hnew : ∀ q, q ∈ o' → q ∈ o ∨ ∃ k, q = p ++ [k] ∧ p.length < 3 ∧ Path N S fr t0 q)
    (hall : p.length < 3 → ∀ k, Path N S fr t0 (p ++ [k]) → p ++ [k] ∈ o') : Search N S fr t0 tt o' := by
  refine ⟨fun q hq => ?_, fun q hq => ?_⟩
  · rcases hnew q hq with h1 | ⟨k, rfl, h2, h3⟩
    · exact h.path q h1
    · exact ⟨h3, by simp; omega⟩
  · obtain ⟨a, r, ha, rfl⟩ := h.all q hq
    rcases hsame a ha with rfl | h1
    · match r, hq with
      | [], hq => exact absurd (by simpa using hq.2.2) hpl
      | k :: r, hq =>
        have e : a ++ k :: r = (a ++ [k]) ++ r := by simp
        have hlen : a.length < 3 := by have := hq.2.1; simp at this; omega
        refine ⟨a ++ [k], r, hall hlen k ?_, e⟩
        have := hq.1
        rw [e] at this
        exact this.pre
    · exact ⟨a, r, h1, rfl⟩
end

end Go.Proofs.Ythcjfoaejomfaaa

namespace Go.Proofs.Ythcjfoaejomfaaa
open Go.RowKit

section
variable {α : Type}
/-- f, with v at place i. -/
def upd (H : Nat → α) (i : Nat) (v : α) (j : Nat) : α := if j = i then v else H j
theorem upd_at (H : Nat → α) (i : Nat) (v : α) : upd H i v i = v := if_pos rfl
theorem upd_ne (H : Nat → α) (i : Nat) (v : α) {j : Nat} (h : j ≠ i) : upd H i v j = H j := if_neg h
/-- What stands at i and j changes places. -/
def swp (H : Nat → α) (i j : Nat) : Nat → α := upd (upd H i (H j)) j (H i)
theorem swp_i (H : Nat → α) {i j : Nat} (h : i ≠ j) : swp H i j i = H j := by unfold swp; rw [upd_ne _ _ _ h, upd_at]
theorem swp_j (H : Nat → α) (i j : Nat) : swp H i j j = H i := by unfold swp; rw [upd_at]
theorem swp_ne (H : Nat → α) {i j k : Nat} (h1 : k ≠ i) (h2 : k ≠ j) : swp H i j k = H k := by unfold swp; rw [upd_ne _ _ _ h2, upd_ne _ _ _ h1]

/-- The sum of f over the first n. -/
def tot (f : α → Nat) (H : Nat → α) : Nat → Nat
  | 0 => 0
  | n + 1 => tot f H n + f (H n)
theorem tot_congr (f : α → Nat) {H H' : Nat → α} : ∀ {n : Nat}, (∀ i, i < n → H i = H' i) → tot f H n = tot f H' n
  | 0, _ => rfl
  | n + 1, h => by unfold tot; rw [tot_congr f (n := n) (fun i hi => h i (by omega)), h n (by omega)]
theorem tot_upd (f : α → Nat) (H : Nat → α) (i : Nat) (v : α) : ∀ {n : Nat}, i < n → tot f (upd H i v) n + f (H i) = tot f H n + f v
  | 0, h => by omega
  | n + 1, h => by
    unfold tot
    by_cases e : i = n
    · subst e
      rw [upd_at, tot_congr f (n := i) (H := upd H i v) (H' := H) (fun j hj => upd_ne _ _ _ (by omega))]
      omega
    · have := tot_upd f H i v (n := n) (by omega)
      rw [upd_ne _ _ _ (show n ≠ i by omega)]
      omega
theorem tot_swp (f : α → Nat) (H : Nat → α) {i j n : Nat} (hi : i < n) (hj : j < n) (h : i ≠ j) : tot f (swp H i j) n = tot f H n := by
  have h1 := tot_upd f H i (H j) hi
  have h2 := tot_upd f (upd H i (H j)) j (H i) hj
  rw [upd_ne _ _ _ (Ne.symm h)] at h2
  unfold swp
  omega
theorem tot_pos (f : α → Nat) (H : Nat → α) {n i : Nat} (hi : i < n) : f (H i) ≤ tot f H n := by
  have := tot_upd f H i (H i) hi
  induction n with
  | zero => omega
  | succ n ih =>
    unfold tot
    by_cases e : i = n
    · subst e; omega
    · have := ih (by omega) (tot_upd f H i (H i) (by omega)); omega
theorem tot_mem (f : α → Nat) (H : Nat → α) : ∀ {n : Nat}, 0 < tot f H n → ∃ i, i < n ∧ 0 < f (H i)
  | 0, h => by unfold tot at h; omega
  | n + 1, h => by
    unfold tot at h
    by_cases h1 : 0 < f (H n)
    · exact ⟨n, by omega, h1⟩
    · obtain ⟨i, hi, h2⟩ := tot_mem f H (n := n) (by omega)
      exact ⟨i, by omega, h2⟩

/-- An order as the heap wants it. -/
structure Ord3 (bef : α → α → Prop) : Prop where
  asymm : ∀ a b, bef a b → ¬ bef b a
  trans : ∀ a b c, bef a b → bef b c → bef a c
  neg : ∀ a b c, ¬ bef a b → ¬ bef b c → ¬ bef a c

def Heap (bef : α → α → Prop) (n : Nat) (H : Nat → α) : Prop := ∀ i, 0 < i → i < n → ¬ bef (H i) (H ((i - 1) / 2))
/-- A heap but for what stands at a, which may go ahead of what stands above it. -/
def HeapUp (bef : α → α → Prop) (n : Nat) (H : Nat → α) (a : Nat) : Prop :=
  (∀ i, 0 < i → i < n → i ≠ a → ¬ bef (H i) (H ((i - 1) / 2))) ∧ (0 < a → ∀ i, 0 < i → i < n → (i - 1) / 2 = a → ¬ bef (H i) (H ((a - 1) / 2)))
/-- A heap but for what stands at a, ahead of which those below may go. -/
def HeapDown (bef : α → α → Prop) (n : Nat) (H : Nat → α) (a : Nat) : Prop :=
  (∀ i, 0 < i → i < n → (i - 1) / 2 ≠ a → ¬ bef (H i) (H ((i - 1) / 2))) ∧ (0 < a → ∀ i, 0 < i → i < n → (i - 1) / 2 = a → ¬ bef (H i) (H ((a - 1) / 2)))

variable {bef : α → α → Prop}
theorem heap_root (o : Ord3 bef) {n : Nat} {H : Nat → α} (hi : ∀ a, ¬ bef a a) (h : Heap bef n H) : ∀ i, i < n → ¬ bef (H i) (H 0) := by
  intro i
  induction i using Nat.strongRecOn with
  | ind i ih =>
    intro hn
    by_cases h0 : i = 0
    · subst h0; exact hi _
    · exact o.neg _ _ _ (h i (by omega) hn) (ih ((i - 1) / 2) (by omega) (by omega))
/-- One more at the end. -/
theorem heap_push {n : Nat} {H : Nat → α} (v : α) (h : Heap bef n H) : HeapUp bef (n + 1) (upd H n v) n := by
  refine ⟨fun i h0 hi hne => ?_, fun _ i h0 hi he => by omega⟩
  rw [upd_ne _ _ _ hne, upd_ne _ _ _ (show (i - 1) / 2 ≠ n by omega)]
  exact h i h0 (by omega)
theorem up_done {n a : Nat} {H : Nat → α} (h : HeapUp bef n H a) (hd : a = 0 ∨ ¬ bef (H a) (H ((a - 1) / 2))) : Heap bef n H := by
  intro i h0 hi
  by_cases e : i = a
  · subst e
    rcases hd with hd | hd
    · omega
    · exact hd
  · exact h.1 i h0 hi e
theorem up_step (o : Ord3 bef) {n a : Nat} {H : Nat → α} (h : HeapUp bef n H a) (h0 : 0 < a) (han : a < n) (hb : bef (H a) (H ((a - 1) / 2))) : HeapUp bef n (swp H a ((a - 1) / 2)) ((a - 1) / 2) := by
  have hne : a ≠ (a - 1) / 2 := by omega
  refine ⟨fun i i0 hi hia => ?_, fun hp i i0 hi hc => ?_⟩
  · by_cases e : i = a
    · subst e
      rw [swp_i _ hne, swp_j]
      exact o.asymm _ _ hb
    · rw [swp_ne _ e hia]
      by_cases e2 : (i - 1) / 2 = a
      · rw [e2, swp_i _ hne]
        exact h.2 h0 i i0 hi e2
      · by_cases e3 : (i - 1) / 2 = (a - 1) / 2
        · rw [e3, swp_j]
          intro hx
          have := h.1 i i0 hi e
          rw [e3] at this
          exact this (o.trans _ _ _ hx hb)
        · rw [swp_ne _ e2 e3]
          exact h.1 i i0 hi e
  · have hpp := h.1 ((a - 1) / 2) hp (by omega) (Ne.symm hne)
    rw [swp_ne H (show ((a - 1) / 2 - 1) / 2 ≠ a by omega) (show ((a - 1) / 2 - 1) / 2 ≠ (a - 1) / 2 by omega)]
    by_cases e : i = a
    · subst e
      rw [swp_i _ hne]
      exact hpp
    · rw [swp_ne _ e (show i ≠ (a - 1) / 2 by omega)]
      have := h.1 i i0 hi e
      rw [hc] at this
      exact o.neg _ _ _ this hpp
/-- The first one goes, the last one takes its place. -/
theorem heap_pop {n : Nat} {H : Nat → α} (h : Heap bef (n + 1) H) : HeapDown bef n (upd H 0 (H n)) 0 := by
  refine ⟨fun i i0 hi hne => ?_, fun h0 => by omega⟩
  rw [upd_ne _ _ _ (show i ≠ 0 by omega), upd_ne _ _ _ hne]
  exact h i i0 (by omega)
theorem down_done (o : Ord3 bef) {n a c : Nat} {H : Nat → α} (h : HeapDown bef n H a) (hc : c < n → (c - 1) / 2 = a ∧ 0 < c ∧ ¬ bef (H c) (H a)) (hmin : ∀ i, 0 < i → i < n → (i - 1) / 2 = a → c < n ∧ ¬ bef (H i) (H c)) : Heap bef n H := by
  intro i i0 hi
  by_cases e : (i - 1) / 2 = a
  · obtain ⟨h1, h2⟩ := hmin i i0 hi e
    rw [e]
    exact o.neg _ _ _ h2 (hc h1).2.2
  · exact h.1 i i0 hi e
theorem down_step (o : Ord3 bef) {n a c : Nat} {H : Nat → α} (h : HeapDown bef n H a) (hcn : c < n) (c0 : 0 < c) (hca : (c - 1) / 2 = a) (hb : bef (H c) (H a)) (hmin : ∀ i, 0 < i → i < n → (i - 1) / 2 = a → ¬ bef (H i) (H c)) : HeapDown bef n (swp H a c) c := by
  have hne : a ≠ c := by omega
  refine ⟨fun i i0 hi hic => ?_, fun _ i i0 hi hic => ?_⟩
  · by_cases e : i = c
    · subst e
      rw [swp_j, hca, swp_i _ hne]
      exact o.asymm _ _ hb
    · by_cases e2 : (i - 1) / 2 = a
      · rw [e2, swp_i _ hne, swp_ne _ (show i ≠ a by omega) e]
        exact hmin i i0 hi e2
      · rw [swp_ne _ e2 hic]
        by_cases e3 : i = a
        · subst e3
          rw [swp_i _ hne]
          exact h.2 i0 c c0 hcn hca
        · rw [swp_ne _ e3 e]
          exact h.1 i i0 hi e2
  · rw [hca, swp_i _ hne, swp_ne _ (show i ≠ a by omega) (show i ≠ c by omega)]
    have := h.1 i i0 hi (by omega)
    rw [hic] at this
    exact this
end

theorem before_ord (S : Nat → Sail) (t0 : Int) : Ord3 (fun a b : List Nat => Before S t0 a b) := by
  refine ⟨fun a b h1 h2 => before_irrefl a (before_trans h1 h2), fun a b c h1 h2 => before_trans h1 h2, fun a b c h1 h2 h3 => ?_⟩
  rcases before_total (S := S) (t0 := t0) a b with h | h | h
  · exact h1 h
  · subst h; exact h2 h3
  · exact h2 (before_trans h h3)

end Go.Proofs.Ythcjfoaejomfaaa
