/-
  OWN TEXT: heaps in plain words: a list in which what stands at i never goes ahead of what stands at (i-1)/2, and what sifting does to it.
-/
import Derived.Test.YtaalhmaacaahhahPlainR
namespace Go.Proofs.Ytaalhmaacaahhah
open Go.RowKit

section
variable {α : Type}
/-- f, with v at place i. -/
def upd (H : Nat → α) (i : Nat) (v : α) (j : Nat) : α := if j = i then v else H j
theorem upd_at (H : Nat → α) (i : Nat) (v : α) : upd H i v i = v := if_pos rfl
theorem upd_ne (H : Nat → α) (i : Nat) (v : α) {j : Nat} (h : j ≠ i) : upd H i v j = H j := if_neg h
/-- What stands at i and j changes places. -/
def swp (H : Nat → α) (i j : Nat) : Nat → α := upd (upd H i (H j)) j (H i)
theorem swp_i (H : Nat → α) {i j : Nat} (h : i ≠ j) : swp H i j i = H j := by unfold swp; rw [upd_ne _ _ _ h, upd_at]
theorem swp_j (H : Nat → α) (i j : Nat) : swp H i j j = H i := by unfold swp; rw [upd_at]
theorem swp_ne (H : Nat → α) {i j k : Nat} (h1 : k ≠ i) (h2 : k ≠ j) : swp H i j k = H k := by unfold swp; rw [upd_ne _ _ _ h2, upd_ne _ _ _ h1]

/-- The sum of f over the first n. -/
def tot (f : α → Nat) (H : Nat → α) : Nat → Nat
  | 0 => 0
  | n + 1 => tot f H n + f (H n)
theorem tot_congr (f : α → Nat) {H H' : Nat → α} : ∀ {n : Nat}, (∀ i, i < n → H i = H' i) → tot f H n = tot f H' n
  | 0, _ => rfl
  | n + 1, h => by unfold tot; rw [tot_congr f (n := n) (fun i hi => h i (by omega)), h n (by omega)]
theorem tot_upd (f : α → Nat) (H : Nat → α) (i : Nat) (v : α) : ∀ {n : Nat}, i < n → tot f (upd H i v) n + f (H i) = tot f H n + f v
  | 0, h => by omega
  | n + 1, h => by
    unfold tot
    by_cases e : i = n
    · subst e
      rw [upd_at, tot_congr f (n := i) (H := upd H i v) (H' := H) (fun j hj => upd_ne _ _ _ (by omega))]
      omega
    · have := tot_upd f H i v (n := n) (by omega)
      rw [upd_ne _ _ _ (show n ≠ i by omega)]
      omega
theorem tot_swp (f : α → Nat) (H : Nat → α) {i j n : Nat} (hi : i < n) (hj : j < n) (h : i ≠ j) : tot f (swp H i j) n = tot f H n := by
  have h1 := tot_upd f H i (H j) hi
  have h2 := tot_upd f (upd H i (H j)) j (H i) hj
  rw [upd_ne _ _ _ (Ne.symm h)] at h2
  unfold swp
  omega
theorem tot_pos (f : α → Nat) (H : Nat → α) {n i : Nat} (hi : i < n) : f (H i) ≤ tot f H n := by
  have := tot_upd f H i (H i) hi
  induction n with
  | zero => omega
  | succ n ih =>
    unfold tot
    by_cases e : i = n
    · subst e; omega
    · have := ih (by omega) (tot_upd f H i (H i) (by omega)); omega
theorem tot_mem (f : α → Nat) (H : Nat → α) : ∀ {n : Nat}, 0 < tot f H n → ∃ i, i < n ∧ 0 < f (H i)
  | 0, h => by unfold tot at h; omega
  | n + 1, h => by
    unfold tot at h
    by_cases h1 : 0 < f (H n)
    · exact ⟨n, by omega, h1⟩
    · obtain ⟨i, hi, h2⟩ := tot_mem f H (n := n) (by omega)
      exact ⟨i, by omega, h2⟩

/-- An order as the heap wants it. -/
structure Ord3 (bef : α → α → Prop) : Prop where
  asymm : ∀ a b, bef a b → ¬ bef b a
  trans : ∀ a b c, bef a b → bef b c → bef a c
  neg : ∀ a b c, ¬ bef a b → ¬ bef b c → ¬ bef a c

def Heap (bef : α → α → Prop) (n : Nat) (H : Nat → α) : Prop := ∀ i, 0 < i → i < n → ¬ bef (H i) (H ((i - 1) / 2))
/-- A heap but for what stands at a, which may go ahead of what stands above it. -/
def HeapUp (bef : α → α → Prop) (n : Nat) (H : Nat → α) (a : Nat) : Prop :=
  (∀ i, 0 < i → i < n → i ≠ a → ¬ bef (H i) (H ((i - 1) / 2))) ∧ (0 < a → ∀ i, 0 < i → i < n → (i - 1) / 2 = a → ¬ bef (H i) (H ((a - 1) / 2)))
/-- A heap but for what stands at a, ahead of which those below may go. -/
def HeapDown (bef : α → α → Prop) (n : Nat) (H : Nat → α) (a : Nat) : Prop :=
  (∀ i, 0 < i → i < n → (i - 1) / 2 ≠ a → ¬ bef (H i) (H ((i - 1) / 2))) ∧ (0 < a → ∀ i, 0 < i → i < n → (i - 1) / 2 = a → ¬ bef (H i) (H ((a - 1) / 2)))

variable {bef : α → α → Prop}
theorem heap_root (o : Ord3 bef) {n : Nat} {H : Nat → α} (hi : ∀ a, ¬ bef a a) (h : Heap bef n H) : ∀ i, i < n → ¬ bef (H i) (H 0) := by
  intro i
  induction i using Nat.strongRecOn with
  | ind i ih =>
    intro hn
    by_cases h0 : i = 0
    · subst h0; exact hi _
    · exact o.neg _ _ _ (h i (by omega) hn) (ih ((i - 1) / 2) (by omega) (by omega))
/-- One more at the end. -/
theorem heap_push {n : Nat} {H : Nat → α} (v : α) (h : Heap bef n H) : HeapUp bef (n + 1) (upd H n v) n := by
  refine ⟨fun i h0 hi hne => ?_, fun _ i h0 hi he => by omega⟩
  rw [upd_ne _ _ _ hne, upd_ne _ _ _ (show (i - 1) / 2 ≠ n by omega)]
  exact h i h0 (by omega)
theorem up_done {n a : Nat} {H : Nat → α} (h : HeapUp bef n H a) (hd : a = 0 ∨ ¬ bef (H a) (H ((a - 1) / 2))) : Heap bef n H := by
  intro i h0 hi
  by_cases e : i = a
  · subst e
    rcases hd with hd | hd
    · omega
    · exact hd
  · exact h.1 i h0 hi e
theorem up_step (o : Ord3 bef) {n a : Nat} {H : Nat → α} (h : HeapUp bef n H a) (h0 : 0 < a) (han : a < n) (hb : bef (H a) (H ((a - 1) / 2))) : HeapUp bef n (swp H a ((a - 1) / 2)) ((a - 1) / 2) := by
  have hne : a ≠ (a - 1) / 2 := by omega
  refine ⟨fun i i0 hi hia => ?_, fun hp i i0 hi hc => ?_⟩
  · by_cases e : i = a
    · subst e
      rw [swp_i _ hne, swp_j]
      exact o.asymm _ _ hb
    · rw [swp_ne _ e hia]
      by_cases e2 : (i - 1) / 2 = a
      · rw [e2, swp_i _ hne]
        exact h.2 h0 i i0 hi e2
      · by_cases e3 : (i - 1) / 2 = (a - 1) / 2
        · rw [e3, swp_j]
          intro hx
          have := h.1 i i0 hi e
          rw [e3] at this
          exact this (o.trans _ _ _ hx hb)
        · rw [swp_ne _ e2 e3]
          exact h.1 i i0 hi e
  · have hpp := h.1 ((a - 1) / 2) hp (by omega) (Ne.symm hne)
    rw [swp_ne H (show ((a - 1) / 2 - 1) / 2 ≠ a by omega) (show ((a - 1) / 2 - 1) / 2 ≠ (a - 1) / 2 by omega)]
    by_cases e : i = a
    · subst e
      rw [swp_i _ hne]
      exact hpp
    · rw [swp_ne _ e (show i ≠ (a - 1) / 2 by omega)]
      have := h.1 i i0 hi e
      rw [hc] at this
      exact o.neg _ _ _ this hpp
/-- The first one goes, the last one takes its place. -/
theorem heap_pop {n : Nat} {H : Nat → α} (h : Heap bef (n + 1) H) : HeapDown bef n (upd H 0 (H n)) 0 := by
  refine ⟨fun i i0 hi hne => ?_, fun h0 => by omega⟩
  rw [upd_ne _ _ _ (show i ≠ 0 by omega), upd_ne _ _ _ hne]
  exact h i i0 (by omega)
theorem down_done (o : Ord3 bef) {n a c : Nat} {H : Nat → α} (h : HeapDown bef n H a) (hc : c < n → (c - 1) / 2 = a ∧ 0 < c ∧ ¬ bef (H c) (H a)) (hmin : ∀ i, 0 < i → i < n → (i - 1) / 2 = a → c < n ∧ ¬ bef (H i) (H c)) : Heap bef n H := by
  intro i i0 hi
  by_cases e : (i - 1) / 2 = a
  · obtain ⟨h1, h2⟩ := hmin i i0 hi e
    rw [e]
    exact o.neg _ _ _ h2 (hc h1).2.2
  · exact h.1 i i0 hi e
theorem down_step (o : Ord3 bef) {n a c : Nat} {H : Nat → α} (h : HeapDown bef n H a) (hcn : c < n) (c0 : 0 < c) (hca : (c - 1) / 2 = a) (hb : bef (H c) (H a)) (hmin : ∀ i, 0 < i → i < n → (i - 1) / 2 = a → ¬ bef (H i) (H c)) : HeapDown bef n (swp H a c) c := by
  have hne : a ≠ c := by omega
  refine ⟨fun i i0 hi hic => ?_, fun _ i i0 hi hic => ?_⟩
  · by_cases e : i = c
    · subst e
      rw [swp_j, hca, swp_i _ hne]
      exact o.asymm _ _ hb
    · by_cases e2 : (i - 1) / 2 = a
      · rw [e2, swp_i _ hne, swp_ne _ (show i ≠ a by omega) e]
        exact hmin i i0 hi e2
      · rw [swp_ne _ e2 hic]
        by_cases e3 : i = a
        · subst e3
          rw [swp_i _ hne]
          exact h.2 i0 c c0 hcn hca
        · rw [swp_ne _ e3 e]
          exact h.1 i i0 hi e2
  · rw [hca, swp_i _ hne, swp_ne _ (show i ≠ a by omega) (show i ≠ c by omega)]
    have := h.1 i i0 hi (by omega)
    rw [hic] at this
    exact this
end

theorem before_ord (S : Nat → Sail) (t0 : Int) : Ord3 (fun a b : List Nat => Before S t0 a b) := by
  refine ⟨fun a b h1 h2 => before_irrefl a (before_trans h1 h2), fun a b c h1 h2 => before_trans h1 h2, fun a b c h1 h2 h3 => ?_⟩
  rcases before_total (S := S) (t0 := t0) a b with h | h | h
  · exact h1 h
  · subst h; exact h2 h3
  · exact h2 (before_trans h h3)

end Go.Proofs.Ytaalhmaacaahhah
