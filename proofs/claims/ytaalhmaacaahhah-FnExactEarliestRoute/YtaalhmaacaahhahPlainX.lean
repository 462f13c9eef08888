/-
  OWN TEXT: the search over a heap of routes, in plain words.
-/
import Derived.Test.YtaalhmaacaahhahKitH
namespace Go.Proofs.Ytaalhmaacaahhah
open Go.RowKit

def ids (S : Nat → Sail) (p : List Nat) : List Int := p.map (fun k => (S k).id)
theorem ids_snoc (S : Nat → Sail) (p : List Nat) (k : Nat) : ids S (p ++ [k]) = ids S p ++ [(S k).id] := by simp [ids]
theorem ids_length (S : Nat → Sail) (p : List Nat) : (ids S p).length = p.length := by simp [ids]
/-- The Ids rise. -/
def Rising (N : Nat) (S : Nat → Sail) : Prop := ∀ i j, i < j → j < N → (S i).id < (S j).id
theorem rising_of {N : Nat} {S : Nat → Sail} (h : GoodTab N S) : Rising N S := by
  intro i j hij
  induction j with
  | zero => omega
  | succ j ih =>
    intro hj
    have h1 := (h.2 (j + 1) hj).2 (by omega)
    rw [Nat.add_sub_cancel] at h1
    by_cases e : i = j
    · subst e; exact h1
    · have := ih (by omega) (by omega); omega
theorem lex_ids {N : Nat} {S : Nat → Sail} (hr : Rising N S) : ∀ {p q : List Nat}, (∀ k ∈ p, k < N) → (∀ k ∈ q, k < N) → lexLt p q → lexI (ids S p) (ids S q)
  | _, [], _, _, h => absurd h (lexLt_nil _)
  | [], _ :: _, _, _, _ => trivial
  | a :: p, b :: q, hp, hq, h => by
    rcases h with h | ⟨rfl, h⟩
    · exact .inl (hr a b h (hq b (by simp)))
    · exact .inr ⟨rfl, lex_ids hr (fun k hk => hp k (by simp [hk])) (fun k hk => hq k (by simp [hk])) h⟩
theorem ids_inj {N : Nat} {S : Nat → Sail} (hr : Rising N S) : ∀ {p q : List Nat}, (∀ k ∈ p, k < N) → (∀ k ∈ q, k < N) → ids S p = ids S q → p = q
  | [], [], _, _, _ => rfl
  | [], _ :: _, _, _, h => by simp [ids] at h
  | _ :: _, [], _, _, h => by simp [ids] at h
  | a :: p, b :: q, hp, hq, h => by
    simp only [ids, List.map_cons, List.cons.injEq] at h
    have ha := hp a (by simp)
    have hb := hq b (by simp)
    have e : a = b := by
      by_cases h1 : a < b
      · have := hr a b h1 hb; omega
      · by_cases h2 : b < a
        · have := hr b a h2 ha; omega
        · omega
    rw [e, ids_inj hr (fun k hk => hp k (by simp [hk])) (fun k hk => hq k (by simp [hk])) h.2]
theorem path_lt {N : Nat} {S : Nat → Sail} {fr : ByteArray} {t0 : Int} {p : List Nat} (h : Path N S fr t0 p) : ∀ k ∈ p, k < N := by
  induction h with
  | nil => intro k hk; cases hk
  | snoc _ hk _ _ ih =>
    intro k h
    rcases List.mem_append.1 h with h | h
    · exact ih k h
    · simp at h; omega

section
variable {N : Nat} {S : Nat → Sail} {fr : ByteArray} {t0 : Int}
/-- The route r is the way p. -/
def Is (N : Nat) (S : Nat → Sail) (fr : ByteArray) (t0 : Int) (r : Rt) (p : List Nat) : Prop :=
  Path N S fr t0 p ∧ p.length ≤ 3 ∧ r.ls = ids S p ∧ r.pl = placeOf S fr p ∧ r.t = timeOf S t0 p
theorem bef_of (hr : Rising N S) {r r' : Rt} {p q : List Nat} (h1 : Is N S fr t0 r p) (h2 : Is N S fr t0 r' q) (h : Before S t0 p q) : RBefR r r' := by
  unfold RBefR RBef
  rw [h1.2.2.1, h1.2.2.2.2, h2.2.2.1, h2.2.2.2.2, ids_length, ids_length]
  rcases h with h | ⟨e, h | ⟨e2, h⟩⟩
  · exact .inl h
  · exact .inr ⟨e, .inl h⟩
  · exact .inr ⟨e, .inr ⟨e2, lex_ids hr (path_lt h1.1) (path_lt h2.1) h⟩⟩
/-- What is open in the search. -/
structure SearchH (N : Nat) (S : Nat → Sail) (fr : ByteArray) (t0 : Int) (tt : ByteArray) (n : Nat) (H : Nat → Rt) : Prop where
  is : ∀ i, i < n → ∃ p, Is N S fr t0 (H i) p
  all : ∀ q, Goal N S fr t0 tt q → ∃ i p r, i < n ∧ Is N S fr t0 (H i) p ∧ q = p ++ r
theorem searchH_end {tt : ByteArray} {H : Nat → Rt} (h : SearchH N S fr t0 tt 0 H) : ∀ q, ¬ Goal N S fr t0 tt q := by
  intro q hq
  obtain ⟨i, _, _, hi, _⟩ := h.all q hq
  omega
theorem searchH_found {tt : ByteArray} (hd : ∀ k, k < N → (S k).dep < (S k).arr) (hr : Rising N S) {n : Nat} {H : Nat → Rt} (h : SearchH N S fr t0 tt n H) (hh : Heap RBefR n H) {p : List Nat} (hp : Is N S fr t0 (H 0) p) (hpl : placeOf S fr p = tt) : Best N S fr t0 tt p := by
  refine ⟨⟨hp.1, hp.2.1, hpl⟩, fun q hq hbef => ?_⟩
  obtain ⟨i, a, r, hi, ha, rfl⟩ := h.all q hq
  have hroot := heap_root rbef_ord rbef_irrefl hh i hi
  by_cases e : r = []
  · subst e; rw [List.append_nil] at hbef; exact hroot (bef_of hr ha hp hbef)
  · exact hroot (bef_of hr ha hp (before_trans (.inl (hq.1.later hd e)) hbef))
theorem searchH_next {tt : ByteArray} (hr : Rising N S) {n m : Nat} {H H2 : Nat → Rt} (h : SearchH N S fr t0 tt (n + 1) H) {p : List Nat} (hp : Is N S fr t0 (H 0) p) (hpl : placeOf S fr p ≠ tt)
    (hold : ∀ i, i < n + 1 → H i = H 0 ∨ ∃ x, x < m ∧ H2 x = H i) (hnew : ∀ x, x < m → (∃ i, i < n + 1 ∧ H2 x = H i) ∨ ∃ k, Is N S fr t0 (H2 x) (p ++ [k]))
    (hall : p.length < 3 → ∀ k, Path N S fr t0 (p ++ [k]) → ∃ x, x < m ∧ Is N S fr t0 (H2 x) (p ++ [k])) : SearchH N S fr t0 tt m H2 := by
  refine ⟨fun x hx => ?_, fun q hq => ?_⟩
  · rcases hnew x hx with ⟨i, hi, e⟩ | ⟨k, hk⟩
    · rw [e]; exact h.is i hi
    · exact ⟨_, hk⟩
  · obtain ⟨i, a, r, hi, ha, rfl⟩ := h.all q hq
    rcases hold i hi with e | ⟨x, hx, e⟩
    · rw [e] at ha
      match r, hq with
      | [], hq =>
        rw [List.append_nil] at hq
        exact absurd (by rw [← hp.2.2.2.1, ha.2.2.2.1]; exact hq.2.2) hpl
      | k :: r, hq =>
        -- the way a and the way p have the same Ids, place and time
        have e2 : a ++ k :: r = (a ++ [k]) ++ r := by simp
        have hlen : a.length < 3 := by have := hq.2.1; simp at this; omega
        have hpa : p = a := by
          have hids : ids S p = ids S a := by rw [← hp.2.2.1, ha.2.2.1]
          exact ids_inj hr (path_lt hp.1) (path_lt ha.1) hids
        subst hpa
        have hpk : Path N S fr t0 (p ++ [k]) := by have := hq.1; rw [e2] at this; exact this.pre
        obtain ⟨x, hx, hi2⟩ := hall hlen k hpk
        exact ⟨x, p ++ [k], r, hx, hi2, e2⟩
    · exact ⟨x, a, r, hx, by rw [e]; exact ha, rfl⟩
end

/-- How much a route weighs in the search. -/
def wt (r : Rt) : Nat := 7 ^ (3 - r.ls.length)
theorem wt_pos (r : Rt) : 1 ≤ wt r := Nat.one_le_pow _ _ (by decide)
theorem tot_ge {α : Type} (f : α → Nat) (H : Nat → α) (hf : ∀ a, 1 ≤ f a) : ∀ n, n ≤ tot f H n
  | 0 => Nat.zero_le _
  | n + 1 => by unfold tot; have := tot_ge f H hf n; have := hf (H n); omega
theorem tot_has {α : Type} {Q : α → Prop} {H : Nat → α} {n : Nat} : 0 < tot (fun a => @ite Nat (Q a) (Classical.propDecidable _) 1 0) H n ↔ ∃ i, i < n ∧ Q (H i) := by
  constructor
  · intro h
    obtain ⟨i, hi, h2⟩ := tot_mem _ H h
    refine ⟨i, hi, ?_⟩
    by_cases hq : Q (H i)
    · exact hq
    · simp [hq] at h2
  · rintro ⟨i, hi, hq⟩
    have := tot_pos (fun a => @ite Nat (Q a) (Classical.propDecidable _) 1 0) H hi
    simp only [hq, if_true] at this
    omega
theorem pop_old {n : Nat} {H H' : Nat → Rt} (h : ∀ f, tot f H' n + f (H 0) = tot f H (n + 1)) : ∀ i, i < n + 1 → H i = H 0 ∨ ∃ x, x < n ∧ H' x = H i := by
  intro i hi
  by_cases e : H i = H 0
  · exact .inl e
  · have h1 := h (fun a => @ite Nat (a = H i) (Classical.propDecidable _) 1 0)
    have h2 := (tot_has (Q := fun a => a = H i) (H := H) (n := n + 1)).2 ⟨i, hi, rfl⟩
    simp only [show ¬ (H 0 = H i) from fun h => e h.symm, if_false, Nat.add_zero] at h1
    rw [← h1] at h2
    obtain ⟨x, hx, hq⟩ := tot_has.1 h2
    exact .inr ⟨x, hx, hq⟩
theorem pop_new {n : Nat} {H H' : Nat → Rt} (h : ∀ f, tot f H' n + f (H 0) = tot f H (n + 1)) : ∀ x, x < n → ∃ i, i < n + 1 ∧ H i = H' x := by
  intro x hx
  have h1 := h (fun a => @ite Nat (a = H' x) (Classical.propDecidable _) 1 0)
  have h2 := (tot_has (Q := fun a => a = H' x) (H := H') (n := n)).2 ⟨x, hx, rfl⟩
  have h3 : 0 < tot (fun a => @ite Nat (a = H' x) (Classical.propDecidable _) 1 0) H (n + 1) := by omega
  exact tot_has.1 h3
theorem push_old {n : Nat} {H H' : Nat → Rt} {r : Rt} (h : ∀ f, tot f H' (n + 1) = tot f H n + f r) : ∀ i, i < n → ∃ x, x < n + 1 ∧ H' x = H i := by
  intro i hi
  have h1 := h (fun a => @ite Nat (a = H i) (Classical.propDecidable _) 1 0)
  have h2 := (tot_has (Q := fun a => a = H i) (H := H) (n := n)).2 ⟨i, hi, rfl⟩
  exact (tot_has (Q := fun a => a = H i) (H := H') (n := n + 1)).1 (by omega)
theorem push_has {n : Nat} {H H' : Nat → Rt} {r : Rt} (h : ∀ f, tot f H' (n + 1) = tot f H n + f r) : ∃ x, x < n + 1 ∧ H' x = r := by
  have h1 := h (fun a => @ite Nat (a = r) (Classical.propDecidable _) 1 0)
  simp only [if_true] at h1
  exact (tot_has (Q := fun a => a = r) (H := H') (n := n + 1)).1 (by omega)
theorem push_new {n : Nat} {H H' : Nat → Rt} {r : Rt} (h : ∀ f, tot f H' (n + 1) = tot f H n + f r) : ∀ x, x < n + 1 → H' x = r ∨ ∃ i, i < n ∧ H' x = H i := by
  intro x hx
  by_cases e : H' x = r
  · exact .inl e
  · have h1 := h (fun a => @ite Nat (a = H' x) (Classical.propDecidable _) 1 0)
    have h2 := (tot_has (Q := fun a => a = H' x) (H := H') (n := n + 1)).2 ⟨x, hx, rfl⟩
    simp only [show ¬ (r = H' x) from fun h => e h.symm, if_false, Nat.add_zero] at h1
    rw [h1] at h2
    obtain ⟨i, hi, hq⟩ := tot_has.1 h2
    exact .inr ⟨i, hi, hq.symm⟩

end Go.Proofs.Ytaalhmaacaahhah
