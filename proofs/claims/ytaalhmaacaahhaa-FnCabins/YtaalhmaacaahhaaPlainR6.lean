/-
  OWN TEXT: rooms held one after the other to what is free: the same as good rooms; no theorem of the program.
-/
import Derived.Test.YtaalhmaacaahhaaPlainR5
namespace Go.Proofs.Ytaalhmaacaahhaa
open Go.RowKit

/-- The room may stand where so much is free. -/
def Stands (p : Pairs) (F : Nat → Int) (r : Room) : Prop :=
  In r.cab 0 ((p.n : Int) - 1) ∧ (r.all = true → F r.cab.toNat = p.B r.cab.toNat ∧ r.many = p.B r.cab.toNat) ∧ (r.all = false → In r.many 1 (F r.cab.toNat))
/-- What is free in a row of six, 0 behind the cabins. -/
def freeR (p : Pairs) (S : Nat → Room) (i k : Nat) : Int := if k < p.n then leftR p S i k else 0
theorem freeR_0 (p : Pairs) (S : Nat → Room) (k : Nat) : freeR p S 0 k = upto p.n p.B 0 k := by
  unfold freeR upto
  split
  · rw [leftR_0]
  · rfl
theorem freeR_lt {p : Pairs} {S : Nat → Room} {i k : Nat} (h : k < p.n) : freeR p S i k = leftR p S i k := if_pos h
theorem freeR_step (p : Pairs) (S : Nat → Room) (i l j : Nat) (hl : l < p.n) (h : (S i).cab = (l : Int)) : (if j = l then freeR p S i l - (S i).many else freeR p S i j) = freeR p S (i + 1) j := by
  by_cases e : j = l
  · subst e; rw [if_pos rfl, freeR_lt hl, freeR_lt hl, leftR_at p S i j h]
  · rw [if_neg e]
    unfold freeR
    split
    · rw [leftR_ne p S i j (by rw [h]; omega)]
    · rfl
theorem stands_free {p : Pairs} {S : Nat → Room} {i : Nat} {r : Room} : Stands p (freeR p S i) r ↔ Stands p (leftR p S i) r := by
  unfold Stands
  constructor
  · rintro ⟨h, h1, h2⟩
    have hl : r.cab.toNat < p.n := by unfold In at h; omega
    rw [freeR_lt hl] at h1 h2
    exact ⟨h, h1, h2⟩
  · rintro ⟨h, h1, h2⟩
    have hl : r.cab.toNat < p.n := by unfold In at h; omega
    rw [freeR_lt hl]
    exact ⟨h, h1, h2⟩
/-- Rooms are good, looked at one after the other. -/
def RoomsI (p : Pairs) (n : Nat) (S : Nat → Room) : Prop :=
  GoodC p ∧ n ≤ 60 ∧ ∀ i, i < n → In (S i).who 1 9999 ∧ ¬ Has (whoR S) i (S i).who ∧ Stands p (leftR p S i) (S i)
theorem used_none {S : Nat → Room} {k i : Nat} (h : ∀ j, j < i → (S j).cab ≠ (k : Int)) : usedR S k i = 0 := by
  induction i with
  | zero => rfl
  | succ i ih => unfold usedR; rw [ih (fun j hj => h j (by omega)), if_neg (h i (by omega))]; rfl
theorem left_le (p : Pairs) (S : Nat → Room) (k i : Nat) (h : ∀ j, j < i → In (S j).many 1 4) : leftR p S i k ≤ p.B k := by
  have := leftR_mono p S k 0 i (Nat.zero_le _) h
  rw [leftR_0] at this
  exact this
theorem rooms_steps {p : Pairs} {n : Nat} {S : Nat → Room} (hg : GoodC p) (hs : ∀ i, i < n → Stands p (leftR p S i) (S i)) : ∀ i, i ≤ n → (∀ j, j < i → In (S j).many 1 4) ∧ ∀ k, k < p.n → 0 ≤ leftR p S i k := by
  intro i
  induction i with
  | zero =>
    intro _
    refine ⟨fun j hj => by omega, fun k hk => ?_⟩
    have := (hg.2 k hk).2
    unfold In at this
    rw [leftR_0]; omega
  | succ i ih =>
    intro hi
    obtain ⟨a, b⟩ := ih (by omega)
    obtain ⟨hc, h1, h2⟩ := hs i (by omega)
    obtain ⟨l, hl⟩ : ∃ l : Nat, (S i).cab = l := ⟨(S i).cab.toNat, by unfold In at hc; omega⟩
    have hlt : l < p.n := by unfold In at hc; omega
    have et : (S i).cab.toNat = l := by omega
    rw [et] at h1 h2
    have hB := (hg.2 l hlt).2
    have hle := left_le p S l i a
    have hstep := leftR_at p S i l hl
    have hm : In (S i).many 1 4 ∧ 0 ≤ leftR p S (i + 1) l := by
      cases hall : (S i).all with
      | true =>
        have := h1 hall
        unfold In at hB ⊢
        omega
      | false =>
        have := h2 hall
        unfold In at hB this ⊢
        omega
    refine ⟨fun j hj => ?_, fun k hk => ?_⟩
    · by_cases e : j = i
      · subst e; exact hm.1
      · exact a j (by omega)
    · by_cases e : k = l
      · subst e; exact hm.2
      · rw [leftR_ne p S i k (by rw [hl]; omega)]; exact b k hk
theorem roomsS_of_I {p : Pairs} {n : Nat} {S : Nat → Room} (h : RoomsI p n S) : RoomsS p n S := by
  obtain ⟨hg, hn, hall⟩ := h
  have st := rooms_steps hg (fun i hi => (hall i hi).2.2)
  refine ⟨hg, hn, fun i hi => ⟨⟨(hall i hi).1, (hall i hi).2.1, (hall i hi).2.2.1, (st n (Nat.le_refl _)).1 i hi, fun ha => ((hall i hi).2.2.2.1 ha).2⟩, fun j hj he => ?_⟩, fun k hk => (st n (Nat.le_refl _)).2 k hk⟩
  obtain ⟨hc, h1, h2⟩ := (hall i hi).2.2
  obtain ⟨_, k1, k2⟩ := (hall j (by omega)).2.2
  obtain ⟨l, hl⟩ : ∃ l : Nat, (S i).cab = l := ⟨(S i).cab.toNat, by unfold In at hc; omega⟩
  have et : (S i).cab.toNat = l := by omega
  have ej : (S j).cab = (l : Int) := he.trans hl
  have ejt : (S j).cab.toNat = l := by omega
  rw [et] at h1 h2
  rw [ejt] at k1 k2
  have hmj := (st n (Nat.le_refl _)).1 j (by omega)
  have hle := left_le p S l j (fun t ht => (st n (Nat.le_refl _)).1 t (by omega))
  have hstep := leftR_at p S j l ej
  have hmono := leftR_mono p S l (j + 1) i (by omega) (fun t ht => (st n (Nat.le_refl _)).1 t (by omega))
  unfold In at hmj
  have hi0 : (S i).all = false := by
    cases ha : (S i).all with
    | false => rfl
    | true => have := (h1 ha).1; omega
  refine ⟨?_, hi0⟩
  cases ha : (S j).all with
  | false => rfl
  | true =>
    have := k1 ha
    have h3 := h2 hi0
    unfold In at h3
    omega
theorem roomsI_of_S {p : Pairs} {n : Nat} {S : Nat → Room} (h : RoomsS p n S) : RoomsI p n S := by
  have hm := h.manys
  obtain ⟨hg, hn, hall, hleft⟩ := h
  refine ⟨hg, hn, fun i hi => ?_⟩
  obtain ⟨⟨h1, h2, hc, h4, h5⟩, h6⟩ := hall i hi
  refine ⟨h1, h2, hc, fun ha => ⟨?_, h5 ha⟩, fun _ => ⟨h4.1, ?_⟩⟩
  · have : usedR S (S i).cab.toNat i = 0 := used_none (fun j hj e => by
      have := (h6 j hj (by unfold In at hc; omega)).2
      rw [ha] at this; cases this)
    unfold leftR; rw [this]; omega
  · have hlt : (S i).cab.toNat < p.n := by unfold In at hc; omega
    have hstep := leftR_at p S i (S i).cab.toNat (by unfold In at hc; omega)
    have hmono := leftR_mono p S (S i).cab.toNat (i + 1) n (by omega) hm
    have := hleft _ hlt
    omega
theorem rooms_iff {p : Pairs} {n : Nat} {S : Nat → Room} : RoomsI p n S ↔ RoomsS p n S := ⟨roomsS_of_I, roomsI_of_S⟩
/-- Good rooms are fewer than the berths of six cabins. -/
theorem rooms_few {p : Pairs} {n : Nat} {S : Nat → Room} (h : RoomsS p n S) : n ≤ 24 := by
  have hm := h.manys
  obtain ⟨hg, hn, hall, hleft⟩ := h
  have hcab : ∀ i, i < n → ∃ l : Nat, (S i).cab = l ∧ l < p.n := fun i hi => by
    have hc := (hall i hi).1.2.2.1
    exact ⟨(S i).cab.toNat, by unfold In at hc; omega, by unfold In at hc; omega⟩
  have hp := hg.1
  have hsum : ∀ i, i ≤ n → (i : Int) ≤ usedR S 0 i + usedR S 1 i + usedR S 2 i + usedR S 3 i + usedR S 4 i + usedR S 5 i := by
    intro i
    induction i with
    | zero => intro _; simp [usedR]
    | succ i ih =>
      intro hi
      have := ih (by omega)
      obtain ⟨l, hl, hlt⟩ := hcab i (by omega)
      have h1 := (hm i (by omega)).1
      have hl6 : l = 0 ∨ l = 1 ∨ l = 2 ∨ l = 3 ∨ l = 4 ∨ l = 5 := by omega
      unfold usedR
      rw [hl]
      rcases hl6 with rfl | rfl | rfl | rfl | rfl | rfl <;> simp <;> omega
  have hu : ∀ k, usedR S k n ≤ 4 := fun k => by
    by_cases hk : k < p.n
    · have h1 := hleft k hk
      have h2 := (hg.2 k hk).2
      unfold In at h2
      unfold leftR at h1
      omega
    · rw [used_none (fun j hj e => by obtain ⟨l, hl, hlt⟩ := hcab j hj; rw [hl] at e; omega)]; omega
  have := hsum n (Nat.le_refl _)
  have := hu 0
  have := hu 1
  have := hu 2
  have := hu 3
  have := hu 4
  have := hu 5
  omega

end Go.Proofs.Ytaalhmaacaahhaa
