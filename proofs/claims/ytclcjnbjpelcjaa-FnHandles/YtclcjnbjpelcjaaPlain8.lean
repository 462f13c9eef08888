/-
  OWN TEXT: plain words: what put and drop do to a good arena and to handles.
-/
import Derived.Test.YtclcjnbjpelcjaaPlain5
import Derived.Test.YtclcjnbjpelcjaaPlain6
namespace Go.Proofs.Ytclcjnbjpelcjaa

/-- An answer's arena is good. -/
def OutGood (o : Out) : Prop := Named o.n o.m o.A o.U o.V o.F
theorem freeSlot_used (a : Int) : freeSlot a true = false := rfl
theorem used_ok {a v : Int} (h : okSlot a true v = true) : 0 ≤ a ∧ a < 9 := by
  rcases okSlot_cases a true v with ⟨_, ⟨_, h1, h2, _⟩ | ⟨h0, _⟩ | ⟨h0, _⟩⟩ | ⟨h0, _⟩
  · exact ⟨h1, h2⟩
  · cases h0
  · cases h0
  · rw [h] at h0; cases h0
theorem ok_used {a v : Int} (h1 : 0 ≤ a) (h2 : a < 9) : okSlot a true v = true := by
  simp [okSlot]; omega
theorem ok_free {a : Int} (h1 : 0 ≤ a) (h2 : a ≤ 9) : okSlot a false 0 = true := by
  simp [okSlot]; omega
theorem free_lt {a : Int} {u : Bool} (h : freeSlot a u = true) : u = false ∧ a < 9 := by
  cases u <;> simp_all [freeSlot]

theorem put_good {n m : Nat} {A : Nat → Int} {U : Nat → Bool} {V F : Nat → Int} (u : Int) (h : Named n m A U V F) (hc : (putOut n m A U V F u).1.c = 0) :
    OutGood (putOut n m A U V F u).1 ∧ (∃ q : Nat, (putOut n m A U V F u).2.1 = q ∧ q < (putOut n m A U V F u).1.n ∧ (putOut n m A U V F u).1.A q = (putOut n m A U V F u).2.2 ∧ (putOut n m A U V F u).1.U q = true ∧ (putOut n m A U V F u).1.V q = u) ∧
      (∀ (q : Nat) (a : Int), q < n → a < A q → q < (putOut n m A U V F u).1.n ∧ a < (putOut n m A U V F u).1.A q) := by
  obtain ⟨h1, h2, h3, h4⟩ := h
  unfold putOut at hc ⊢
  by_cases hm : 0 < m
  · rw [if_pos hm] at hc ⊢
    have hl := h3 (m - 1) (by omega)
    obtain ⟨⟨f1, f2, f3⟩, f4⟩ := hl
    obtain ⟨q, hq⟩ := Int.eq_ofNat_of_zero_le f1
    simp only [hq, Int.toNat_natCast] at f3 ⊢
    obtain ⟨fu, fa⟩ := free_lt f3
    have hqn : q < n := by omega
    refine ⟨⟨h1, ?_, ?_, ?_⟩, ⟨q, rfl, hqn, rfl, put_at _ _ _, put_at _ _ _⟩, fun k a hk ha => ⟨hk, ha⟩⟩
    · intro j hj
      by_cases e : j = q
      · subst e; simp only [put_at]; exact ok_used (okSlot_le (h2 j hj)).1 fa
      · simp only [put_ne _ _ _ _ e]; exact h2 j hj
    · intro i hi
      have ho := h3 i (by simp only at hi; omega)
      have hne : F i ≠ F (m - 1) := f4 i hi
      refine ⟨⟨ho.1.1, ho.1.2.1, ?_⟩, ho.2⟩
      have e : (F i).toNat ≠ q := by have := ho.1.1; omega
      simp only [put_ne _ _ _ _ e]; exact ho.1.2.2
    · intro k hk hf
      by_cases e : k = q
      · subst e; simp only [put_at, freeSlot_used] at hf; cases hf
      · simp only [put_ne _ _ _ _ e] at hf
        obtain ⟨i, hi, ei⟩ := h4 k hk hf
        have : i ≠ m - 1 := by rintro rfl; omega
        exact ⟨i, by show i < m - 1; omega, ei⟩
  · rw [if_neg hm] at hc ⊢
    by_cases h20 : n = 20
    · rw [if_pos h20] at hc; simp at hc
    · rw [if_neg h20]
      refine ⟨⟨by show n + 1 ≤ 20; omega, ?_, ?_, ?_⟩, ⟨n, rfl, Nat.lt_succ_self n, put_at _ _ _, put_at _ _ _, put_at _ _ _⟩, fun k a hk ha => ⟨by show k < n + 1; omega, by simp only [put_ne A n 0 k (by omega)]; exact ha⟩⟩
      · intro j hj
        by_cases e : j = n
        · subst e; simp only [put_at]; exact ok_used (by omega) (by omega)
        · simp only [put_ne _ _ _ _ e]; exact h2 j (by simp only at hj; omega)
      · intro i hi; simp only at hi; omega
      · intro k hk hf
        by_cases e : k = n
        · subst e; simp only [put_at, freeSlot_used] at hf; cases hf
        · simp only [put_ne _ _ _ _ e] at hf
          exact h4 k (by simp only at hk; omega) hf

theorem put_codes (n m : Nat) (A : Nat → Int) (U : Nat → Bool) (V F : Nat → Int) (u : Int) : (putOut n m A U V F u).1.c = 0 ∨ (putOut n m A U V F u).1.c = 2 := by
  unfold putOut
  split
  · exact .inl rfl
  · split
    · exact .inr rfl
    · exact .inl rfl

theorem drop_good {n m : Nat} {A : Nat → Int} {U : Nat → Bool} {V F : Nat → Int} {x a : Int} (h : Named n m A U V F) (hf : faultOf n A U x a = 0) :
    (dropOut n m A U V F x a).c = 0 ∧ OutGood (dropOut n m A U V F x a) ∧ ∃ q : Nat, x = q ∧ q < (dropOut n m A U V F x a).n ∧ a < (dropOut n m A U V F x a).A q := by
  obtain ⟨q, rfl, hq, ha, hu⟩ := fault_zero hf
  obtain ⟨h1, h2, h3, h4⟩ := h
  have hok := h2 q hq
  rw [hu] at hok
  obtain ⟨a1, a2⟩ := used_ok hok
  have hfr : ∀ i, i < m → (F i).toNat ≠ q := by
    intro i hi e
    have := (h3 i hi).1.2.2
    rw [e, hu, freeSlot_used] at this
    cases this
  unfold dropOut
  rw [if_pos hf]
  simp only [Int.toNat_natCast]
  by_cases h9 : a + 1 < 9
  · rw [if_pos h9]
    refine ⟨rfl, ⟨h1, ?_, ?_, ?_⟩, q, rfl, hq, by simp only [put_at]; omega⟩
    · intro j hj
      by_cases e : j = q
      · subst e; simp only [put_at]; exact ok_free (by omega) (by omega)
      · simp only [put_ne _ _ _ _ e]; exact h2 j hj
    · intro i hi
      by_cases e : i = m
      · subst e
        refine ⟨?_, fun j hj => ?_⟩
        · simp only [put_at]
          exact ⟨by omega, by omega, by simp only [Int.toNat_natCast, put_at]; simp [freeSlot]; omega⟩
        · simp only [put_at, put_ne F i (q : Int) j (by omega)]
          intro e2
          have := hfr j (by omega)
          omega
      · have hi' : i < m := by simp only at hi; omega
        have ho := h3 i hi'
        refine ⟨?_, fun j hj => ?_⟩
        · simp only [put_ne F m (q : Int) i (by omega)]
          refine ⟨ho.1.1, ho.1.2.1, ?_⟩
          simp only [put_ne _ _ _ _ (hfr i hi')]
          exact ho.1.2.2
        · simp only [put_ne F m (q : Int) i (by omega), put_ne F m (q : Int) j (by omega)]
          exact ho.2 j hj
    · intro k hk hf2
      by_cases e : k = q
      · subst e; exact ⟨m, Nat.lt_succ_self m, put_at _ _ _⟩
      · simp only [put_ne _ _ _ _ e] at hf2
        obtain ⟨i, hi, ei⟩ := h4 k hk hf2
        exact ⟨i, by show i < m + 1; omega, by simp only [put_ne F m (q : Int) i (by omega)]; exact ei⟩
  · rw [if_neg h9]
    have e9 : a + 1 = 9 := by omega
    refine ⟨rfl, ⟨h1, ?_, ?_, ?_⟩, q, rfl, hq, by simp only [put_at]; omega⟩
    · intro j hj
      by_cases e : j = q
      · subst e; simp only [put_at]; exact ok_free (by omega) (by omega)
      · simp only [put_ne _ _ _ _ e]; exact h2 j hj
    · intro i hi
      have ho := h3 i hi
      refine ⟨⟨ho.1.1, ho.1.2.1, ?_⟩, ho.2⟩
      simp only [put_ne _ _ _ _ (hfr i hi)]
      exact ho.1.2.2
    · intro k hk hf2
      by_cases e : k = q
      · subst e; simp only [put_at, e9] at hf2; cases hf2
      · simp only [put_ne _ _ _ _ e] at hf2
        exact h4 k hk hf2

end Go.Proofs.Ytclcjnbjpelcjaa
