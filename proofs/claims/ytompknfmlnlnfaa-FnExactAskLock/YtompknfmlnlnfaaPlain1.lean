/-
  OWN TEXT: plain mathematics of chapter 1 (no program): when an arena is good, said in two ways, and that the two are one.
-/
namespace Go.Proofs.Ytompknfmlnlnfaa

/-- A slot as it should be: the age in 0..9, below 9 if used, the value 0 if not. -/
def okSlot (a : Int) (u : Bool) (v : Int) : Bool := decide (0 ≤ a) && decide (a ≤ 9) && (if u then decide (a < 9) else decide (v = 0))
/-- A slot that may be used again. -/
def freeSlot (a : Int) (u : Bool) : Bool := !u && decide (a < 9)
/-- How many of the first k are free. -/
def cntFree (A : Nat → Int) (U : Nat → Bool) : Nat → Nat
  | 0 => 0
  | k + 1 => cntFree A U k + (if freeSlot (A k) (U k) then 1 else 0)
theorem cntFree_succ (A : Nat → Int) (U : Nat → Bool) (k : Nat) : cntFree A U (k + 1) = cntFree A U k + (if freeSlot (A k) (U k) then 1 else 0) := rfl
theorem cntFree_le (A : Nat → Int) (U : Nat → Bool) (k : Nat) : cntFree A U k ≤ k := by
  induction k with
  | zero => exact Nat.le_refl _
  | succ k ih => unfold cntFree; split <;> omega

/-- The number x names a free slot. -/
def freeAt (n : Nat) (A : Nat → Int) (U : Nat → Bool) (x : Int) : Prop := 0 ≤ x ∧ x < n ∧ freeSlot (A x.toNat) (U x.toNat) = true
/-- Entry i of the free list is as it should be. -/
def okFree (n : Nat) (A : Nat → Int) (U : Nat → Bool) (F : Nat → Int) (i : Nat) : Prop := freeAt n A U (F i) ∧ ∀ j, j < i → F j ≠ F i

def allOk (A : Nat → Int) (U : Nat → Bool) (V : Nat → Int) (k : Nat) : Prop := ∀ j, j < k → okSlot (A j) (U j) (V j) = true
def allFree (n : Nat) (A : Nat → Int) (U : Nat → Bool) (F : Nat → Int) (k : Nat) : Prop := ∀ i, i < k → okFree n A U F i

/-- An arena is good, by counting. -/
def Good (n m : Nat) (A : Nat → Int) (U : Nat → Bool) (V F : Nat → Int) : Prop :=
  n ≤ 20 ∧ allOk A U V n ∧ allFree n A U F m ∧ cntFree A U n = m
/-- An arena is good, by naming. -/
def Named (n m : Nat) (A : Nat → Int) (U : Nat → Bool) (V F : Nat → Int) : Prop :=
  n ≤ 20 ∧ allOk A U V n ∧ allFree n A U F m ∧ ∀ k, k < n → freeSlot (A k) (U k) = true → ∃ i, i < m ∧ F i = k

theorem okSlot_cases (a : Int) (u : Bool) (v : Int) :
    (okSlot a u v = true ∧ ((u = true ∧ 0 ≤ a ∧ a < 9 ∧ freeSlot a u = false) ∨ (u = false ∧ 0 ≤ a ∧ a < 9 ∧ v = 0 ∧ freeSlot a u = true) ∨ (u = false ∧ a = 9 ∧ v = 0 ∧ freeSlot a u = false))) ∨
    (okSlot a u v = false ∧ (a < 0 ∨ 9 < a ∨ (u = true ∧ a = 9) ∨ (u = false ∧ 0 ≤ a ∧ a ≤ 9 ∧ v ≠ 0))) := by
  unfold okSlot freeSlot
  cases u <;> simp <;> omega

theorem allOk_succ {A : Nat → Int} {U : Nat → Bool} {V : Nat → Int} {k : Nat} {a v : Int} {u : Bool} (h : allOk A U V k) (e : A k = a ∧ U k = u ∧ V k = v) (ho : okSlot a u v = true) : allOk A U V (k + 1) := by
  intro j hj
  by_cases hjk : j = k
  · subst hjk; rw [e.1, e.2.1, e.2.2]; exact ho
  · exact h j (by omega)
theorem not_good_slot {n m : Nat} {A : Nat → Int} {U : Nat → Bool} {V F : Nat → Int} {k : Nat} {a v : Int} {u : Bool} (hlt : k < n) (e : A k = a ∧ U k = u ∧ V k = v) (ho : okSlot a u v = false) : false = true ↔ Good n m A U V F := by
  constructor
  · intro h; cases h
  · rintro ⟨_, h, _⟩
    have := h k hlt
    rw [e.1, e.2.1, e.2.2, ho] at this
    cases this
theorem not_good_free {n m : Nat} {A : Nat → Int} {U : Nat → Bool} {V F : Nat → Int} {i : Nat} (hlt : i < m) (ho : ¬ okFree n A U F i) : false = true ↔ Good n m A U V F := by
  constructor
  · intro h; cases h
  · rintro ⟨_, _, h, _⟩
    exact absurd (h i hlt) ho
theorem allFree_succ {n : Nat} {A : Nat → Int} {U : Nat → Bool} {F : Nat → Int} {k : Nat} (h : allFree n A U F k) (ho : okFree n A U F k) : allFree n A U F (k + 1) := by
  intro j hj
  by_cases hjk : j = k
  · subst hjk; exact ho
  · exact h j (by omega)
theorem okSlot_le {a v : Int} {u : Bool} (h : okSlot a u v = true) : 0 ≤ a ∧ a ≤ 9 := by
  unfold okSlot at h
  simp only [Bool.and_eq_true, decide_eq_true_eq] at h
  exact h.1

/-- Whether j is among the first i numbers of F. -/
def listedB (F : Nat → Int) : Nat → Nat → Bool
  | 0, _ => false
  | i + 1, j => listedB F i j || decide (F i = j)
theorem listedB_succ (F : Nat → Int) (i j : Nat) : listedB F (i + 1) j = (listedB F i j || decide (F i = j)) := rfl
theorem listedB_iff (F : Nat → Int) (i j : Nat) : listedB F i j = true ↔ ∃ t, t < i ∧ F t = j := by
  induction i with
  | zero => simp [listedB]
  | succ i ih =>
    rw [listedB_succ, Bool.or_eq_true, ih, decide_eq_true_eq]
    constructor
    · rintro (⟨t, h1, h2⟩ | h)
      · exact ⟨t, by omega, h2⟩
      · exact ⟨i, by omega, h⟩
    · rintro ⟨t, h1, h2⟩
      by_cases e : t = i
      · subst e; exact .inr h2
      · exact .inl ⟨t, by omega, h2⟩
/-- What freeListed says. -/
def Listed (n m : Nat) (A : Nat → Int) (U : Nat → Bool) (F : Nat → Int) : Prop :=
  allFree n A U F m ∧ ∀ k, k < n → freeSlot (A k) (U k) = true → ∃ i, i < m ∧ F i = k
theorem not_listed_free {n m : Nat} {A : Nat → Int} {U : Nat → Bool} {F : Nat → Int} {i : Nat} (hlt : i < m) (ho : ¬ okFree n A U F i) : false = true ↔ Listed n m A U F := by
  constructor
  · intro h; cases h
  · rintro ⟨h, _⟩
    exact absurd (h i hlt) ho
theorem not_listed_slot {n m : Nat} {A : Nat → Int} {U : Nat → Bool} {F : Nat → Int} {k : Nat} (hlt : k < n) (hf : freeSlot (A k) (U k) = true) (ho : listedB F m k = false) : false = true ↔ Listed n m A U F := by
  constructor
  · intro h; cases h
  · rintro ⟨_, h⟩
    have := (listedB_iff F m k).2 (h k hlt hf)
    rw [ho] at this
    cases this

theorem named_iff {n m : Nat} {A : Nat → Int} {U : Nat → Bool} {V F : Nat → Int} : Named n m A U V F ↔ n ≤ 20 ∧ allOk A U V n ∧ Listed n m A U F := Iff.rfl
theorem not_named_slot {n m : Nat} {A : Nat → Int} {U : Nat → Bool} {V F : Nat → Int} {k : Nat} (hlt : k < n) (ho : okSlot (A k) (U k) (V k) = false) : false = true ↔ Named n m A U V F := by
  constructor
  · intro h; cases h
  · rintro ⟨_, h, _⟩
    have := h k hlt
    rw [ho] at this
    cases this

theorem bool_eq {a b : Bool} {p : Prop} (h1 : a = true ↔ p) (h2 : b = true ↔ p) : a = b := by
  cases a <;> cases b <;> simp_all

/-- What stands in the way of a handle of slot x and age a. -/
def faultOf (n : Nat) (A : Nat → Int) (U : Nat → Bool) (x a : Int) : Int :=
  if 0 ≤ x ∧ x < n then (if A x.toNat = a then (if U x.toNat then 0 else 4) else 3) else 4
theorem fault_out {n : Nat} {A : Nat → Int} {U : Nat → Bool} {x a : Int} (h : ¬ (0 ≤ x ∧ x < n)) : faultOf n A U x a = 4 := if_neg h
theorem fault_old {n : Nat} {A : Nat → Int} {U : Nat → Bool} {q : Nat} {a : Int} (hq : q < n) (h : A q ≠ a) : faultOf n A U q a = 3 := by
  unfold faultOf; rw [if_pos ⟨by omega, by omega⟩, Int.toNat_natCast, if_neg h]
theorem fault_none {n : Nat} {A : Nat → Int} {U : Nat → Bool} {q : Nat} {a : Int} (hq : q < n) (h : A q = a) (hu : U q = false) : faultOf n A U q a = 4 := by
  unfold faultOf; rw [if_pos ⟨by omega, by omega⟩, Int.toNat_natCast, if_pos h, hu]; rfl
theorem fault_ok {n : Nat} {A : Nat → Int} {U : Nat → Bool} {q : Nat} {a : Int} (hq : q < n) (h : A q = a) (hu : U q = true) : faultOf n A U q a = 0 := by
  unfold faultOf; rw [if_pos ⟨by omega, by omega⟩, Int.toNat_natCast, if_pos h, hu]; rfl
theorem fault_cases (n : Nat) (A : Nat → Int) (U : Nat → Bool) (x a : Int) :
    (¬ (0 ≤ x ∧ x < n) ∧ faultOf n A U x a = 4) ∨ ∃ q : Nat, x = q ∧ q < n ∧ ((A q ≠ a ∧ faultOf n A U x a = 3) ∨ (A q = a ∧ U q = false ∧ faultOf n A U x a = 4) ∨ (A q = a ∧ U q = true ∧ faultOf n A U x a = 0)) := by
  by_cases h : 0 ≤ x ∧ x < n
  · obtain ⟨q, rfl⟩ := Int.eq_ofNat_of_zero_le h.1
    have hq : q < n := by omega
    refine .inr ⟨q, rfl, hq, ?_⟩
    by_cases ha : A q = a
    · cases hu : U q with
      | true => exact .inr (.inr ⟨ha, rfl, fault_ok hq ha hu⟩)
      | false => exact .inr (.inl ⟨ha, rfl, fault_none hq ha hu⟩)
    · exact .inl ⟨ha, fault_old hq ha⟩
  · exact .inl ⟨h, fault_out h⟩

theorem nodup_sub {α : Type} [DecidableEq α] : ∀ (l k : List α), l.Nodup → (∀ x, x ∈ l → x ∈ k) → l.length ≤ k.length := by
  intro l
  induction l with
  | nil => intro k _ _; exact Nat.zero_le _
  | cons a l ih =>
    intro k hn hs
    have ha : a ∈ k := hs a (List.mem_cons_self)
    have hn' := List.nodup_cons.1 hn
    have h1 := ih (k.erase a) hn'.2 (fun x hx => by
      have hxa : x ≠ a := fun e => hn'.1 (e ▸ hx)
      exact (List.mem_erase_of_ne hxa).2 (hs x (List.mem_cons_of_mem _ hx)))
    have h2 := List.length_erase_of_mem ha
    have h3 : 0 < k.length := List.length_pos_of_mem ha
    simp only [List.length_cons]
    omega

/-- The free slots below k. -/
def frees (A : Nat → Int) (U : Nat → Bool) (k : Nat) : List Int := ((List.range k).filter (fun i => freeSlot (A i) (U i))).map (fun i : Nat => (i : Int))
theorem frees_length (A : Nat → Int) (U : Nat → Bool) (k : Nat) : (frees A U k).length = cntFree A U k := by
  unfold frees
  rw [List.length_map]
  induction k with
  | zero => rfl
  | succ k ih =>
    rw [List.range_succ, List.filter_append, List.length_append, ih, cntFree_succ]
    by_cases h : freeSlot (A k) (U k) = true <;> simp [h]
theorem mem_frees (A : Nat → Int) (U : Nat → Bool) (k : Nat) (x : Int) : x ∈ frees A U k ↔ freeAt k A U x := by
  unfold frees freeAt
  simp only [List.mem_map, List.mem_filter, List.mem_range]
  constructor
  · rintro ⟨i, ⟨h1, h2⟩, rfl⟩
    exact ⟨by omega, by omega, by simpa using h2⟩
  · rintro ⟨h1, h2, h3⟩
    exact ⟨x.toNat, ⟨by omega, h3⟩, by omega⟩
theorem nodup_map_cast : ∀ (l : List Nat), l.Nodup → (l.map (fun i : Nat => (i : Int))).Nodup := by
  intro l
  induction l with
  | nil => intro _; exact List.nodup_nil
  | cons a l ih =>
    intro h
    have h' := List.nodup_cons.1 h
    rw [List.map_cons, List.nodup_cons]
    refine ⟨?_, ih h'.2⟩
    simp only [List.mem_map, not_exists, not_and]
    intro x hx e
    have : x = a := by omega
    exact h'.1 (this ▸ hx)
theorem frees_nodup (A : Nat → Int) (U : Nat → Bool) (k : Nat) : (frees A U k).Nodup := by
  unfold frees
  exact nodup_map_cast _ (List.Nodup.sublist List.filter_sublist List.nodup_range)
/-- The list of the first m numbers of F. -/
def nums (F : Nat → Int) (m : Nat) : List Int := (List.range m).map F
theorem nums_nodup (n : Nat) (A : Nat → Int) (U : Nat → Bool) (F : Nat → Int) : ∀ m, allFree n A U F m → (nums F m).Nodup := by
  intro m
  induction m with
  | zero => intro _; exact List.nodup_nil
  | succ m ih =>
    intro h
    unfold nums
    rw [List.range_succ, List.map_append, List.nodup_append]
    refine ⟨ih (fun i hi => h i (by omega)), by simp, ?_⟩
    intro x hx y hy
    simp only [List.map_cons, List.map_nil, List.mem_singleton] at hy
    subst hy
    simp only [List.mem_map, List.mem_range] at hx
    obtain ⟨j, hj, rfl⟩ := hx
    exact (h m (by omega)).2 j hj

theorem good_iff (n m : Nat) (A : Nat → Int) (U : Nat → Bool) (V F : Nat → Int) : Good n m A U V F ↔ Named n m A U V F := by
  unfold Good Named
  constructor
  · rintro ⟨h1, h2, h3, h4⟩
    refine ⟨h1, h2, h3, fun k hk hf => ?_⟩
    apply Classical.byContradiction
    intro hno
    have hno' : ∀ i, i < m → F i ≠ (k : Int) := fun i hi e => hno ⟨i, hi, e⟩
    have hnd : ((k : Int) :: nums F m).Nodup := by
      rw [List.nodup_cons]
      refine ⟨?_, nums_nodup n A U F m h3⟩
      simp only [nums, List.mem_map, List.mem_range, not_exists, not_and]
      intro i hi e
      exact hno' i hi e
    have hs := nodup_sub _ (frees A U n) hnd (fun x hx => by
      rw [mem_frees]
      rcases List.mem_cons.1 hx with rfl | hx
      · exact ⟨by omega, by omega, by simpa using hf⟩
      · simp only [nums, List.mem_map, List.mem_range] at hx
        obtain ⟨i, hi, rfl⟩ := hx
        exact (h3 i hi).1)
    rw [frees_length, h4] at hs
    simp [nums] at hs
    omega
  · rintro ⟨h1, h2, h3, h4⟩
    refine ⟨h1, h2, h3, ?_⟩
    have e1 : (nums F m).length ≤ (frees A U n).length := nodup_sub _ _ (nums_nodup n A U F m h3) (fun x hx => by
      simp only [nums, List.mem_map, List.mem_range] at hx
      obtain ⟨i, hi, rfl⟩ := hx
      exact (mem_frees A U n _).2 (h3 i hi).1)
    have e2 : (frees A U n).length ≤ (nums F m).length := nodup_sub _ _ (frees_nodup A U n) (fun x hx => by
      obtain ⟨k1, k2, k3⟩ := (mem_frees A U n x).1 hx
      obtain ⟨i, hi, e⟩ := h4 x.toNat (by omega) k3
      simp only [nums, List.mem_map, List.mem_range]
      exact ⟨i, hi, by omega⟩)
    rw [frees_length] at e1 e2
    simp [nums] at e1 e2
    omega

end Go.Proofs.Ytompknfmlnlnfaa
