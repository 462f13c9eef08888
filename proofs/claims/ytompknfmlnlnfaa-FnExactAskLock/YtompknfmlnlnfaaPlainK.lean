/-
  OWN TEXT: plain mathematics of chapter 2 (no program): when locks are good, said as the specification tests it and as the program does, and that the two are one.
-/
import Derived.Test.YtompknfmlnlnfaaPlain1
namespace Go.Proofs.Ytompknfmlnlnfaa

/-- A list of those that ask: n of them, the task T k and whether shared S k at place k. -/
structure Line where
  n : Nat
  T : Nat → Int
  S : Nat → Bool

def isTask (x : Int) : Prop := 0 ≤ x ∧ x ≤ 11
def inLine (l : Line) (x : Int) : Prop := ∃ k, k < l.n ∧ l.T k = x
/-- The first k tasks of a line. -/
def tasks (l : Line) (k : Nat) : List Int := (List.range k).map l.T
/-- All that wait at the first i locks. -/
def waited (Q : Nat → Line) : Nat → List Int
  | 0 => []
  | i + 1 => waited Q i ++ tasks (Q i) (Q i).n
theorem tasks_succ (l : Line) (k : Nat) : tasks l (k + 1) = tasks l k ++ [l.T k] := by
  unfold tasks; rw [List.range_succ, List.map_append]; rfl
theorem tasks_length (l : Line) (k : Nat) : (tasks l k).length = k := by simp [tasks]
theorem mem_tasks (l : Line) (k : Nat) (x : Int) : x ∈ tasks l k ↔ ∃ j, j < k ∧ l.T j = x := by
  simp [tasks]
theorem mem_waited (Q : Nat → Line) (i : Nat) (x : Int) : x ∈ waited Q i ↔ ∃ i', i' < i ∧ inLine (Q i') x := by
  induction i with
  | zero => simp [waited]
  | succ i ih =>
    unfold waited
    rw [List.mem_append, ih, mem_tasks]
    constructor
    · rintro (⟨i', h, e⟩ | h)
      · exact ⟨i', by omega, e⟩
      · exact ⟨i, by omega, h⟩
    · rintro ⟨i', h, e⟩
      by_cases ei : i' = i
      · subst ei; exact .inr e
      · exact .inl ⟨i', by omega, e⟩

def keyOk (K : Nat → Int) (i : Nat) : Prop := 0 ≤ K i ∧ K i ≤ 100000 ∧ (0 < i → K (i - 1) < K i)
def heldOk (h : Line) (k : Nat) : Prop := isTask (h.T k) ∧ (0 < k → h.T (k - 1) < h.T k ∧ h.S k = true ∧ h.S 0 = true)
/-- Entry j of lock i's queue, as the specification tests it. -/
def queueOk (N : Nat) (H Q : Nat → Line) (i j : Nat) : Prop :=
  isTask ((Q i).T j) ∧ ¬ inLine (H i) ((Q i).T j) ∧ (Q i).T j ∉ waited Q i ++ tasks (Q i) j ∧ ∀ y, i ≤ y → y < N → ¬ inLine (H y) ((Q i).T j)
/-- Whether one may be held beside those that hold. -/
def mayB (h : Line) (s : Bool) : Bool := decide (h.n = 0) || (h.S 0 && s)
def lockOk (N : Nat) (K : Nat → Int) (H Q : Nat → Line) (i : Nat) : Prop :=
  keyOk K i ∧ 0 < (H i).n ∧ (∀ k, k < (H i).n → heldOk (H i) k) ∧ (∀ j, j < (Q i).n → queueOk N H Q i j) ∧ (0 < (Q i).n → mayB (H i) ((Q i).S 0) = false)
/-- Locks are good, as the specification tests it. -/
def GoodL (N : Nat) (K : Nat → Int) (H Q : Nat → Line) : Prop := N ≤ 60 ∧ ∀ i, i < N → lockOk N K H Q i

def heldI (h : Line) : Prop := 0 < h.n ∧ ∀ k, k < h.n → isTask (h.T k) ∧ (0 < k → h.T (k - 1) < h.T k) ∧ (h.S k = true ∨ h.n ≤ 1)
def queueI (h q : Line) : Prop := (∀ j, j < q.n → isTask (q.T j) ∧ ¬ inLine h (q.T j)) ∧ (0 < q.n → mayB h (q.S 0) = false)
def orderI (N : Nat) (H Q : Nat → Line) : Prop := ∀ i, i < N → (∀ k, k < (H i).n → (H i).T k ∉ waited Q i) ∧ (∀ j, j < (Q i).n → (Q i).T j ∉ waited Q i ++ tasks (Q i) j)
/-- Locks are good, as the program tests it. -/
def GoodI (N : Nat) (K : Nat → Int) (H Q : Nat → Line) : Prop := N ≤ 60 ∧ (∀ i, i < N → keyOk K i ∧ heldI (H i) ∧ queueI (H i) (Q i)) ∧ orderI N H Q

theorem goodL_iff (N : Nat) (K : Nat → Int) (H Q : Nat → Line) : GoodL N K H Q ↔ GoodI N K H Q := by
  constructor
  · rintro ⟨h60, h⟩
    refine ⟨h60, fun i hi => ?_, fun i hi => ?_⟩
    · obtain ⟨h1, h2, h3, h4, h5⟩ := h i hi
      refine ⟨h1, ⟨h2, fun k hk => ⟨(h3 k hk).1, fun k0 => ((h3 k hk).2 k0).1, ?_⟩⟩, fun j hj => ⟨(h4 j hj).1, (h4 j hj).2.1⟩, h5⟩
      by_cases h1n : (H i).n ≤ 1
      · exact .inr h1n
      · refine .inl ?_
        by_cases k0 : 0 < k
        · exact ((h3 k hk).2 k0).2.1
        · obtain rfl : k = 0 := by omega
          exact ((h3 1 (by omega)).2 (by omega)).2.2
    · obtain ⟨h1, h2, h3, h4, h5⟩ := h i hi
      refine ⟨fun k hk hm => ?_, fun j hj => (h4 j hj).2.2.1⟩
      obtain ⟨i', hi', j, hj, e⟩ := (mem_waited Q i _).1 hm
      obtain ⟨_, _, _, g4, _⟩ := h i' (by omega)
      exact (g4 j hj).2.2.2 i (by omega) hi ⟨k, hk, e.symm⟩
  · rintro ⟨h60, h, ho⟩
    refine ⟨h60, fun i hi => ?_⟩
    obtain ⟨h1, ⟨h2, h3⟩, h4, h5⟩ := h i hi
    refine ⟨h1, h2, fun k hk => ⟨(h3 k hk).1, fun k0 => ⟨(h3 k hk).2.1 k0, ?_, ?_⟩⟩, fun j hj => ⟨(h4 j hj).1, (h4 j hj).2, (ho i hi).2 j hj, fun y hy hyN hin => ?_⟩, h5⟩
    · rcases (h3 k hk).2.2 with e | e
      · exact e
      · omega
    · rcases (h3 0 (by omega)).2.2 with e | e
      · exact e
      · omega
    · by_cases e : y = i
      · subst e; exact (h4 j hj).2 hin
      · obtain ⟨k, hk, ek⟩ := hin
        exact (ho y hyN).1 k hk ((mem_waited Q y _).2 ⟨i, by omega, j, hj, ek.symm⟩)

theorem tasks_nodup (l : Line) (pre : List Int) (hp : pre.Nodup) : ∀ k, (∀ j, j < k → l.T j ∉ pre ++ tasks l j) → (pre ++ tasks l k).Nodup := by
  intro k
  induction k with
  | zero => intro _; simpa [tasks] using hp
  | succ k ih =>
    intro h
    rw [tasks_succ, ← List.append_assoc, List.nodup_append]
    refine ⟨ih (fun j hj => h j (by omega)), by simp, ?_⟩
    intro x hx y hy e
    simp only [List.mem_singleton] at hy
    subst hy
    subst e
    exact h k (by omega) hx
theorem waited_nodup (Q : Nat → Line) : ∀ i, (∀ i', i' < i → ∀ j, j < (Q i').n → (Q i').T j ∉ waited Q i' ++ tasks (Q i') j) → (waited Q i).Nodup := by
  intro i
  induction i with
  | zero => intro _; exact List.nodup_nil
  | succ i ih =>
    intro h
    unfold waited
    exact tasks_nodup (Q i) (waited Q i) (ih (fun i' hi' => h i' (by omega))) _ (h i (by omega))
theorem few_tasks (l : List Int) (hn : l.Nodup) (hx : ∀ x, x ∈ l → isTask x) : l.length ≤ 12 := by
  have := nodup_sub l ((List.range 12).map (fun i : Nat => (i : Int))) hn (fun x h => by
    obtain ⟨a, b⟩ := hx x h
    simp only [List.mem_map, List.mem_range]
    exact ⟨x.toNat, by omega, by omega⟩)
  simpa using this
/-- Those that wait up to entry j of lock i are few. -/
theorem waits_few (N : Nat) (H Q : Nat → Line) (i j : Nat) (h : ∀ i', i' < i → ∀ j, j < (Q i').n → queueOk N H Q i' j) (h' : ∀ j', j' < j → queueOk N H Q i j') : (waited Q i ++ tasks (Q i) j).length ≤ 12 := by
  refine few_tasks _ (tasks_nodup (Q i) (waited Q i) (waited_nodup Q i (fun i' hi' j hj => (h i' hi' j hj).2.2.1)) j (fun j' hj' => (h' j' hj').2.2.1)) ?_
  intro x hx
  rcases List.mem_append.1 hx with hx | hx
  · obtain ⟨i', hi', k, hk, e⟩ := (mem_waited Q i x).1 hx
    rw [← e]; exact (h i' hi' k hk).1
  · obtain ⟨k, hk, e⟩ := (mem_tasks (Q i) j x).1 hx
    rw [← e]; exact (h' k hk).1

end Go.Proofs.Ytompknfmlnlnfaa
