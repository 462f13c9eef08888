/-
  OWN TEXT: PlainK, KitL.
-/
import Derived.Test.YtdmkpflphjemoaaB00
namespace Go.Proofs.Ytdmkpflphjemoaa

/-- A list of those that ask: n of them, the task T k and whether shared S k at place k. -/
structure Line where
  n : Nat
  T : Nat → Int
  S : Nat → Bool

def isTask (x : Int) : Prop := 0 ≤ x ∧ x ≤ 11
def inLine (l : Line) (x : Int) : Prop := ∃ k, k < l.n ∧ l.T k = x
/-- The first k tasks of a line. -/
def tasks (l : Line) (k : Nat) : List Int := (List.range k).map l.T
/-- All that wait at the first i locks. -/
def waited (Q : Nat → Line) : Nat → List Int
  | 0 => []
  | i + 1 => waited Q i ++ tasks (Q i) (Q i).n
theorem tasks_succ (l : Line) (k : Nat) : tasks l (k + 1) = tasks l k ++ [l.T k] := by
  unfold tasks; rw [List.range_succ, List.map_append]; rfl
theorem tasks_length (l : Line) (k : Nat) : (tasks l k).length = k := by simp [tasks]
theorem mem_tasks (l : Line) (k : Nat) (x : Int) : x ∈ tasks l k ↔ ∃ j, j < k ∧ l.T j = x := by
  simp [tasks]
theorem mem_waited (Q : Nat → Line) (i : Nat) (x : Int) : x ∈ waited Q i ↔ ∃ i', i' < i ∧ inLine (Q i') x := by
  induction i with
  | zero => simp [waited]
  | succ i ih =>
    unfold waited
    rw [List.mem_append, ih, mem_tasks]
    constructor
    · rintro (⟨i', h, e⟩ | h)
      · exact ⟨i', by omega, e⟩
      · exact ⟨i, by omega, h⟩
    · rintro ⟨i', h, e⟩
      by_cases ei : i' = i
      · subst ei; exact .inr e
      · exact .inl ⟨i', by omega, e⟩

def keyOk (K : Nat → Int) (i : Nat) : Prop := 0 ≤ K i ∧ K i ≤ 100000 ∧ (0 < i → K (i - 1) < K i)
def heldOk (h : Line) (k : Nat) : Prop := isTask (h.T k) ∧ (0 < k → h.T (k - 1) < h.T k ∧ h.S k = true ∧ h.S 0 = true)
/-- Entry j of lock i's queue, as the specification tests it. -/
def queueOk (N : Nat) (H Q : Nat → Line) (i j : Nat) : Prop :=
  isTask ((Q i).T j) ∧ ¬ inLine (H i) ((Q i).T j) ∧ (Q i).T j ∉ waited Q i ++ tasks (Q i) j ∧ ∀ y, i ≤ y → y < N → ¬ inLine (H y) ((Q i).T j)
/-- Whether one may be held beside those that hold. -/
def mayB (h : Line) (s : Bool) : Bool := decide (h.n = 0) || (h.S 0 && s)
def lockOk (N : Nat) (K : Nat → Int) (H Q : Nat → Line) (i : Nat) : Prop :=
  keyOk K i ∧ 0 < (H i).n ∧ (∀ k, k < (H i).n → heldOk (H i) k) ∧ (∀ j, j < (Q i).n → queueOk N H Q i j) ∧ (0 < (Q i).n → mayB (H i) ((Q i).S 0) = false)
/-- Locks are good, as the specification tests it. -/
def GoodL (N : Nat) (K : Nat → Int) (H Q : Nat → Line) : Prop := N ≤ 60 ∧ ∀ i, i < N → lockOk N K H Q i

def heldI (h : Line) : Prop := 0 < h.n ∧ ∀ k, k < h.n → isTask (h.T k) ∧ (0 < k → h.T (k - 1) < h.T k) ∧ (h.S k = true ∨ h.n ≤ 1)
def queueI (h q : Line) : Prop := (∀ j, j < q.n → isTask (q.T j) ∧ ¬ inLine h (q.T j)) ∧ (0 < q.n → mayB h (q.S 0) = false)
def orderI (N : Nat) (H Q : Nat → Line) : Prop := ∀ i, i < N → (∀ k, k < (H i).n → (H i).T k ∉ waited Q i) ∧ (∀ j, j < (Q i).n → (Q i).T j ∉ waited Q i ++ tasks (Q i) j)
/-- Locks are good, as the program tests it. -/
def GoodI (N : Nat) (K : Nat → Int) (H Q : Nat → Line) : Prop := N ≤ 60 ∧ (∀ i, i < N → keyOk K i ∧ heldI (H i) ∧ queueI (H i) (Q i)) ∧ orderI N H Q

theorem goodL_iff (N : Nat) (K : Nat → Int) (H Q : Nat → Line) : GoodL N K H Q ↔ GoodI N K H Q := by
  constructor
  · rintro ⟨h60, h⟩
    refine ⟨h60, fun i hi => ?_, fun i hi => ?_⟩
    · obtain ⟨h1, h2, h3, h4, h5⟩ := h i hi
      refine ⟨h1, ⟨h2, fun k hk => ⟨(h3 k hk).1, fun k0 => ((h3 k hk).2 k0).1, ?_⟩⟩, fun j hj => ⟨(h4 j hj).1, (h4 j hj).2.1⟩, h5⟩
      by_cases h1n : (H i).n ≤ 1
      · exact .inr h1n
      · refine .inl ?_
        by_cases k0 : 0 < k
        · exact ((h3 k hk).2 k0).2.1
        · obtain rfl : k = 0 := by omega
          exact ((h3 1 (by omega)).2 (by omega)).2.2
    · obtain ⟨h1, h2, h3, h4, h5⟩ := h i hi
      refine ⟨fun k hk hm => ?_, fun j hj => (h4 j hj).2.2.1⟩
      obtain ⟨i', hi', j, hj, e⟩ := (mem_waited Q i _).1 hm
      obtain ⟨_, _, _, g4, _⟩ := h i' (by omega)
      exact (g4 j hj).2.2.2 i (by omega) hi ⟨k, hk, e.symm⟩
  · rintro ⟨h60, h, ho⟩
    refine ⟨h60, fun i hi => ?_⟩
    obtain ⟨h1, ⟨h2, h3⟩, h4, h5⟩ := h i hi
    refine ⟨h1, h2, fun k hk => ⟨(h3 k hk).1, fun k0 => ⟨(h3 k hk).2.1 k0, ?_, ?_⟩⟩, fun j hj => ⟨(h4 j hj).1, (h4 j hj).2, (ho i hi).2 j hj, fun y hy hyN hin => ?_⟩, h5⟩
    · rcases (h3 k hk).2.2 with e | e
      · exact e
      · omega
    · rcases (h3 0 (by omega)).2.2 with e | e
      · exact e
      · omega
    · by_cases e : y = i
      · subst e; exact (h4 j hj).2 hin
      · obtain ⟨k, hk, ek⟩ := hin
        exact (ho y hyN).1 k hk ((mem_waited Q y _).2 ⟨i, by omega, j, hj, ek.symm⟩)

theorem tasks_nodup (l : Line) (pre : List Int) (hp : pre.Nodup) : ∀ k, (∀ j, j < k → l.T j ∉ pre ++ tasks l j) → (pre ++ tasks l k).Nodup := by
  intro k
  induction k with
  | zero => intro _; simpa [tasks] using hp
  | succ k ih =>
    intro h
    rw [tasks_succ, ← List.append_assoc, List.nodup_append]
    refine ⟨ih (fun j hj => h j (by omega)), by simp, ?_⟩
    intro x hx y hy e
    simp only [List.mem_singleton] at hy
    subst hy
    subst e
    exact h k (by omega) hx
theorem waited_nodup (Q : Nat → Line) : ∀ i, (∀ i', i' < i → ∀ j, j < (Q i').n → (Q i').T j ∉ waited Q i' ++ tasks (Q i') j) → (waited Q i).Nodup := by
  intro i
  induction i with
  | zero => intro _; exact List.nodup_nil
  | succ i ih =>
    intro h
    unfold waited
    exact tasks_nodup (Q i) (waited Q i) (ih (fun i' hi' => h i' (by omega))) _ (h i (by omega))
theorem few_tasks (l : List Int) (hn : l.Nodup) (hx : ∀ x, x ∈ l → isTask x) : l.length ≤ 12 := by
  have := nodup_sub l ((List.range 12).map (fun i : Nat => (i : Int))) hn (fun x h => by
    obtain ⟨a, b⟩ := hx x h
    simp only [List.mem_map, List.mem_range]
    exact ⟨x.toNat, by omega, by omega⟩)
  simpa using this
/-- Those that wait up to entry j of lock i are few. -/
theorem waits_few (N : Nat) (H Q : Nat → Line) (i j : Nat) (h : ∀ i', i' < i → ∀ j, j < (Q i').n → queueOk N H Q i' j) (h' : ∀ j', j' < j → queueOk N H Q i j') : (waited Q i ++ tasks (Q i) j).length ≤ 12 := by
  refine few_tasks _ (tasks_nodup (Q i) (waited Q i) (waited_nodup Q i (fun i' hi' j hj => (h i' hi' j hj).2.2.1)) j (fun j' hj' => (h' j' hj').2.2.1)) ?_
  intro x hx
  rcases List.mem_append.1 hx with hx | hx
  · obtain ⟨i', hi', k, hk, e⟩ := (mem_waited Q i x).1 hx
    rw [← e]; exact (h i' hi' k hk).1
  · obtain ⟨k, hk, e⟩ := (mem_tasks (Q i) j x).1 hx
    rw [← e]; exact (h' k hk).1

end Go.Proofs.Ytdmkpflphjemoaa

namespace Go.Proofs.Ytdmkpflphjemoaa
open Go.RowKit

/-- The slice at ao reads as the line l. -/
def LineAt (w : World) (ao : Option Addr) (l : Line) : Prop :=
  ∀ k, k < l.n → ∃ b off, ao = some ⟨b, off, none⟩ ∧ w.cell? ⟨b, off + k * 2, none⟩ = some (.int .i64 (l.T k)) ∧ w.cell? ⟨b, off + k * 2 + 1, none⟩ = some (.bool (l.S k))
theorem LineAt.below {w w' : World} {ao : Option Addr} {l : Line} (h : LineAt w ao l) (hb : Below w.heap.size w w') : LineAt w' ao l := by
  intro k hk
  obtain ⟨b, off, e, h1, h2⟩ := h k hk
  have hlt : b < w.heap.size := World.block_lt_of_cell? w _ h1
  exact ⟨b, off, e, (hb.cell hlt).trans h1, (hb.cell hlt).trans h2⟩

/-- The cell j of a row of those that ask. -/
def askCell (l : Line) (j : Nat) : Value := if j % 2 = 0 then .int .i64 (l.T (j / 2)) else .bool (l.S (j / 2))
theorem askCell_0 (l : Line) (k : Nat) : askCell l (k * 2) = .int .i64 (l.T k) := by
  unfold askCell; rw [if_pos (by omega), show k * 2 / 2 = k by omega]
theorem askCell_1 (l : Line) (k : Nat) : askCell l (k * 2 + 1) = .bool (l.S k) := by
  unfold askCell; rw [if_neg (by omega), show (k * 2 + 1) / 2 = k by omega]
theorem LineAt.of_row {w : World} {g t : Nat} {l : Line} (h : w.rowIs g t (l.n * 2) (askCell l)) : LineAt w (some ⟨g, 0, none⟩) l := by
  intro k hk
  refine ⟨g, 0, rfl, ?_, ?_⟩
  · rw [Nat.zero_add, h.cell (by omega), askCell_0]
  · rw [Nat.zero_add, h.cell (by omega), askCell_1]
theorem made_asks (n : Nat) (j : Nat) (hj : j < n * 2) : (madeCells (Value.agg #[.int .i64 0, .bool false]).cells (n * 2)).toList.getD j (.bool false) = askCell ⟨n, fun _ => 0, fun _ => false⟩ j := by
  have hz : (Value.agg #[.int .i64 0, .bool false]).cells = #[.int .i64 0, .bool false] := rfl
  rw [hz]
  simp only [madeCells, Array.toList_map, List.getD_eq_getElem?_getD, List.getElem?_map, Array.toList_range, List.getElem?_range hj, Option.map_some, Option.getD_some]
  unfold askCell
  have : j % 2 = 0 ∨ j % 2 = 1 := by omega
  rcases this with h | h <;> simp [h]
/-- One that asks is stored into a row. -/
theorem ask_set {w : World} {g t n k : Nat} {l l' : Line} (h : w.rowIs g t n (askCell l)) (hT : ∀ i, i ≠ k → l'.T i = l.T i) (hS : ∀ i, i ≠ k → l'.S i = l.S i) :
    ((w.setCell ⟨g, k * 2, none⟩ (.int .i64 (l'.T k))).setCell ⟨g, k * 2 + 1, none⟩ (.bool (l'.S k))).rowIs g t n (askCell l') := by
  refine ((h.set (k * 2) _).set (k * 2 + 1) _).congr fun j _ => ?_
  by_cases h1 : j = k * 2 + 1
  · subst h1; rw [if_pos rfl, askCell_1]
  · rw [if_neg h1]
    by_cases h0 : j = k * 2
    · subst h0; rw [if_pos rfl, askCell_0]
    · rw [if_neg h0]
      have hk : j / 2 ≠ k := by omega
      unfold askCell
      rw [hT _ hk, hS _ hk]
/-- The line whose first k are those of l, the others zero. -/
def lineTo (k : Nat) (l : Line) : Line := ⟨l.n, upto k l.T 0, upto k l.S false⟩

/-- A slice that can be. -/
def SliceOk (ao : Option Addr) (n c : Nat) : Prop := n ≤ c ∧ c ≤ 9223372036854775807 ∧ (ao = none → n = 0 ∧ c = 0)

/-- The slice at ao reads as N locks. -/
def LocksAt (w : World) (ao : Option Addr) (N : Nat) (K : Nat → Int) (H Q : Nat → Line) : Prop :=
  ∀ k, k < N → ∃ b off ha hc qa qc, ao = some ⟨b, off, none⟩ ∧ w.cell? ⟨b, off + k * 3, none⟩ = some (.int .i64 (K k)) ∧ w.cell? ⟨b, off + k * 3 + 1, none⟩ = some (.slice ha (H k).n hc) ∧
    w.cell? ⟨b, off + k * 3 + 2, none⟩ = some (.slice qa (Q k).n qc) ∧ LineAt w ha (H k) ∧ LineAt w qa (Q k) ∧ SliceOk ha (H k).n hc ∧ SliceOk qa (Q k).n qc
theorem LocksAt.below {w w' : World} {ao : Option Addr} {N : Nat} {K : Nat → Int} {H Q : Nat → Line} (h : LocksAt w ao N K H Q) (hb : Below w.heap.size w w') : LocksAt w' ao N K H Q := by
  intro k hk
  obtain ⟨b, off, ha, hc, qa, qc, e, h1, h2, h3, h4, h5, h6, h7⟩ := h k hk
  have hlt : b < w.heap.size := World.block_lt_of_cell? w _ h1
  exact ⟨b, off, ha, hc, qa, qc, e, (hb.cell hlt).trans h1, (hb.cell hlt).trans h2, (hb.cell hlt).trans h3, h4.below hb, h5.below hb, h6, h7⟩

/-- The cell j of a row of locks. -/
def lockCell (K : Nat → Int) (hs qs : Nat → Value) (j : Nat) : Value := if j % 3 = 0 then .int .i64 (K (j / 3)) else if j % 3 = 1 then hs (j / 3) else qs (j / 3)
theorem lockCell_0 (K : Nat → Int) (hs qs : Nat → Value) (k : Nat) : lockCell K hs qs (k * 3) = .int .i64 (K k) := by
  unfold lockCell; rw [if_pos (by omega), show k * 3 / 3 = k by omega]
theorem lockCell_1 (K : Nat → Int) (hs qs : Nat → Value) (k : Nat) : lockCell K hs qs (k * 3 + 1) = hs k := by
  unfold lockCell; rw [if_neg (by omega), if_pos (by omega), show (k * 3 + 1) / 3 = k by omega]
theorem lockCell_2 (K : Nat → Int) (hs qs : Nat → Value) (k : Nat) : lockCell K hs qs (k * 3 + 2) = qs k := by
  unfold lockCell; rw [if_neg (by omega), if_neg (by omega), show (k * 3 + 2) / 3 = k by omega]
theorem made_locks (n : Nat) (j : Nat) (hj : j < n * 3) : (madeCells (Value.agg #[.int .i64 0, .slice none 0 0, .slice none 0 0]).cells (n * 3)).toList.getD j (.bool false) = lockCell (fun _ => 0) (fun _ => .slice none 0 0) (fun _ => .slice none 0 0) j := by
  have hz : (Value.agg #[.int .i64 0, .slice none 0 0, .slice none 0 0]).cells = #[.int .i64 0, .slice none 0 0, .slice none 0 0] := rfl
  rw [hz]
  simp only [madeCells, Array.toList_map, List.getD_eq_getElem?_getD, List.getElem?_map, Array.toList_range, List.getElem?_range hj, Option.map_some, Option.getD_some]
  unfold lockCell
  have : j % 3 = 0 ∨ j % 3 = 1 ∨ j % 3 = 2 := by omega
  rcases this with h | h | h <;> simp [h]
/-- A lock is stored into a row. -/
theorem lock_set {w : World} {g t n k : Nat} {K K' : Nat → Int} {hs hs' qs qs' : Nat → Value} (h : w.rowIs g t n (lockCell K hs qs))
    (hK : ∀ i, i ≠ k → K' i = K i) (hH : ∀ i, i ≠ k → hs' i = hs i) (hQ : ∀ i, i ≠ k → qs' i = qs i) :
    (((w.setCell ⟨g, k * 3, none⟩ (.int .i64 (K' k))).setCell ⟨g, k * 3 + 1, none⟩ (hs' k)).setCell ⟨g, k * 3 + 2, none⟩ (qs' k)).rowIs g t n (lockCell K' hs' qs') := by
  refine (((h.set (k * 3) _).set (k * 3 + 1) _).set (k * 3 + 2) _).congr fun j _ => ?_
  by_cases h2 : j = k * 3 + 2
  · subst h2; rw [if_pos rfl, lockCell_2]
  · rw [if_neg h2]
    by_cases h1 : j = k * 3 + 1
    · subst h1; rw [if_pos rfl, lockCell_1]
    · rw [if_neg h1]
      by_cases h0 : j = k * 3
      · subst h0; rw [if_pos rfl, lockCell_0]
      · rw [if_neg h0]
        have hk : j / 3 ≠ k := by omega
        unfold lockCell
        rw [hK _ hk, hH _ hk, hQ _ hk]

/-- The whole slice of the block b. -/
def whole (b n : Nat) : Value := .slice (some ⟨b, 0, none⟩) n n
/-- f, with u at place q. -/
def at_ (f : Nat → Nat) (q u : Nat) (i : Nat) : Nat := if i = q then u else f i
theorem at_at (f : Nat → Nat) (q u : Nat) : at_ f q u q = u := if_pos rfl
theorem at_ne (f : Nat → Nat) (q u i : Nat) (h : i ≠ q) : at_ f q u i = f i := if_neg h

/-- The block g holds the first k of N locks (the others are zero), each with its lines in blocks of their own, h i and q i, that rise behind g. -/
structure LocksTo (w : World) (tL tA k lo g N : Nat) (K : Nat → Int) (H Q : Nat → Line) (h q : Nat → Nat) : Prop where
  row : w.rowIs g tL (N * 3) (lockCell (upto k K 0) (upto k (fun i => whole (h i) (H i).n) (.slice none 0 0)) (upto k (fun i => whole (q i) (Q i).n) (.slice none 0 0)))
  lo : lo ≤ g
  held : ∀ i, i < k → g < h i ∧ w.rowIs (h i) tA ((H i).n * 2) (askCell (H i))
  queue : ∀ i, i < k → h i < q i ∧ w.rowIs (q i) tA ((Q i).n * 2) (askCell (Q i))
  rise : ∀ i j, i < j → j < k → q i < h j

theorem LocksTo.below {w w' : World} {tL tA k lo g N : Nat} {K : Nat → Int} {H Q : Nat → Line} {h q : Nat → Nat} (r : LocksTo w tL tA k lo g N K H Q h q) (hb : Below w.heap.size w w') : LocksTo w' tL tA k lo g N K H Q h q :=
  ⟨row_below r.row hb, r.lo, fun i hi => ⟨(r.held i hi).1, row_below (r.held i hi).2 hb⟩, fun i hi => ⟨(r.queue i hi).1, row_below (r.queue i hi).2 hb⟩, r.rise⟩

theorem LocksTo.locks {w : World} {tL tA lo g N : Nat} {K : Nat → Int} {H Q : Nat → Line} {h q : Nat → Nat} (r : LocksTo w tL tA N lo g N K H Q h q) (hH : ∀ i, i < N → (H i).n ≤ 1048576) (hQ : ∀ i, i < N → (Q i).n ≤ 1048576) : LocksAt w (some ⟨g, 0, none⟩) N K H Q := by
  intro k hk
  refine ⟨g, 0, some ⟨h k, 0, none⟩, (H k).n, some ⟨q k, 0, none⟩, (Q k).n, rfl, ?_, ?_, ?_, LineAt.of_row (r.held k hk).2, LineAt.of_row (r.queue k hk).2, ⟨Nat.le_refl _, by have := hH k hk; omega, by intro e; cases e⟩, ⟨Nat.le_refl _, by have := hQ k hk; omega, by intro e; cases e⟩⟩
  · rw [Nat.zero_add, r.row.cell (by omega), lockCell_0, upto_lt _ _ hk]
  · rw [Nat.zero_add, r.row.cell (by omega), lockCell_1, upto_lt _ _ hk]; rfl
  · rw [Nat.zero_add, r.row.cell (by omega), lockCell_2, upto_lt _ _ hk]; rfl

/-- One lock more. -/
theorem LocksTo.step {w : World} {tL tA k lo g N : Nat} {K : Nat → Int} {H Q : Nat → Line} {h q : Nat → Nat} (r : LocksTo w tL tA k lo g N K H Q h q) {a b : Nat} (ha : g < a) (hab : a < b)
    (hall : ∀ i, i < k → q i < a) (rowA : w.rowIs a tA ((H k).n * 2) (askCell (H k))) (rowB : w.rowIs b tA ((Q k).n * 2) (askCell (Q k))) :
    LocksTo (((w.setCell ⟨g, k * 3, none⟩ (.int .i64 (K k))).setCell ⟨g, k * 3 + 1, none⟩ (whole a (H k).n)).setCell ⟨g, k * 3 + 2, none⟩ (whole b (Q k).n)) tL tA (k + 1) lo g N K H Q (at_ h k a) (at_ q k b) := by
  have far : ∀ {x n f}, x ≠ g → w.rowIs x tA n f → (((w.setCell ⟨g, k * 3, none⟩ (.int .i64 (K k))).setCell ⟨g, k * 3 + 1, none⟩ (whole a (H k).n)).setCell ⟨g, k * 3 + 2, none⟩ (whole b (Q k).n)).rowIs x tA n f := by
    intro x n f hx hr
    exact ((hr.setOther (by show x ≠ g; exact hx) _).setOther (by show x ≠ g; exact hx) _).setOther (by show x ≠ g; exact hx) _
  refine ⟨?_, r.lo, fun i hi => ?_, fun i hi => ?_, fun i j hij hj => ?_⟩
  · have := lock_set (k := k) (K' := upto (k + 1) K 0) (hs' := upto (k + 1) (fun i => whole (at_ h k a i) (H i).n) (.slice none 0 0)) (qs' := upto (k + 1) (fun i => whole (at_ q k b i) (Q i).n) (.slice none 0 0)) r.row (fun i e => upto_step _ _ _ _ e)
      (fun i e => by unfold upto; by_cases hi : i < k
                     · rw [if_pos hi, if_pos (by omega)]; simp only [at_ne _ _ _ _ e]
                     · rw [if_neg hi, if_neg (by omega)])
      (fun i e => by unfold upto; by_cases hi : i < k
                     · rw [if_pos hi, if_pos (by omega)]; simp only [at_ne _ _ _ _ e]
                     · rw [if_neg hi, if_neg (by omega)])
    rw [upto_lt _ _ (Nat.lt_succ_self k), upto_lt _ _ (Nat.lt_succ_self k), upto_lt _ _ (Nat.lt_succ_self k), at_at, at_at] at this
    exact this
  · by_cases e : i = k
    · subst e; rw [at_at]; exact ⟨ha, far (by omega) rowA⟩
    · rw [at_ne _ _ _ _ e]; have := r.held i (by omega); exact ⟨this.1, far (by omega) this.2⟩
  · by_cases e : i = k
    · subst e; rw [at_at, at_at]; exact ⟨hab, far (by omega) rowB⟩
    · rw [at_ne _ _ _ _ e, at_ne _ _ _ _ e]; have h1 := r.held i (by omega); have h2 := r.queue i (by omega); exact ⟨h2.1, far (by omega) h2.2⟩
  · by_cases e : j = k
    · subst e; rw [at_at, at_ne _ _ _ _ (by omega)]; exact hall i (by omega)
    · rw [at_ne _ _ _ _ e, at_ne _ _ _ _ (by omega)]; exact r.rise i j hij (by omega)

end Go.Proofs.Ytdmkpflphjemoaa
