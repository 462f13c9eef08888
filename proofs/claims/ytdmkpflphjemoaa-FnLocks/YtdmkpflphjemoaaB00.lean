/-
  OWN TEXT: Kit, Plain1.
-/
import Derived.WalkKit
import Derived.WalkSpells
import Derived.WalkSmall
import Derived.Deep.OwnRows
import Derived.Deep.AppendLies
import Derived.Laws.AppendOwnNone
import Derived.Deep.QuietTactic
import Derived.BigQuiet
namespace Go.Proofs.Ytdmkpflphjemoaa
open Go.RowKit

/-- The slice at ao holds n numbers, f k at place k. -/
def IntsAt (w : World) (ao : Option Addr) (n : Nat) (f : Nat → Int) : Prop :=
  ∀ k, k < n → ∃ b off, ao = some ⟨b, off, none⟩ ∧ w.cell? ⟨b, off + k, none⟩ = some (.int .i64 (f k))

theorem IntsAt.below {w w' : World} {ao : Option Addr} {n : Nat} {f : Nat → Int} (h : IntsAt w ao n f) (hb : Below w.heap.size w w') : IntsAt w' ao n f := by
  intro k hk
  obtain ⟨b, off, e, hc⟩ := h k hk
  exact ⟨b, off, e, (hb.cell (World.block_lt_of_cell? w _ hc)).trans hc⟩

theorem IntsAt.upto {w : World} {ao : Option Addr} {n i : Nat} {f : Nat → Int} (h : IntsAt w ao n f) (hi : i ≤ n) : IntsAt w ao i f := fun k hk => h k (by omega)

theorem IntsAt.of_row {w : World} {g t n : Nat} {f : Nat → Int} (h : w.rowIs g t n (fun k => .int .i64 (f k))) : IntsAt w (some ⟨g, 0, none⟩) n f := by
  intro k hk
  exact ⟨g, 0, rfl, by rw [Nat.zero_add]; exact h.cell (by omega)⟩

/-- A new block behind a world that has grown. -/
theorem push {w w' : World} (h : Below w.heap.size w w') (o : Obj) : Below w.heap.size w (w'.alloc o) := h.alloc h.size o
/-- Grown, and grown again. -/
theorem after {w w' w'' : World} (h : Below w.heap.size w w') (k : Below w'.heap.size w' w'') : Below w.heap.size w w'' := h.trans (k.mono h.size)

/-- All old cells, all old marks read as before: two rules for a walk. -/
theorem bcell {W w1 : World} (hb : Below W.heap.size W w1) : (∀ b o, b < W.heap.size → w1.cell? ⟨b, o, none⟩ = W.cell? ⟨b, o, none⟩) ∧ (∀ b o, b < W.heap.size → w1.frozen? ⟨b, o, none⟩ = W.frozen? ⟨b, o, none⟩) :=
  ⟨fun b o h => hb.cell (p := ⟨b, o, none⟩) h, fun b o h => hb.frozen (p := ⟨b, o, none⟩) h⟩

/-! A block that is known whole. -/
theorem blk_cell {w : World} {b t : Nat} {cs : Array Value} (h : w.heap[b]? = some (.cells cs t (0, 0))) (i : Nat) (v : Value) (hv : cs[i]? = some v) : w.cell? ⟨b, i, none⟩ = some v := by
  simp [World.cell?, h, hv]
theorem blk_free {w : World} {b t : Nat} {cs : Array Value} (h : w.heap[b]? = some (.cells cs t (0, 0))) (i : Nat) : w.frozen? ⟨b, i, none⟩ = false := by
  simp [World.frozen?, h]
theorem blk_lt {w : World} {b : Nat} {o : Obj} (h : w.heap[b]? = some o) : b < w.heap.size := (Array.getElem?_eq_some_iff.1 h).1
theorem blk_set {w : World} {b t : Nat} {cs : Array Value} (h : w.heap[b]? = some (.cells cs t (0, 0))) (i : Nat) (v : Value) : (w.setCell ⟨b, i, none⟩ v).heap[b]? = some (.cells (cs.setIfInBounds i v) t (0, 0)) := by
  simp [World.setCell, Array.getElem?_modify, h]
theorem blk_set_other {w : World} {b b' : Nat} {o : Obj} (h : w.heap[b]? = some o) (i : Nat) (v : Value) (hne : b ≠ b') : (w.setCell ⟨b', i, none⟩ v).heap[b]? = some o :=
  (Below.heap_setCell w ⟨b', i, none⟩ v b hne).trans h
theorem blk_alloc {w : World} {b : Nat} {o : Obj} (h : w.heap[b]? = some o) (o' : Obj) : (w.alloc o').heap[b]? = some o := (Below.heap_alloc w o' b (blk_lt h)).trans h
theorem blk_below {w w' : World} {b : Nat} {o : Obj} (h : w.heap[b]? = some o) (hb : Below w.heap.size w w') : w'.heap[b]? = some o := (hb.block b (blk_lt h)).trans h
theorem row_below {w w' : World} {b t n : Nat} {f : Nat → Value} (h : w.rowIs b t n f) (hb : Below w.heap.size w w') : w'.rowIs b t n f := h.of_block (hb.block _ h.lt)

/-- The slice at ao holds n slots: A k, U k, V k at place k. -/
def SlotsAt (w : World) (ao : Option Addr) (n : Nat) (A : Nat → Int) (U : Nat → Bool) (V : Nat → Int) : Prop :=
  ∀ k, k < n → ∃ b off, ao = some ⟨b, off, none⟩ ∧ w.cell? ⟨b, off + k * 3, none⟩ = some (.int .i64 (A k)) ∧ w.cell? ⟨b, off + k * 3 + 1, none⟩ = some (.bool (U k)) ∧ w.cell? ⟨b, off + k * 3 + 2, none⟩ = some (.int .i64 (V k))

theorem SlotsAt.below {w w' : World} {ao : Option Addr} {n : Nat} {A : Nat → Int} {U : Nat → Bool} {V : Nat → Int} (h : SlotsAt w ao n A U V) (hb : Below w.heap.size w w') : SlotsAt w' ao n A U V := by
  intro k hk
  obtain ⟨b, off, e, h1, h2, h3⟩ := h k hk
  have hlt : b < w.heap.size := World.block_lt_of_cell? w _ h1
  exact ⟨b, off, e, (hb.cell hlt).trans h1, (hb.cell hlt).trans h2, (hb.cell hlt).trans h3⟩

/-- The cell j of a row of slots. -/
def slotCell (A : Nat → Int) (U : Nat → Bool) (V : Nat → Int) (j : Nat) : Value :=
  if j % 3 = 0 then .int .i64 (A (j / 3)) else if j % 3 = 1 then .bool (U (j / 3)) else .int .i64 (V (j / 3))

theorem slotCell_0 (A : Nat → Int) (U : Nat → Bool) (V : Nat → Int) (k : Nat) : slotCell A U V (k * 3) = .int .i64 (A k) := by
  unfold slotCell; rw [if_pos (by omega), show k * 3 / 3 = k by omega]
theorem slotCell_1 (A : Nat → Int) (U : Nat → Bool) (V : Nat → Int) (k : Nat) : slotCell A U V (k * 3 + 1) = .bool (U k) := by
  unfold slotCell; rw [if_neg (by omega), if_pos (by omega), show (k * 3 + 1) / 3 = k by omega]
theorem slotCell_2 (A : Nat → Int) (U : Nat → Bool) (V : Nat → Int) (k : Nat) : slotCell A U V (k * 3 + 2) = .int .i64 (V k) := by
  unfold slotCell; rw [if_neg (by omega), if_neg (by omega), show (k * 3 + 2) / 3 = k by omega]

theorem SlotsAt.of_row {w : World} {g t n : Nat} {A : Nat → Int} {U : Nat → Bool} {V : Nat → Int} (h : w.rowIs g t (n * 3) (slotCell A U V)) : SlotsAt w (some ⟨g, 0, none⟩) n A U V := by
  intro k hk
  refine ⟨g, 0, rfl, ?_, ?_, ?_⟩
  · rw [Nat.zero_add, h.cell (by omega), slotCell_0]
  · rw [Nat.zero_add, h.cell (by omega), slotCell_1]
  · rw [Nat.zero_add, h.cell (by omega), slotCell_2]

/-- f below k, z from k on. -/
def upto {α : Type} (k : Nat) (f : Nat → α) (z : α) (i : Nat) : α := if i < k then f i else z
theorem upto_lt {α : Type} {k i : Nat} (f : Nat → α) (z : α) (h : i < k) : upto k f z i = f i := if_pos h
theorem upto_ge {α : Type} {k i : Nat} (f : Nat → α) (z : α) (h : ¬ i < k) : upto k f z i = z := if_neg h
theorem upto_step {α : Type} (f : Nat → α) (z : α) (k j : Nat) (h : j ≠ k) : upto (k + 1) f z j = upto k f z j := by
  unfold upto; by_cases h2 : j < k
  · rw [if_pos h2, if_pos (by omega)]
  · rw [if_neg h2, if_neg (by omega)]

theorem row_of_own {w : World} {base e size g n : Nat} {xs : List Value} (h : w.ownsRow base e size (.slice (some ⟨g, 0, none⟩) n n) n xs) : w.rowIs g e (n * size) (fun j => xs.getD j (.bool false)) := by
  rcases h.2 with ⟨hv, _⟩ | ⟨g', cap, cur, hv, _, hg, _, _, hs, ht⟩
  · cases hv
  · simp only [Value.slice.injEq, Option.some.injEq, Addr.mk.injEq, and_true, true_and] at hv
    obtain ⟨rfl, rfl⟩ := hv
    refine ⟨cur, hg, hs, fun i hi => ?_⟩
    have hh : cur.toList[i]? = xs[i]? := by rw [← ht, List.getElem?_take, if_pos hi]
    have hl : i < cur.size := by omega
    simp only [Array.getElem?_toList] at hh
    show cur[i]? = some (xs.getD i (.bool false))
    rw [List.getD_eq_getElem?_getD, ← hh, Array.getElem?_eq_getElem hl]
    rfl

theorem made_slots (n : Nat) (j : Nat) (hj : j < n * 3) : (madeCells (Value.agg #[.int .i64 0, .bool false, .int .i64 0]).cells (n * 3)).toList.getD j (.bool false) = slotCell (fun _ => 0) (fun _ => false) (fun _ => 0) j := by
  have hz : (Value.agg #[.int .i64 0, .bool false, .int .i64 0]).cells = #[.int .i64 0, .bool false, .int .i64 0] := rfl
  rw [hz]
  simp only [madeCells, Array.toList_map, List.getD_eq_getElem?_getD, List.getElem?_map, Array.toList_range, List.getElem?_range hj, Option.map_some, Option.getD_some]
  unfold slotCell
  have : j % 3 = 0 ∨ j % 3 = 1 ∨ j % 3 = 2 := by omega
  rcases this with h | h | h <;> simp [h]

/-- A slot is stored into a row. -/
theorem slot_set {w : World} {g t n k : Nat} {A A' : Nat → Int} {U U' : Nat → Bool} {V V' : Nat → Int} (h : w.rowIs g t n (slotCell A U V))
    (hA : ∀ i, i ≠ k → A' i = A i) (hU : ∀ i, i ≠ k → U' i = U i) (hV : ∀ i, i ≠ k → V' i = V i) :
    (((w.setCell ⟨g, k * 3, none⟩ (.int .i64 (A' k))).setCell ⟨g, k * 3 + 1, none⟩ (.bool (U' k))).setCell ⟨g, k * 3 + 2, none⟩ (.int .i64 (V' k))).rowIs g t n (slotCell A' U' V') := by
  refine (((h.set (k * 3) _).set (k * 3 + 1) _).set (k * 3 + 2) _).congr fun j _ => ?_
  by_cases h2 : j = k * 3 + 2
  · subst h2; rw [if_pos rfl, slotCell_2]
  · rw [if_neg h2]
    by_cases h1 : j = k * 3 + 1
    · subst h1; rw [if_pos rfl, slotCell_1]
    · rw [if_neg h1]
      by_cases h0 : j = k * 3
      · subst h0; rw [if_pos rfl, slotCell_0]
      · rw [if_neg h0]
        have hk : j / 3 ≠ k := by omega
        unfold slotCell
        rw [hA _ hk, hU _ hk, hV _ hk]

theorem grown_blk {w w1 : World} {row : Option Nat} (hg : w.grownBy w1 row) {b : Nat} {o : Obj} (h : w.heap[b]? = some o) (hne : some b ≠ row) : w1.heap[b]? = some o := (hg.block b (blk_lt h) hne).trans h

/-- The cells of the first n slots. -/
def slotList (A : Nat → Int) (U : Nat → Bool) (V : Nat → Int) (n : Nat) : List Value := (List.range (n * 3)).map (slotCell A U V)
theorem slotList_succ (A : Nat → Int) (U : Nat → Bool) (V : Nat → Int) (k : Nat) : slotList A U V (k + 1) = slotList A U V k ++ [.int .i64 (A k), .bool (U k), .int .i64 (V k)] := by
  unfold slotList
  rw [show (k + 1) * 3 = k * 3 + 1 + 1 + 1 by omega, List.range_succ, List.range_succ, List.range_succ]
  simp only [List.map_append, List.map_cons, List.map_nil, slotCell_0, slotCell_1, List.append_assoc, List.cons_append, List.nil_append]
  rw [show k * 3 + 1 + 1 = k * 3 + 2 by omega, slotCell_2]
/-- The cells of the first n numbers. -/
def intList (F : Nat → Int) (n : Nat) : List Value := (List.range n).map (fun k => .int .i64 (F k))
theorem intList_succ (F : Nat → Int) (k : Nat) : intList F (k + 1) = intList F k ++ [.int .i64 (F k)] := by
  unfold intList; rw [List.range_succ, List.map_append]; rfl
theorem intList_get (F : Nat → Int) (n j : Nat) (u : Value) (h : (intList F n)[j]? = some u) : j < n ∧ u = .int .i64 (F j) := by
  unfold intList at h
  rw [List.getElem?_map] at h
  by_cases hj : j < n
  · rw [List.getElem?_range hj] at h; simp at h; exact ⟨hj, h.symm⟩
  · rw [List.getElem?_eq_none (by simpa using hj)] at h; cases h
theorem intList_one (F : Nat → Int) (n : Nat) : ∀ u ∈ intList F n, u.oneCell' = true := by
  intro u hu
  unfold intList at hu
  simp only [List.mem_map] at hu
  obtain ⟨j, _, rfl⟩ := hu
  rfl
theorem intList_length (F : Nat → Int) (n : Nat) : (intList F n).length = n := by simp [intList]
theorem own_base {w : World} {base base' e size n : Nat} {v : Value} {xs : List Value} (h : w.ownsRow base e size v n xs) (hb : base' ≤ base) : w.ownsRow base' e size v n xs := by
  refine ⟨h.1, ?_⟩
  rcases h.2 with h0 | ⟨g, cap, cur, hv, h1, rest⟩
  · exact .inl h0
  · exact .inr ⟨g, cap, cur, hv, Nat.le_trans hb h1, rest⟩
/-- An owned row of another block than the one that is written. -/
theorem own_set {w : World} {base e size n : Nat} {v : Value} {xs : List Value} (h : w.ownsRow base e size v n xs) {a : Addr} (ha : a.block < base) (u : Value) : (w.setCell a u).ownsRow base e size v n xs := ownsRow_setCell_below h ha u
theorem own_form {w : World} {base e size n : Nat} {v : Value} {xs : List Value} (h : w.ownsRow base e size v n xs) : ∃ ao c, v = .slice ao n c ∧ n ≤ c ∧ c ≤ maxLen ∧ (ao = none → n = 0 ∧ c = 0) := by
  rcases h.2 with ⟨rfl, rfl⟩ | ⟨g, cap, cur, rfl, hb, hg, h1, h2, _⟩
  · exact ⟨none, 0, rfl, Nat.le_refl _, Nat.zero_le _, fun _ => ⟨rfl, rfl⟩⟩
  · exact ⟨_, cap, rfl, h1, h2, fun h => by cases h⟩
theorem own_slots {w : World} {base e n c : Nat} {ao : Option Addr} {A : Nat → Int} {U : Nat → Bool} {V : Nat → Int} (h : w.ownsRow base e 3 (.slice ao n c) n (slotList A U V n)) : SlotsAt w ao n A U V := by
  intro k hk
  rcases h.2 with ⟨_, h0⟩ | ⟨g, cap, cur, hv, hb, hg, h1, h2, _⟩
  · omega
  · simp only [Value.slice.injEq, true_and] at hv
    obtain ⟨rfl, rfl⟩ := hv
    have hc : ∀ j, j < n * 3 → w.cell? ⟨g, j, none⟩ = some (slotCell A U V j) := by
      intro j hj
      rw [h.cellAt j hj]
      unfold slotList
      rw [List.getElem?_map, List.getElem?_range hj]; rfl
    refine ⟨g, 0, rfl, ?_, ?_, ?_⟩
    · rw [Nat.zero_add, hc _ (by omega), slotCell_0]
    · rw [Nat.zero_add, hc _ (by omega), slotCell_1]
    · rw [Nat.zero_add, hc _ (by omega), slotCell_2]
theorem own_ints {w : World} {base e n c : Nat} {ao : Option Addr} {F : Nat → Int} (h : w.ownsRow base e 1 (.slice ao n c) n (intList F n)) : IntsAt w ao n F := by
  intro k hk
  rcases h.2 with ⟨_, h0⟩ | ⟨g, cap, cur, hv, hb, hg, h1, h2, _⟩
  · omega
  · simp only [Value.slice.injEq, true_and] at hv
    obtain ⟨rfl, rfl⟩ := hv
    refine ⟨g, 0, rfl, ?_⟩
    rw [Nat.zero_add, h.cellAt k (by omega)]
    unfold intList
    rw [List.getElem?_map, List.getElem?_range hk]; rfl

/-- The end of a function that hands back a struct of two cells: the second field is set, then both are moved into the result's box. -/
theorem box_end {w W : World} {t : Nat} {v1 v2 x1 x2 : Value} (hr : W.heap[w.heap.size + 1]? = some (.cells #[x1, x2] t (0, 0))) (hb : Below w.heap.size w W) (F : World)
    (hF : F = ((W.setCell ⟨w.heap.size + 1 + 1, 1, none⟩ v2).setCell ⟨w.heap.size + 1, 0, none⟩ v1).setCell ⟨w.heap.size + 1, 1, none⟩ v2) :
    F.cell? ⟨w.heap.size + 1, 0, none⟩ = some v1 ∧ F.cell? ⟨w.heap.size + 1, 1, none⟩ = some v2 ∧ Below w.heap.size w F ∧
      (∀ base e size v n xs, w.heap.size + 1 + 1 < base → W.ownsRow base e size v n xs → F.ownsRow w.heap.size e size v n xs) ∧
      (∀ b e n f, w.heap.size + 1 + 1 < b → W.rowIs b e n f → F.rowIs b e n f) := by
  subst hF
  have rF := blk_set (blk_set (blk_set_other hr (b' := w.heap.size + 1 + 1) 1 v2 (by omega)) 0 v1) 1 v2
  refine ⟨blk_cell rF 0 _ rfl, blk_cell rF 1 _ rfl, ?_, ?_, ?_⟩
  · exact ((hb.setCell (by show w.heap.size ≤ w.heap.size + 1 + 1; omega) _).setCell (by show w.heap.size ≤ w.heap.size + 1; omega) _).setCell (by show w.heap.size ≤ w.heap.size + 1; omega) _
  · intro base e size v n xs hl h
    exact own_base (own_set (own_set (own_set h (by show w.heap.size + 1 + 1 < base; omega) _) (by show w.heap.size + 1 < base; omega) _) (by show w.heap.size + 1 < base; omega) _) (by omega)
  · intro b e n f hl h
    exact ((h.setOther (by show b ≠ w.heap.size + 1 + 1; omega) _).setOther (by show b ≠ w.heap.size + 1; omega) _).setOther (by show b ≠ w.heap.size + 1; omega) _

theorem fill_step {α : Type} (f : Nat → α) (z : α) (k j : Nat) : (if j = k then f k else if j < k then f j else z) = if j < k + 1 then f j else z := by
  by_cases h : j = k
  · subst h; simp
  · by_cases h2 : j < k
    · rw [if_neg h, if_pos h2, if_pos (by omega)]
    · rw [if_neg h, if_neg h2, if_neg (by omega)]

end Go.Proofs.Ytdmkpflphjemoaa

namespace Go.Proofs.Ytdmkpflphjemoaa

/-- A slot as it should be: the age in 0..9, below 9 if used, the value 0 if not. -/
def okSlot (a : Int) (u : Bool) (v : Int) : Bool := decide (0 ≤ a) && decide (a ≤ 9) && (if u then decide (a < 9) else decide (v = 0))
/-- A slot that may be used again. -/
def freeSlot (a : Int) (u : Bool) : Bool := !u && decide (a < 9)
/-- How many of the first k are free. -/
def cntFree (A : Nat → Int) (U : Nat → Bool) : Nat → Nat
  | 0 => 0
  | k + 1 => cntFree A U k + (if freeSlot (A k) (U k) then 1 else 0)
theorem cntFree_succ (A : Nat → Int) (U : Nat → Bool) (k : Nat) : cntFree A U (k + 1) = cntFree A U k + (if freeSlot (A k) (U k) then 1 else 0) := rfl
theorem cntFree_le (A : Nat → Int) (U : Nat → Bool) (k : Nat) : cntFree A U k ≤ k := by
  induction k with
  | zero => exact Nat.le_refl _
  | succ k ih => unfold cntFree; split <;> omega

/-- The number x names a free slot. -/
def freeAt (n : Nat) (A : Nat → Int) (U : Nat → Bool) (x : Int) : Prop := 0 ≤ x ∧ x < n ∧ freeSlot (A x.toNat) (U x.toNat) = true
/-- Entry i of the free list is as it should be. -/
def okFree (n : Nat) (A : Nat → Int) (U : Nat → Bool) (F : Nat → Int) (i : Nat) : Prop := freeAt n A U (F i) ∧ ∀ j, j < i → F j ≠ F i

def allOk (A : Nat → Int) (U : Nat → Bool) (V : Nat → Int) (k : Nat) : Prop := ∀ j, j < k → okSlot (A j) (U j) (V j) = true
def allFree (n : Nat) (A : Nat → Int) (U : Nat → Bool) (F : Nat → Int) (k : Nat) : Prop := ∀ i, i < k → okFree n A U F i

/-- An arena is good, by counting. -/
def Good (n m : Nat) (A : Nat → Int) (U : Nat → Bool) (V F : Nat → Int) : Prop :=
  n ≤ 20 ∧ allOk A U V n ∧ allFree n A U F m ∧ cntFree A U n = m
/-- An arena is good, by naming. -/
def Named (n m : Nat) (A : Nat → Int) (U : Nat → Bool) (V F : Nat → Int) : Prop :=
  n ≤ 20 ∧ allOk A U V n ∧ allFree n A U F m ∧ ∀ k, k < n → freeSlot (A k) (U k) = true → ∃ i, i < m ∧ F i = k

theorem okSlot_cases (a : Int) (u : Bool) (v : Int) :
    (okSlot a u v = true ∧ ((u = true ∧ 0 ≤ a ∧ a < 9 ∧ freeSlot a u = false) ∨ (u = false ∧ 0 ≤ a ∧ a < 9 ∧ v = 0 ∧ freeSlot a u = true) ∨ (u = false ∧ a = 9 ∧ v = 0 ∧ freeSlot a u = false))) ∨
    (okSlot a u v = false ∧ (a < 0 ∨ 9 < a ∨ (u = true ∧ a = 9) ∨ (u = false ∧ 0 ≤ a ∧ a ≤ 9 ∧ v ≠ 0))) := by
  unfold okSlot freeSlot
  cases u <;> simp <;> omega

theorem allOk_succ {A : Nat → Int} {U : Nat → Bool} {V : Nat → Int} {k : Nat} {a v : Int} {u : Bool} (h : allOk A U V k) (e : A k = a ∧ U k = u ∧ V k = v) (ho : okSlot a u v = true) : allOk A U V (k + 1) := by
  intro j hj
  by_cases hjk : j = k
  · subst hjk; rw [e.1, e.2.1, e.2.2]; exact ho
  · exact h j (by omega)
theorem not_good_slot {n m : Nat} {A : Nat → Int} {U : Nat → Bool} {V F : Nat → Int} {k : Nat} {a v : Int} {u : Bool} (hlt : k < n) (e : A k = a ∧ U k = u ∧ V k = v) (ho : okSlot a u v = false) : false = true ↔ Good n m A U V F := by
  constructor
  · intro h; cases h
  · rintro ⟨_, h, _⟩
    have := h k hlt
    rw [e.1, e.2.1, e.2.2, ho] at this
    cases this
theorem not_good_free {n m : Nat} {A : Nat → Int} {U : Nat → Bool} {V F : Nat → Int} {i : Nat} (hlt : i < m) (ho : ¬ okFree n A U F i) : false = true ↔ Good n m A U V F := by
  constructor
  · intro h; cases h
  · rintro ⟨_, _, h, _⟩
    exact absurd (h i hlt) ho
theorem allFree_succ {n : Nat} {A : Nat → Int} {U : Nat → Bool} {F : Nat → Int} {k : Nat} (h : allFree n A U F k) (ho : okFree n A U F k) : allFree n A U F (k + 1) := by
  intro j hj
  by_cases hjk : j = k
  · subst hjk; exact ho
  · exact h j (by omega)
theorem okSlot_le {a v : Int} {u : Bool} (h : okSlot a u v = true) : 0 ≤ a ∧ a ≤ 9 := by
  unfold okSlot at h
  simp only [Bool.and_eq_true, decide_eq_true_eq] at h
  exact h.1

/-- Whether j is among the first i numbers of F. -/
def listedB (F : Nat → Int) : Nat → Nat → Bool
  | 0, _ => false
  | i + 1, j => listedB F i j || decide (F i = j)
theorem listedB_succ (F : Nat → Int) (i j : Nat) : listedB F (i + 1) j = (listedB F i j || decide (F i = j)) := rfl
theorem listedB_iff (F : Nat → Int) (i j : Nat) : listedB F i j = true ↔ ∃ t, t < i ∧ F t = j := by
  induction i with
  | zero => simp [listedB]
  | succ i ih =>
    rw [listedB_succ, Bool.or_eq_true, ih, decide_eq_true_eq]
    constructor
    · rintro (⟨t, h1, h2⟩ | h)
      · exact ⟨t, by omega, h2⟩
      · exact ⟨i, by omega, h⟩
    · rintro ⟨t, h1, h2⟩
      by_cases e : t = i
      · subst e; exact .inr h2
      · exact .inl ⟨t, by omega, h2⟩
/-- What freeListed says. -/
def Listed (n m : Nat) (A : Nat → Int) (U : Nat → Bool) (F : Nat → Int) : Prop :=
  allFree n A U F m ∧ ∀ k, k < n → freeSlot (A k) (U k) = true → ∃ i, i < m ∧ F i = k
theorem not_listed_free {n m : Nat} {A : Nat → Int} {U : Nat → Bool} {F : Nat → Int} {i : Nat} (hlt : i < m) (ho : ¬ okFree n A U F i) : false = true ↔ Listed n m A U F := by
  constructor
  · intro h; cases h
  · rintro ⟨h, _⟩
    exact absurd (h i hlt) ho
theorem not_listed_slot {n m : Nat} {A : Nat → Int} {U : Nat → Bool} {F : Nat → Int} {k : Nat} (hlt : k < n) (hf : freeSlot (A k) (U k) = true) (ho : listedB F m k = false) : false = true ↔ Listed n m A U F := by
  constructor
  · intro h; cases h
  · rintro ⟨_, h⟩
    have := (listedB_iff F m k).2 (h k hlt hf)
    rw [ho] at this
    cases this

theorem named_iff {n m : Nat} {A : Nat → Int} {U : Nat → Bool} {V F : Nat → Int} : Named n m A U V F ↔ n ≤ 20 ∧ allOk A U V n ∧ Listed n m A U F := Iff.rfl
theorem not_named_slot {n m : Nat} {A : Nat → Int} {U : Nat → Bool} {V F : Nat → Int} {k : Nat} (hlt : k < n) (ho : okSlot (A k) (U k) (V k) = false) : false = true ↔ Named n m A U V F := by
  constructor
  · intro h; cases h
  · rintro ⟨_, h, _⟩
    have := h k hlt
    rw [ho] at this
    cases this

theorem bool_eq {a b : Bool} {p : Prop} (h1 : a = true ↔ p) (h2 : b = true ↔ p) : a = b := by
  cases a <;> cases b <;> simp_all

/-- What stands in the way of a handle of slot x and age a. -/
def faultOf (n : Nat) (A : Nat → Int) (U : Nat → Bool) (x a : Int) : Int :=
  if 0 ≤ x ∧ x < n then (if A x.toNat = a then (if U x.toNat then 0 else 4) else 3) else 4
theorem fault_out {n : Nat} {A : Nat → Int} {U : Nat → Bool} {x a : Int} (h : ¬ (0 ≤ x ∧ x < n)) : faultOf n A U x a = 4 := if_neg h
theorem fault_old {n : Nat} {A : Nat → Int} {U : Nat → Bool} {q : Nat} {a : Int} (hq : q < n) (h : A q ≠ a) : faultOf n A U q a = 3 := by
  unfold faultOf; rw [if_pos ⟨by omega, by omega⟩, Int.toNat_natCast, if_neg h]
theorem fault_none {n : Nat} {A : Nat → Int} {U : Nat → Bool} {q : Nat} {a : Int} (hq : q < n) (h : A q = a) (hu : U q = false) : faultOf n A U q a = 4 := by
  unfold faultOf; rw [if_pos ⟨by omega, by omega⟩, Int.toNat_natCast, if_pos h, hu]; rfl
theorem fault_ok {n : Nat} {A : Nat → Int} {U : Nat → Bool} {q : Nat} {a : Int} (hq : q < n) (h : A q = a) (hu : U q = true) : faultOf n A U q a = 0 := by
  unfold faultOf; rw [if_pos ⟨by omega, by omega⟩, Int.toNat_natCast, if_pos h, hu]; rfl
theorem fault_cases (n : Nat) (A : Nat → Int) (U : Nat → Bool) (x a : Int) :
    (¬ (0 ≤ x ∧ x < n) ∧ faultOf n A U x a = 4) ∨ ∃ q : Nat, x = q ∧ q < n ∧ ((A q ≠ a ∧ faultOf n A U x a = 3) ∨ (A q = a ∧ U q = false ∧ faultOf n A U x a = 4) ∨ (A q = a ∧ U q = true ∧ faultOf n A U x a = 0)) := by
  by_cases h : 0 ≤ x ∧ x < n
  · obtain ⟨q, rfl⟩ := Int.eq_ofNat_of_zero_le h.1
    have hq : q < n := by omega
    refine .inr ⟨q, rfl, hq, ?_⟩
    by_cases ha : A q = a
    · cases hu : U q with
      | true => exact .inr (.inr ⟨ha, rfl, fault_ok hq ha hu⟩)
      | false => exact .inr (.inl ⟨ha, rfl, fault_none hq ha hu⟩)
    · exact .inl ⟨ha, fault_old hq ha⟩
  · exact .inl ⟨h, fault_out h⟩

theorem nodup_sub {α : Type} [DecidableEq α] : ∀ (l k : List α), l.Nodup → (∀ x, x ∈ l → x ∈ k) → l.length ≤ k.length := by
  intro l
  induction l with
  | nil => intro k _ _; exact Nat.zero_le _
  | cons a l ih =>
    intro k hn hs
    have ha : a ∈ k := hs a (List.mem_cons_self)
    have hn' := List.nodup_cons.1 hn
    have h1 := ih (k.erase a) hn'.2 (fun x hx => by
      have hxa : x ≠ a := fun e => hn'.1 (e ▸ hx)
      exact (List.mem_erase_of_ne hxa).2 (hs x (List.mem_cons_of_mem _ hx)))
    have h2 := List.length_erase_of_mem ha
    have h3 : 0 < k.length := List.length_pos_of_mem ha
    simp only [List.length_cons]
    omega

/-- The free slots below k. -/
def frees (A : Nat → Int) (U : Nat → Bool) (k : Nat) : List Int := ((List.range k).filter (fun i => freeSlot (A i) (U i))).map (fun i : Nat => (i : Int))
theorem frees_length (A : Nat → Int) (U : Nat → Bool) (k : Nat) : (frees A U k).length = cntFree A U k := by
  unfold frees
  rw [List.length_map]
  induction k with
  | zero => rfl
  | succ k ih =>
    rw [List.range_succ, List.filter_append, List.length_append, ih, cntFree_succ]
    by_cases h : freeSlot (A k) (U k) = true <;> simp [h]
theorem mem_frees (A : Nat → Int) (U : Nat → Bool) (k : Nat) (x : Int) : x ∈ frees A U k ↔ freeAt k A U x := by
  unfold frees freeAt
  simp only [List.mem_map, List.mem_filter, List.mem_range]
  constructor
  · rintro ⟨i, ⟨h1, h2⟩, rfl⟩
    exact ⟨by omega, by omega, by simpa using h2⟩
  · rintro ⟨h1, h2, h3⟩
    exact ⟨x.toNat, ⟨by omega, h3⟩, by omega⟩
theorem nodup_map_cast : ∀ (l : List Nat), l.Nodup → (l.map (fun i : Nat => (i : Int))).Nodup := by
  intro l
  induction l with
  | nil => intro _; exact List.nodup_nil
  | cons a l ih =>
    intro h
    have h' := List.nodup_cons.1 h
    rw [List.map_cons, List.nodup_cons]
    refine ⟨?_, ih h'.2⟩
    simp only [List.mem_map, not_exists, not_and]
    intro x hx e
    have : x = a := by omega
    exact h'.1 (this ▸ hx)
theorem frees_nodup (A : Nat → Int) (U : Nat → Bool) (k : Nat) : (frees A U k).Nodup := by
  unfold frees
  exact nodup_map_cast _ (List.Nodup.sublist List.filter_sublist List.nodup_range)
/-- The list of the first m numbers of F. -/
def nums (F : Nat → Int) (m : Nat) : List Int := (List.range m).map F
theorem nums_nodup (n : Nat) (A : Nat → Int) (U : Nat → Bool) (F : Nat → Int) : ∀ m, allFree n A U F m → (nums F m).Nodup := by
  intro m
  induction m with
  | zero => intro _; exact List.nodup_nil
  | succ m ih =>
    intro h
    unfold nums
    rw [List.range_succ, List.map_append, List.nodup_append]
    refine ⟨ih (fun i hi => h i (by omega)), by simp, ?_⟩
    intro x hx y hy
    simp only [List.map_cons, List.map_nil, List.mem_singleton] at hy
    subst hy
    simp only [List.mem_map, List.mem_range] at hx
    obtain ⟨j, hj, rfl⟩ := hx
    exact (h m (by omega)).2 j hj

theorem good_iff (n m : Nat) (A : Nat → Int) (U : Nat → Bool) (V F : Nat → Int) : Good n m A U V F ↔ Named n m A U V F := by
  unfold Good Named
  constructor
  · rintro ⟨h1, h2, h3, h4⟩
    refine ⟨h1, h2, h3, fun k hk hf => ?_⟩
    apply Classical.byContradiction
    intro hno
    have hno' : ∀ i, i < m → F i ≠ (k : Int) := fun i hi e => hno ⟨i, hi, e⟩
    have hnd : ((k : Int) :: nums F m).Nodup := by
      rw [List.nodup_cons]
      refine ⟨?_, nums_nodup n A U F m h3⟩
      simp only [nums, List.mem_map, List.mem_range, not_exists, not_and]
      intro i hi e
      exact hno' i hi e
    have hs := nodup_sub _ (frees A U n) hnd (fun x hx => by
      rw [mem_frees]
      rcases List.mem_cons.1 hx with rfl | hx
      · exact ⟨by omega, by omega, by simpa using hf⟩
      · simp only [nums, List.mem_map, List.mem_range] at hx
        obtain ⟨i, hi, rfl⟩ := hx
        exact (h3 i hi).1)
    rw [frees_length, h4] at hs
    simp [nums] at hs
    omega
  · rintro ⟨h1, h2, h3, h4⟩
    refine ⟨h1, h2, h3, ?_⟩
    have e1 : (nums F m).length ≤ (frees A U n).length := nodup_sub _ _ (nums_nodup n A U F m h3) (fun x hx => by
      simp only [nums, List.mem_map, List.mem_range] at hx
      obtain ⟨i, hi, rfl⟩ := hx
      exact (mem_frees A U n _).2 (h3 i hi).1)
    have e2 : (frees A U n).length ≤ (nums F m).length := nodup_sub _ _ (frees_nodup A U n) (fun x hx => by
      obtain ⟨k1, k2, k3⟩ := (mem_frees A U n x).1 hx
      obtain ⟨i, hi, e⟩ := h4 x.toNat (by omega) k3
      simp only [nums, List.mem_map, List.mem_range]
      exact ⟨i, hi, by omega⟩)
    rw [frees_length] at e1 e2
    simp [nums] at e1 e2
    omega

end Go.Proofs.Ytdmkpflphjemoaa
