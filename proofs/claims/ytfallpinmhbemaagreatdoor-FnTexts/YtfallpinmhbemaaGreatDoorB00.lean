/-
  OWN TEXT: Kit, Kit2, Draw1, DrawAm, DrawK.
-/
import Derived.WalkKit
import Derived.WalkSpells
import Derived.WalkSmall
import Derived.Deep.OwnRows
import Derived.Deep.AppendLies
import Derived.Laws.AppendOwnNone
import Derived.Deep.QuietTactic
import Derived.BigQuiet
import Derived.Test.YtfallpinmhbemaaGreatDoorRows
import Derived.Deep.LoopGhost
import Derived.Laws.BitsLemmas
import Derived.Deep.RegionHeld3
namespace Go.Proofs.YtfallpinmhbemaaGreatDoor
open Go.RowKit

/-- The slice at ao holds n numbers, f k at place k. -/
def IntsAt (w : World) (ao : Option Addr) (n : Nat) (f : Nat → Int) : Prop :=
  ∀ k, k < n → ∃ b off, ao = some ⟨b, off, none⟩ ∧ w.cell? ⟨b, off + k, none⟩ = some (.int .i64 (f k))

theorem IntsAt.below {w w' : World} {ao : Option Addr} {n : Nat} {f : Nat → Int} (h : IntsAt w ao n f) (hb : Below w.heap.size w w') : IntsAt w' ao n f := by
  intro k hk
  obtain ⟨b, off, e, hc⟩ := h k hk
  exact ⟨b, off, e, (hb.cell (World.block_lt_of_cell? w _ hc)).trans hc⟩

theorem IntsAt.upto {w : World} {ao : Option Addr} {n i : Nat} {f : Nat → Int} (h : IntsAt w ao n f) (hi : i ≤ n) : IntsAt w ao i f := fun k hk => h k (by omega)

theorem IntsAt.of_row {w : World} {g t n : Nat} {f : Nat → Int} (h : w.rowIs g t n (fun k => .int .i64 (f k))) : IntsAt w (some ⟨g, 0, none⟩) n f := by
  intro k hk
  exact ⟨g, 0, rfl, by rw [Nat.zero_add]; exact h.cell (by omega)⟩

/-- A new block behind a world that has grown. -/
theorem push {w w' : World} (h : Below w.heap.size w w') (o : Obj) : Below w.heap.size w (w'.alloc o) := h.alloc h.size o
/-- Grown, and grown again. -/
theorem after {w w' w'' : World} (h : Below w.heap.size w w') (k : Below w'.heap.size w' w'') : Below w.heap.size w w'' := h.trans (k.mono h.size)

/-- All old cells, all old marks read as before: two rules for a walk. -/
theorem bcell {W w1 : World} (hb : Below W.heap.size W w1) : (∀ b o, b < W.heap.size → w1.cell? ⟨b, o, none⟩ = W.cell? ⟨b, o, none⟩) ∧ (∀ b o, b < W.heap.size → w1.frozen? ⟨b, o, none⟩ = W.frozen? ⟨b, o, none⟩) :=
  ⟨fun b o h => hb.cell (p := ⟨b, o, none⟩) h, fun b o h => hb.frozen (p := ⟨b, o, none⟩) h⟩

/-! A block that is known whole. -/
theorem blk_cell {w : World} {b t : Nat} {cs : Array Value} (h : w.heap[b]? = some (.cells cs t (0, 0))) (i : Nat) (v : Value) (hv : cs[i]? = some v) : w.cell? ⟨b, i, none⟩ = some v := by
  simp [World.cell?, h, hv]
theorem blk_free {w : World} {b t : Nat} {cs : Array Value} (h : w.heap[b]? = some (.cells cs t (0, 0))) (i : Nat) : w.frozen? ⟨b, i, none⟩ = false := by
  simp [World.frozen?, h]
theorem blk_lt {w : World} {b : Nat} {o : Obj} (h : w.heap[b]? = some o) : b < w.heap.size := (Array.getElem?_eq_some_iff.1 h).1
theorem blk_set {w : World} {b t : Nat} {cs : Array Value} (h : w.heap[b]? = some (.cells cs t (0, 0))) (i : Nat) (v : Value) : (w.setCell ⟨b, i, none⟩ v).heap[b]? = some (.cells (cs.setIfInBounds i v) t (0, 0)) := by
  simp [World.setCell, Array.getElem?_modify, h]
theorem blk_set_other {w : World} {b b' : Nat} {o : Obj} (h : w.heap[b]? = some o) (i : Nat) (v : Value) (hne : b ≠ b') : (w.setCell ⟨b', i, none⟩ v).heap[b]? = some o :=
  (Below.heap_setCell w ⟨b', i, none⟩ v b hne).trans h
theorem blk_alloc {w : World} {b : Nat} {o : Obj} (h : w.heap[b]? = some o) (o' : Obj) : (w.alloc o').heap[b]? = some o := (Below.heap_alloc w o' b (blk_lt h)).trans h
theorem blk_below {w w' : World} {b : Nat} {o : Obj} (h : w.heap[b]? = some o) (hb : Below w.heap.size w w') : w'.heap[b]? = some o := (hb.block b (blk_lt h)).trans h
theorem row_below {w w' : World} {b t n : Nat} {f : Nat → Value} (h : w.rowIs b t n f) (hb : Below w.heap.size w w') : w'.rowIs b t n f := h.of_block (hb.block _ h.lt)

/-- The slice at ao holds n slots: A k, U k, V k at place k. -/
def SlotsAt (w : World) (ao : Option Addr) (n : Nat) (A : Nat → Int) (U : Nat → Bool) (V : Nat → Int) : Prop :=
  ∀ k, k < n → ∃ b off, ao = some ⟨b, off, none⟩ ∧ w.cell? ⟨b, off + k * 3, none⟩ = some (.int .i64 (A k)) ∧ w.cell? ⟨b, off + k * 3 + 1, none⟩ = some (.bool (U k)) ∧ w.cell? ⟨b, off + k * 3 + 2, none⟩ = some (.int .i64 (V k))

theorem SlotsAt.below {w w' : World} {ao : Option Addr} {n : Nat} {A : Nat → Int} {U : Nat → Bool} {V : Nat → Int} (h : SlotsAt w ao n A U V) (hb : Below w.heap.size w w') : SlotsAt w' ao n A U V := by
  intro k hk
  obtain ⟨b, off, e, h1, h2, h3⟩ := h k hk
  have hlt : b < w.heap.size := World.block_lt_of_cell? w _ h1
  exact ⟨b, off, e, (hb.cell hlt).trans h1, (hb.cell hlt).trans h2, (hb.cell hlt).trans h3⟩

/-- The cell j of a row of slots. -/
def slotCell (A : Nat → Int) (U : Nat → Bool) (V : Nat → Int) (j : Nat) : Value :=
  if j % 3 = 0 then .int .i64 (A (j / 3)) else if j % 3 = 1 then .bool (U (j / 3)) else .int .i64 (V (j / 3))

theorem slotCell_0 (A : Nat → Int) (U : Nat → Bool) (V : Nat → Int) (k : Nat) : slotCell A U V (k * 3) = .int .i64 (A k) := by
  unfold slotCell; rw [if_pos (by omega), show k * 3 / 3 = k by omega]
theorem slotCell_1 (A : Nat → Int) (U : Nat → Bool) (V : Nat → Int) (k : Nat) : slotCell A U V (k * 3 + 1) = .bool (U k) := by
  unfold slotCell; rw [if_neg (by omega), if_pos (by omega), show (k * 3 + 1) / 3 = k by omega]
theorem slotCell_2 (A : Nat → Int) (U : Nat → Bool) (V : Nat → Int) (k : Nat) : slotCell A U V (k * 3 + 2) = .int .i64 (V k) := by
  unfold slotCell; rw [if_neg (by omega), if_neg (by omega), show (k * 3 + 2) / 3 = k by omega]

theorem SlotsAt.of_row {w : World} {g t n : Nat} {A : Nat → Int} {U : Nat → Bool} {V : Nat → Int} (h : w.rowIs g t (n * 3) (slotCell A U V)) : SlotsAt w (some ⟨g, 0, none⟩) n A U V := by
  intro k hk
  refine ⟨g, 0, rfl, ?_, ?_, ?_⟩
  · rw [Nat.zero_add, h.cell (by omega), slotCell_0]
  · rw [Nat.zero_add, h.cell (by omega), slotCell_1]
  · rw [Nat.zero_add, h.cell (by omega), slotCell_2]

/-- f below k, z from k on. -/
def upto {α : Type} (k : Nat) (f : Nat → α) (z : α) (i : Nat) : α := if i < k then f i else z
theorem upto_lt {α : Type} {k i : Nat} (f : Nat → α) (z : α) (h : i < k) : upto k f z i = f i := if_pos h
theorem upto_ge {α : Type} {k i : Nat} (f : Nat → α) (z : α) (h : ¬ i < k) : upto k f z i = z := if_neg h
theorem upto_step {α : Type} (f : Nat → α) (z : α) (k j : Nat) (h : j ≠ k) : upto (k + 1) f z j = upto k f z j := by
  unfold upto; by_cases h2 : j < k
  · rw [if_pos h2, if_pos (by omega)]
  · rw [if_neg h2, if_neg (by omega)]

theorem row_of_own {w : World} {base e size g n : Nat} {xs : List Value} (h : w.ownsRow base e size (.slice (some ⟨g, 0, none⟩) n n) n xs) : w.rowIs g e (n * size) (fun j => xs.getD j (.bool false)) := by
  rcases h.2 with ⟨hv, _⟩ | ⟨g', cap, cur, hv, _, hg, _, _, hs, ht⟩
  · cases hv
  · simp only [Value.slice.injEq, Option.some.injEq, Addr.mk.injEq, and_true, true_and] at hv
    obtain ⟨rfl, rfl⟩ := hv
    refine ⟨cur, hg, hs, fun i hi => ?_⟩
    have hh : cur.toList[i]? = xs[i]? := by rw [← ht, List.getElem?_take, if_pos hi]
    have hl : i < cur.size := by omega
    simp only [Array.getElem?_toList] at hh
    show cur[i]? = some (xs.getD i (.bool false))
    rw [List.getD_eq_getElem?_getD, ← hh, Array.getElem?_eq_getElem hl]
    rfl

theorem made_slots (n : Nat) (j : Nat) (hj : j < n * 3) : (madeCells (Value.agg #[.int .i64 0, .bool false, .int .i64 0]).cells (n * 3)).toList.getD j (.bool false) = slotCell (fun _ => 0) (fun _ => false) (fun _ => 0) j := by
  have hz : (Value.agg #[.int .i64 0, .bool false, .int .i64 0]).cells = #[.int .i64 0, .bool false, .int .i64 0] := rfl
  rw [hz]
  simp only [madeCells, Array.toList_map, List.getD_eq_getElem?_getD, List.getElem?_map, Array.toList_range, List.getElem?_range hj, Option.map_some, Option.getD_some]
  unfold slotCell
  have : j % 3 = 0 ∨ j % 3 = 1 ∨ j % 3 = 2 := by omega
  rcases this with h | h | h <;> simp [h]

/-- A slot is stored into a row. -/
theorem slot_set {w : World} {g t n k : Nat} {A A' : Nat → Int} {U U' : Nat → Bool} {V V' : Nat → Int} (h : w.rowIs g t n (slotCell A U V))
    (hA : ∀ i, i ≠ k → A' i = A i) (hU : ∀ i, i ≠ k → U' i = U i) (hV : ∀ i, i ≠ k → V' i = V i) :
    (((w.setCell ⟨g, k * 3, none⟩ (.int .i64 (A' k))).setCell ⟨g, k * 3 + 1, none⟩ (.bool (U' k))).setCell ⟨g, k * 3 + 2, none⟩ (.int .i64 (V' k))).rowIs g t n (slotCell A' U' V') := by
  refine (((h.set (k * 3) _).set (k * 3 + 1) _).set (k * 3 + 2) _).congr fun j _ => ?_
  by_cases h2 : j = k * 3 + 2
  · subst h2; rw [if_pos rfl, slotCell_2]
  · rw [if_neg h2]
    by_cases h1 : j = k * 3 + 1
    · subst h1; rw [if_pos rfl, slotCell_1]
    · rw [if_neg h1]
      by_cases h0 : j = k * 3
      · subst h0; rw [if_pos rfl, slotCell_0]
      · rw [if_neg h0]
        have hk : j / 3 ≠ k := by omega
        unfold slotCell
        rw [hA _ hk, hU _ hk, hV _ hk]

theorem grown_blk {w w1 : World} {row : Option Nat} (hg : w.grownBy w1 row) {b : Nat} {o : Obj} (h : w.heap[b]? = some o) (hne : some b ≠ row) : w1.heap[b]? = some o := (hg.block b (blk_lt h) hne).trans h

/-- The cells of the first n slots. -/
def slotList (A : Nat → Int) (U : Nat → Bool) (V : Nat → Int) (n : Nat) : List Value := (List.range (n * 3)).map (slotCell A U V)
theorem slotList_succ (A : Nat → Int) (U : Nat → Bool) (V : Nat → Int) (k : Nat) : slotList A U V (k + 1) = slotList A U V k ++ [.int .i64 (A k), .bool (U k), .int .i64 (V k)] := by
  unfold slotList
  rw [show (k + 1) * 3 = k * 3 + 1 + 1 + 1 by omega, List.range_succ, List.range_succ, List.range_succ]
  simp only [List.map_append, List.map_cons, List.map_nil, slotCell_0, slotCell_1, List.append_assoc, List.cons_append, List.nil_append]
  rw [show k * 3 + 1 + 1 = k * 3 + 2 by omega, slotCell_2]
/-- The cells of the first n numbers. -/
def intList (F : Nat → Int) (n : Nat) : List Value := (List.range n).map (fun k => .int .i64 (F k))
theorem intList_succ (F : Nat → Int) (k : Nat) : intList F (k + 1) = intList F k ++ [.int .i64 (F k)] := by
  unfold intList; rw [List.range_succ, List.map_append]; rfl
theorem intList_get (F : Nat → Int) (n j : Nat) (u : Value) (h : (intList F n)[j]? = some u) : j < n ∧ u = .int .i64 (F j) := by
  unfold intList at h
  rw [List.getElem?_map] at h
  by_cases hj : j < n
  · rw [List.getElem?_range hj] at h; simp at h; exact ⟨hj, h.symm⟩
  · rw [List.getElem?_eq_none (by simpa using hj)] at h; cases h
theorem intList_one (F : Nat → Int) (n : Nat) : ∀ u ∈ intList F n, u.oneCell' = true := by
  intro u hu
  unfold intList at hu
  simp only [List.mem_map] at hu
  obtain ⟨j, _, rfl⟩ := hu
  rfl
theorem intList_length (F : Nat → Int) (n : Nat) : (intList F n).length = n := by simp [intList]
theorem own_base {w : World} {base base' e size n : Nat} {v : Value} {xs : List Value} (h : w.ownsRow base e size v n xs) (hb : base' ≤ base) : w.ownsRow base' e size v n xs := by
  refine ⟨h.1, ?_⟩
  rcases h.2 with h0 | ⟨g, cap, cur, hv, h1, rest⟩
  · exact .inl h0
  · exact .inr ⟨g, cap, cur, hv, Nat.le_trans hb h1, rest⟩
/-- An owned row of another block than the one that is written. -/
theorem own_set {w : World} {base e size n : Nat} {v : Value} {xs : List Value} (h : w.ownsRow base e size v n xs) {a : Addr} (ha : a.block < base) (u : Value) : (w.setCell a u).ownsRow base e size v n xs := ownsRow_setCell_below h ha u
theorem own_form {w : World} {base e size n : Nat} {v : Value} {xs : List Value} (h : w.ownsRow base e size v n xs) : ∃ ao c, v = .slice ao n c ∧ n ≤ c ∧ c ≤ maxLen ∧ (ao = none → n = 0 ∧ c = 0) := by
  rcases h.2 with ⟨rfl, rfl⟩ | ⟨g, cap, cur, rfl, hb, hg, h1, h2, _⟩
  · exact ⟨none, 0, rfl, Nat.le_refl _, Nat.zero_le _, fun _ => ⟨rfl, rfl⟩⟩
  · exact ⟨_, cap, rfl, h1, h2, fun h => by cases h⟩
theorem own_slots {w : World} {base e n c : Nat} {ao : Option Addr} {A : Nat → Int} {U : Nat → Bool} {V : Nat → Int} (h : w.ownsRow base e 3 (.slice ao n c) n (slotList A U V n)) : SlotsAt w ao n A U V := by
  intro k hk
  rcases h.2 with ⟨_, h0⟩ | ⟨g, cap, cur, hv, hb, hg, h1, h2, _⟩
  · omega
  · simp only [Value.slice.injEq, true_and] at hv
    obtain ⟨rfl, rfl⟩ := hv
    have hc : ∀ j, j < n * 3 → w.cell? ⟨g, j, none⟩ = some (slotCell A U V j) := by
      intro j hj
      rw [h.cellAt j hj]
      unfold slotList
      rw [List.getElem?_map, List.getElem?_range hj]; rfl
    refine ⟨g, 0, rfl, ?_, ?_, ?_⟩
    · rw [Nat.zero_add, hc _ (by omega), slotCell_0]
    · rw [Nat.zero_add, hc _ (by omega), slotCell_1]
    · rw [Nat.zero_add, hc _ (by omega), slotCell_2]
theorem own_ints {w : World} {base e n c : Nat} {ao : Option Addr} {F : Nat → Int} (h : w.ownsRow base e 1 (.slice ao n c) n (intList F n)) : IntsAt w ao n F := by
  intro k hk
  rcases h.2 with ⟨_, h0⟩ | ⟨g, cap, cur, hv, hb, hg, h1, h2, _⟩
  · omega
  · simp only [Value.slice.injEq, true_and] at hv
    obtain ⟨rfl, rfl⟩ := hv
    refine ⟨g, 0, rfl, ?_⟩
    rw [Nat.zero_add, h.cellAt k (by omega)]
    unfold intList
    rw [List.getElem?_map, List.getElem?_range hk]; rfl

/-- The end of a function that hands back a struct of two cells: the second field is set, then both are moved into the result's box. -/
theorem box_end {w W : World} {t : Nat} {v1 v2 x1 x2 : Value} (hr : W.heap[w.heap.size + 1]? = some (.cells #[x1, x2] t (0, 0))) (hb : Below w.heap.size w W) (F : World)
    (hF : F = ((W.setCell ⟨w.heap.size + 1 + 1, 1, none⟩ v2).setCell ⟨w.heap.size + 1, 0, none⟩ v1).setCell ⟨w.heap.size + 1, 1, none⟩ v2) :
    F.cell? ⟨w.heap.size + 1, 0, none⟩ = some v1 ∧ F.cell? ⟨w.heap.size + 1, 1, none⟩ = some v2 ∧ Below w.heap.size w F ∧
      (∀ base e size v n xs, w.heap.size + 1 + 1 < base → W.ownsRow base e size v n xs → F.ownsRow w.heap.size e size v n xs) ∧
      (∀ b e n f, w.heap.size + 1 + 1 < b → W.rowIs b e n f → F.rowIs b e n f) := by
  subst hF
  have rF := blk_set (blk_set (blk_set_other hr (b' := w.heap.size + 1 + 1) 1 v2 (by omega)) 0 v1) 1 v2
  refine ⟨blk_cell rF 0 _ rfl, blk_cell rF 1 _ rfl, ?_, ?_, ?_⟩
  · exact ((hb.setCell (by show w.heap.size ≤ w.heap.size + 1 + 1; omega) _).setCell (by show w.heap.size ≤ w.heap.size + 1; omega) _).setCell (by show w.heap.size ≤ w.heap.size + 1; omega) _
  · intro base e size v n xs hl h
    exact own_base (own_set (own_set (own_set h (by show w.heap.size + 1 + 1 < base; omega) _) (by show w.heap.size + 1 < base; omega) _) (by show w.heap.size + 1 < base; omega) _) (by omega)
  · intro b e n f hl h
    exact ((h.setOther (by show b ≠ w.heap.size + 1 + 1; omega) _).setOther (by show b ≠ w.heap.size + 1; omega) _).setOther (by show b ≠ w.heap.size + 1; omega) _

theorem fill_step {α : Type} (f : Nat → α) (z : α) (k j : Nat) : (if j = k then f k else if j < k then f j else z) = if j < k + 1 then f j else z := by
  by_cases h : j = k
  · subst h; simp
  · by_cases h2 : j < k
    · rw [if_neg h, if_pos h2, if_pos (by omega)]
    · rw [if_neg h, if_neg h2, if_neg (by omega)]

end Go.Proofs.YtfallpinmhbemaaGreatDoor

namespace Go.Proofs.YtfallpinmhbemaaGreatDoor
open Go.RowKit

theorem blk_drew {w : World} {b : Nat} {o : Obj} (h : w.heap[b]? = some o) : w.drew.heap[b]? = some o := h

/-- w' is w with new blocks, and with writes to blocks of S alone. -/
structure Kept (w w' : World) (S : Nat → Prop) : Prop where
  os : w'.os = w.os
  tape : w'.tape = w.tape
  output : w'.output = w.output
  size : w.heap.size ≤ w'.heap.size
  block : ∀ k, k < w.heap.size → ¬ S k → w'.heap[k]? = w.heap[k]?

theorem Kept.refl (w : World) (S : Nat → Prop) : Kept w w S := ⟨rfl, rfl, rfl, Nat.le_refl _, fun _ _ _ => rfl⟩
theorem Kept.trans {w w' w'' : World} {S : Nat → Prop} (h : Kept w w' S) (k : Kept w' w'' S) : Kept w w'' S :=
  ⟨k.os.trans h.os, k.tape.trans h.tape, k.output.trans h.output, Nat.le_trans h.size k.size, fun i hi hs => (k.block i (Nat.lt_of_lt_of_le hi h.size) hs).trans (h.block i hi hs)⟩
theorem Kept.mono {w w' : World} {S T : Nat → Prop} (h : Kept w w' S) (hs : ∀ k, S k → T k) : Kept w w' T := ⟨h.os, h.tape, h.output, h.size, fun i hi ht => h.block i hi fun s => ht (hs i s)⟩
theorem Kept.of_below {w w' : World} {S : Nat → Prop} (h : Below w.heap.size w w') : Kept w w' S := ⟨h.os, h.tape, h.output, h.size, fun i hi _ => h.block i hi⟩
theorem Kept.set {w w' : World} {S : Nat → Prop} (h : Kept w w' S) {a : Addr} (ha : S a.block) (u : Value) : Kept w (w'.setCell a u) S :=
  h.trans ⟨rfl, rfl, rfl, by simp, fun k _ hk => Below.heap_setCell _ _ _ _ (fun e => hk (e ▸ ha))⟩
theorem Kept.below {B : Nat} {w0 w w' : World} {S : Nat → Prop} (h0 : Below B w0 w) (hB : B ≤ w.heap.size) (h : Kept w w' S) (hS : ∀ k, S k → B ≤ k) : Below B w0 w' :=
  h0.trans ⟨h.os, h.tape, h.output, h.size, fun k hk => h.block k (by omega) (fun s => by have := hS k s; omega)⟩
theorem Kept.blk {w w' : World} {S : Nat → Prop} (h : Kept w w' S) {b : Nat} {o : Obj} (hb : w.heap[b]? = some o) (hs : ¬ S b) : w'.heap[b]? = some o := (h.block b (blk_lt hb) hs).trans hb
theorem Kept.own {w w' : World} {S : Nat → Prop} (h : Kept w w' S) {base e size n : Nat} {v : Value} {xs : List Value} (ho : w.ownsRow base e size v n xs) (hs : ∀ g, v.ownBlock = some g → ¬ S g) : w'.ownsRow base e size v n xs := by
  refine ⟨ho.1, ?_⟩
  rcases ho.2 with h0 | ⟨g, cap, cur, rfl, hb, hg, rest⟩
  · exact .inl h0
  · exact .inr ⟨g, cap, cur, rfl, hb, h.blk hg (hs g rfl), rest⟩
theorem own_below {w w' : World} (h : Below w.heap.size w w') {base e size n : Nat} {v : Value} {xs : List Value} (ho : w.ownsRow base e size v n xs) : w'.ownsRow base e size v n xs :=
  (Kept.of_below (S := fun _ => False) h).own ho (fun _ _ h => h)

/-- Two owned rows of different element types lie in different blocks. -/
theorem own_apart {w : World} {b1 e1 s1 n1 b2 e2 s2 n2 : Nat} {v1 v2 : Value} {x1 x2 : List Value} (h1 : w.ownsRow b1 e1 s1 v1 n1 x1) (h2 : w.ownsRow b2 e2 s2 v2 n2 x2) (hne : e1 ≠ e2) : ∀ g, v1.ownBlock = some g → v2.ownBlock ≠ some g := by
  intro g hg1 hg2
  rcases h1.2 with ⟨rfl, _⟩ | ⟨g1, c1, r1, rfl, _, k1, _⟩
  · simp [Value.ownBlock] at hg1
  · rcases h2.2 with ⟨rfl, _⟩ | ⟨g2, c2, r2, rfl, _, k2, _⟩
    · simp [Value.ownBlock] at hg2
    · simp only [Value.ownBlock, Option.some.injEq] at hg1 hg2
      subst hg1
      subst hg2
      rw [k1] at k2
      simp at k2
      exact hne k2.2

/-- A row that is known whole, as an owned one. -/
theorem own_of_row {w : World} {g e n size base : Nat} {f : Nat → Value} (h : w.rowIs g e (n * size) f) (hb : base ≤ g) (hn : n ≤ maxLen) : w.ownsRow base e size (.slice (some ⟨g, 0, none⟩) n n) n ((List.range (n * size)).map f) := by
  obtain ⟨c, hg, hs, hc⟩ := h
  refine ⟨by simp, .inr ⟨g, n, c, rfl, hb, hg, Nat.le_refl _, hn, hs, ?_⟩⟩
  apply List.ext_getElem?
  intro i
  rw [List.getElem?_take]
  by_cases hi : i < n * size
  · rw [if_pos hi, List.getElem?_map, List.getElem?_range hi, Array.getElem?_toList, hc i hi]; rfl
  · rw [if_neg hi, List.getElem?_eq_none (by simpa using hi)]

theorem range_set {N j : Nat} {f : Nat → Value} {u : Value} : ((List.range N).map f).set j u = (List.range N).map (fun i => if i = j then u else f i) := by
  apply List.ext_getElem?
  intro i
  rw [List.getElem?_set, List.getElem?_map, List.getElem?_map, List.length_map, List.length_range]
  by_cases hi : i < N
  · rw [List.getElem?_range hi]
    by_cases e : j = i
    · subst e; simp [hi]
    · rw [if_neg e]; simp [show ¬ i = j from fun h => e h.symm]
  · rw [List.getElem?_eq_none (l := List.range N) (by simpa using hi)]
    by_cases e : j = i
    · subst e; simp [hi]
    · rw [if_neg e]; rfl
theorem own_store {w : World} {base e size g n cap N : Nat} {f : Nat → Value} (h : w.ownsRow base e size (.slice (some ⟨g, 0, none⟩) n cap) n ((List.range N).map f)) (j : Nat) (u : Value) :
    (w.setCell ⟨g, j, none⟩ u).ownsRow base e size (.slice (some ⟨g, 0, none⟩) n cap) n ((List.range N).map (fun i => if i = j then u else f i)) := by
  have := (h.stored j u).1
  rwa [range_set] at this
theorem own_congr {w : World} {base e size n N : Nat} {v : Value} {f f' : Nat → Value} (h : w.ownsRow base e size v n ((List.range N).map f)) (hf : ∀ i, i < N → f i = f' i) : w.ownsRow base e size v n ((List.range N).map f') := by
  have : (List.range N).map f = (List.range N).map f' := List.map_congr_left fun i hi => hf i (by simpa using hi)
  rwa [this] at h
theorem own_cell {w : World} {base e size g n cap N : Nat} {f : Nat → Value} (h : w.ownsRow base e size (.slice (some ⟨g, 0, none⟩) n cap) n ((List.range N).map f)) (j : Nat) (hj : j < n * size) (hN : N = n * size) : w.cell? ⟨g, j, none⟩ = some (f j) := by
  rw [h.cellAt j hj, List.getElem?_map, List.getElem?_range (by omega)]; rfl
/-- An owned row that is not empty, its address written out. -/
theorem own_addr {w : World} {base e size n c : Nat} {ao : Option Addr} {xs : List Value} (h : w.ownsRow base e size (.slice ao n c) n xs) (hn : 0 < n) : ∃ g, ao = some ⟨g, 0, none⟩ ∧ base ≤ g ∧ g < w.heap.size := by
  obtain ⟨g, cap, e, h1, h2⟩ := h.form hn
  simp only [Value.slice.injEq, true_and] at e
  exact ⟨g, e.1, h1, h2⟩

end Go.Proofs.YtfallpinmhbemaaGreatDoor

namespace Go.Proofs.YtfallpinmhbemaaGreatDoor
open Go.RowKit

/-- The code at ao can be read, and lies in another block than cb. -/
def CodeAt (w : World) (cb : Nat) (ao : Option Addr) (n : Nat) : Prop :=
  ∀ k, k < n → ∃ b off v, ao = some ⟨b, off, none⟩ ∧ b ≠ cb ∧ w.cell? ⟨b, off + k, none⟩ = some (.int .u8 v) ∧ 0 ≤ v ∧ v ≤ 255
theorem Kept.cellAt {w w' : World} {S : Nat → Prop} (h : Kept w w' S) {a : Addr} {v : Value} (hc : w.cell? a = some v) (hs : ¬ S a.block) : w'.cell? a = some v := by
  have hlt := World.block_lt_of_cell? w _ hc
  have := h.block a.block hlt hs
  unfold World.cell? at hc ⊢
  rw [this]; exact hc
theorem CodeAt.kept {w w' : World} {cb n : Nat} {ao : Option Addr} (h : CodeAt w cb ao n) (hk : Kept w w' (fun b => b = cb)) : CodeAt w' cb ao n := by
  intro k hk'
  obtain ⟨b, off, v, e, hne, hc, h1, h2⟩ := h k hk'
  exact ⟨b, off, v, e, hne, hk.cellAt hc hne, h1, h2⟩
/-- The cursor cb over the code at ao, at most at place a. -/
def CurIs (w : World) (cb : Nat) (ao : Option Addr) (n c a : Nat) : Prop :=
  (∃ (p : Nat) (s : Int), p ≤ a ∧ w.heap[cb]? = some (.cells #[.slice ao n c, .int .i64 p, .int .u64 s] 60 (0, 0))) ∧ CodeAt w cb ao n
theorem CurIs.more {w : World} {cb n c a b : Nat} {ao : Option Addr} (h : CurIs w cb ao n c a) (hab : a ≤ b) : CurIs w cb ao n c b := by
  obtain ⟨⟨p, s, hp, hb⟩, hc⟩ := h
  exact ⟨⟨p, s, by omega, hb⟩, hc⟩

theorem and_255 (x : Int) (h0 : 0 ≤ x) (h1 : x < 18446744073709551616) : bits .and .u64 x 255 = x % 256 :=
  bits_mask .u64 64 (by decide) (fun n h0 h1 => by rw [IntKind.wrap_u64]; omega) 8 (by decide) x h0 h1
theorem low_byte (y : Int) : ∃ r : Nat, wrap64 (bits .and .u64 (IntKind.u64.wrap y / 1099511627776) 255) = (r : Int) ∧ r ≤ 255 := by
  have hw := IntKind.wrap_u64 y
  rw [and_255 _ (by rw [hw]; omega) (by rw [hw]; omega)]
  refine ⟨((IntKind.u64.wrap y / 1099511627776) % 256).toNat, ?_, by omega⟩
  unfold wrap64
  omega
/-- The cursor one place on. -/
theorem cur_on {w : World} {cb n c p a k k' : Nat} {ao : Option Addr} {s s' : Int} (hp : p ≤ a) (hb : w.heap[cb]? = some (.cells #[.slice ao n c, .int .i64 p, .int .u64 s] 60 (0, 0))) (hc : CodeAt w cb ao n) :
    CurIs ((((w.drewN k).setCell ⟨cb, 1, none⟩ (.int .i64 ((p : Int) + 1))).setCell ⟨cb, 2, none⟩ (.int .u64 s')).drewN k') cb ao n c (a + 1) ∧ Kept w ((((w.drewN k).setCell ⟨cb, 1, none⟩ (.int .i64 ((p : Int) + 1))).setCell ⟨cb, 2, none⟩ (.int .u64 s')).drewN k') (fun b => b = cb) := by
  have e : (.int .i64 ((p : Int) + 1) : Value) = .int .i64 ((p + 1 : Nat) : Int) := by simp
  have hk1 : Kept w (((w.drewN k).setCell ⟨cb, 1, none⟩ (.int .i64 ((p : Int) + 1))).setCell ⟨cb, 2, none⟩ (.int .u64 s')) (fun b => b = cb) :=
    ((Kept.of_below (S := fun b => b = cb) (below_drewN (Below.refl _ w) k)).set (a := ⟨cb, 1, none⟩) rfl _).set (a := ⟨cb, 2, none⟩) rfl _
  have hk2 := hk1.trans (Kept.of_below (S := fun b => b = cb) (below_drewN (Below.refl _ _) k'))
  have hb' : (w.drewN k).heap[cb]? = some (.cells #[.slice ao n c, .int .i64 p, .int .u64 s] 60 (0, 0)) := hb
  exact ⟨⟨⟨p + 1, s', by omega, by rw [← e]; exact blk_set (blk_set hb' 1 _) 2 _⟩, hc.kept hk2⟩, hk2⟩

set_option maxHeartbeats 800000 in
set_option maxRecDepth 100000 in
theorem next_any (cb : Nat) (ao : Option Addr) (n c a : Nat) (w : World) (ha : a ≤ 1000000000000000000) (h : CurIs w cb ao n c a) :
    Calls Tryz.prog 96 #[.pointer (some ⟨cb, 0, none⟩)] w fun e w' => (∃ r : Nat, e = .returned (.int .i64 r) ∧ r ≤ 255) ∧ CurIs w' cb ao n c (a + 1) ∧ Kept w w' (fun b => b = cb) := by
  obtain ⟨⟨p, s, hp, hb⟩, hc⟩ := h
  have q0 : w.cell? ⟨cb, 0, none⟩ = some (.slice ao n c) := blk_cell hb 0 _ rfl
  have q1 : w.cell? ⟨cb, 1, none⟩ = some (.int .i64 p) := blk_cell hb 1 _ rfl
  have q2 : w.cell? ⟨cb, 2, none⟩ = some (.int .u64 s) := blk_cell hb 2 _ rfl
  have f1 := blk_free hb 1
  have f2 := blk_free hb 2
  have hw1 : IntKind.i64.wrap ((p : Int) + 1) = (p : Int) + 1 := by rw [IntKind.wrap_i64]; omega
  by_cases hlt : p < n
  · obtain ⟨b, off, v, rfl, hne, hcell, v0, v1⟩ := hc p hlt
    have d1 : decide ((p : Int) < (n : Int)) = true := by simp; omega
    have d2 : decide ((p : Int) + 1 ≤ (n : Int)) = true := by simp; omega
    have i1 : (p : Int) < (n : Int) := by omega
    have i0 : (0 : Int) ≤ (p : Int) := by omega
    go_enter Tryz.func96, Tryz.ntmps96
    go_wp2
    go_quiet (fail)
    go_wp2
    go_quiet (fail)
    go_wp2
    go_quiet (fail)
    go_wp2
    go_ret
    exact ⟨⟨v.toNat, by rw [show ((v.toNat : Nat) : Int) = v by omega]; rfl, by omega⟩, cur_on hp hb hc⟩
  · have d1 : decide ((p : Int) < (n : Int)) = false := by simp; omega
    have d2 : decide ((p : Int) + 1 ≤ (n : Int)) = false := by simp; omega
    go_enter Tryz.func96, Tryz.ntmps96
    go_wp2
    go_quiet (fail)
    go_wp2
    go_quiet (fail)
    go_wp2
    obtain ⟨r, hr, hr2⟩ := low_byte (IntKind.u64.wrap (IntKind.u64.wrap (s * 6364136223846793005)) + 1442695040888963407)
    rw [hr]
    go_ret
    exact ⟨⟨r, rfl, hr2⟩, cur_on hp hb hc⟩

/-- What a draw leaves: the cursor at most k places on. -/
def Drawn (w w' : World) (cb : Nat) (ao : Option Addr) (n c a : Nat) : Prop := CurIs w' cb ao n c a ∧ Kept w w' (fun b => b = cb)

set_option maxHeartbeats 800000 in
theorem pick_any (cb : Nat) (ao : Option Addr) (n c a : Nat) (m : Nat) (w : World) (ha : a ≤ 900000000000000000) (hm : 1 ≤ m) (hm2 : m ≤ 100000) (h : CurIs w cb ao n c a) :
    Calls Tryz.prog 59 #[.pointer (some ⟨cb, 0, none⟩), .int .i64 m] w fun e w' => (∃ r : Nat, e = .returned (.int .i64 r) ∧ r < m) ∧ CurIs w' cb ao n c (a + 2) ∧ Kept w w' (fun b => b = cb) := by
  by_cases h1 : m = 1
  · subst h1
    go_enter Tryz.func59, Tryz.ntmps59
    go_wp2
    go_ret
    exact ⟨⟨0, rfl, by omega⟩, h.more (by omega), Kept.refl _ _⟩
  · have d1 : decide ((m : Int) ≤ 1) = false := by simp; omega
    have m0 : ¬ ((m : Int) = 0) := by omega
    go_enter Tryz.func59, Tryz.ntmps59
    go_wp2_with fail
    refine (next_any cb ao n c a _ (by omega) h).mono ?_
    rintro e w1 ⟨⟨r, rfl, hr⟩, hc1, hk1⟩
    by_cases h2 : 200 < m
    · have d2 : decide ((200 : Int) < (m : Int)) = true := by simp; omega
      go_wp2_with fail
      refine (next_any cb ao n c (a + 1) _ (by omega) hc1).mono ?_
      rintro e w2 ⟨⟨r2, rfl, hr2⟩, hc2, hk2⟩
      have hw : IntKind.i64.wrap ((r : Int) * 256 + (r2 : Int)) = ((r * 256 + r2 : Nat) : Int) := by rw [IntKind.wrap_i64]; omega
      go_wp2
      go_ret
      exact ⟨⟨(r * 256 + r2) % m, by simp [Int.natCast_emod], Nat.mod_lt _ (by omega)⟩, hc2, hk1.trans hk2⟩
    · have d2 : decide ((200 : Int) < (m : Int)) = false := by simp; omega
      go_wp2
      go_ret
      exact ⟨⟨r % m, by simp [Int.natCast_emod], Nat.mod_lt _ (by omega)⟩, hc1.more (by omega), hk1⟩

theorem one_any (cb : Nat) (ao : Option Addr) (n c a : Nat) (m : Nat) (w : World) (ha : a ≤ 900000000000000000) (hm : 1 ≤ m) (hm2 : m ≤ 100000) (h : CurIs w cb ao n c a) :
    Calls Tryz.prog 76 #[.pointer (some ⟨cb, 0, none⟩), .int .i64 m] w fun e w' => (∃ b : Bool, e = .returned (.bool b)) ∧ CurIs w' cb ao n c (a + 2) ∧ Kept w w' (fun b => b = cb) := by
  go_enter Tryz.func76, Tryz.ntmps76
  go_wp2_with fail
  refine (pick_any cb ao n c a m _ ha hm hm2 h).mono ?_
  rintro e w1 ⟨⟨r, rfl, hr⟩, hc1, hk1⟩
  cases hd : ((r : Int) == 0) with
  | true =>
    go_wp2
    go_ret
    exact ⟨⟨_, rfl⟩, hc1, hk1⟩
  | false =>
    go_wp2
    go_ret
    exact ⟨⟨_, rfl⟩, hc1, hk1⟩

end Go.Proofs.YtfallpinmhbemaaGreatDoor

namespace Go.Proofs.YtfallpinmhbemaaGreatDoor
open Go.RowKit

theorem among_any (cb : Nat) (ao : Option Addr) (n c a : Nat) (b off m cap : Nat) (F : Nat → Int) (w : World) (ha : a ≤ 900000000000000000) (hm : 1 ≤ m) (hm2 : m ≤ 100000) (h : CurIs w cb ao n c a) (hne : b ≠ cb) (hF : ∀ k, k < m → w.cell? ⟨b, off + k, none⟩ = some (.int .i64 (F k))) :
    Calls Tryz.prog 73 #[.pointer (some ⟨cb, 0, none⟩), .slice (some ⟨b, off, none⟩) m cap] w fun e w' => (∃ x : Int, e = .returned (.int .i64 x)) ∧ CurIs w' cb ao n c (a + 2) ∧ Kept w w' (fun b => b = cb) := by
  have HF : Hid (∀ k, k < m → w.cell? ⟨b, off + k, none⟩ = some (.int .i64 (F k))) := hF
  clear hF
  go_enter Tryz.func73, Tryz.ntmps73
  go_wp2_with fail
  refine (pick_any cb ao n c a m _ ha hm hm2 h).mono ?_
  rintro e w1 ⟨⟨r, rfl, hr⟩, hc1, hk1⟩
  have c1 := hk1.cellAt (HF.out r hr) hne
  have i1 : (r : Int) < (m : Int) := by omega
  go_wp2
  go_ret
  exact ⟨⟨_, rfl⟩, hc1, hk1⟩

end Go.Proofs.YtfallpinmhbemaaGreatDoor

namespace Go.Proofs.YtfallpinmhbemaaGreatDoor
open Go.RowKit

/-- A cursor that stands behind new blocks. -/
theorem CurIs.below {w w' : World} {cb n c a : Nat} {ao : Option Addr} (h : CurIs w cb ao n c a) (hb : Below w.heap.size w w') : CurIs w' cb ao n c a := by
  obtain ⟨⟨p, s, hp, hk⟩, hc⟩ := h
  exact ⟨⟨p, s, hp, blk_below hk hb⟩, hc.kept (Kept.of_below hb)⟩

theorem CurIs.lt {w : World} {cb n c a : Nat} {ao : Option Addr} (h : CurIs w cb ao n c a) : cb < w.heap.size := by
  obtain ⟨⟨p, s, hp, hb⟩, _⟩ := h
  exact blk_lt hb

theorem CurIs.code_lt {w : World} {cb n c a : Nat} {ao : Option Addr} (h : CurIs w cb ao n c a) : ∀ k, k < n → ∀ b off, ao = some ⟨b, off, none⟩ → b < w.heap.size := by
  intro k hk b off e
  obtain ⟨b', off', v, e', _, hcell, _, _⟩ := h.2 k hk
  rw [e] at e'
  cases e'
  exact World.block_lt_of_cell? w _ hcell

set_option maxHeartbeats 800000 in
theorem amongL (cb : Nat) (ao : Option Addr) (n c a : Nat) (m : Nat) (l : List Int) (w : World) (hl : l.length = m) (ha : a ≤ 900000000000000000) (hm : 1 ≤ m) (hm2 : m ≤ 100000) (h : CurIs w cb ao n c a) (b : Nat) (hb : w.heap[b]? = some (.cells (l.map (fun x => Value.int .i64 x)).toArray 3 (0, 0))) (hne : b ≠ cb) :
    Calls Tryz.prog 73 #[.pointer (some ⟨cb, 0, none⟩), .slice (some ⟨b, 0, none⟩) m m] w fun e w' => (∃ x : Int, e = .returned (.int .i64 x)) ∧ CurIs w' cb ao n c (a + 2) ∧ Kept w w' (fun b => b = cb) := by
  refine among_any cb ao n c a b 0 m m (fun k => l.getD k 0) w ha hm hm2 h hne (fun k hk => ?_)
  rw [Nat.zero_add]
  refine blk_cell hb k _ ?_
  simp only [List.getElem?_toArray, List.getElem?_map, List.getD_eq_getElem?_getD]
  rw [List.getElem?_eq_getElem (by omega)]
  rfl

/-- The bytes at ao can be read. -/
def BytesAt (w : World) (ao : Option Addr) (n : Nat) : Prop := ∀ k, k < n → ∃ b off v, ao = some ⟨b, off, none⟩ ∧ w.cell? ⟨b, off + k, none⟩ = some (.int .u8 v) ∧ 0 ≤ v ∧ v ≤ 255

theorem BytesAt.below {w w' : World} {ao : Option Addr} {n : Nat} (h : BytesAt w ao n) (hb : Below w.heap.size w w') : BytesAt w' ao n := by
  intro k hk
  obtain ⟨b, off, v, e, hc, h1, h2⟩ := h k hk
  exact ⟨b, off, v, e, (hb.cell (World.block_lt_of_cell? w _ hc)).trans hc, h1, h2⟩

theorem cur_new {w : World} {ao : Option Addr} {n c : Nat} (h : BytesAt w ao n) : CurIs (w.alloc (.cells #[.slice ao n c, .int .i64 0, .int .u64 0] 60)) w.heap.size ao n c 0 := by
  refine ⟨⟨0, 0, Nat.le_refl _, heap_alloc_new w _⟩, fun k hk => ?_⟩
  obtain ⟨b, off, v, e, hc, h1, h2⟩ := h k hk
  have hlt : b < w.heap.size := World.block_lt_of_cell? w _ hc
  exact ⟨b, off, v, e, by omega, ((push (Below.refl _ w) _).cell (p := ⟨b, off + k, none⟩) hlt).trans hc, h1, h2⟩

end Go.Proofs.YtfallpinmhbemaaGreatDoor
