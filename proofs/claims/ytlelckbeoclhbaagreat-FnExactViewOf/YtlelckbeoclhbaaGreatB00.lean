/-
  OWN TEXT: Kit, Kit2, KitS, KitD.
-/
import Derived.WalkKit
import Derived.WalkSpells
import Derived.WalkSmall
import Derived.Deep.OwnRows
import Derived.Deep.AppendLies
import Derived.Laws.AppendOwnNone
import Derived.Deep.QuietTactic
import Derived.BigQuiet
set_option maxHeartbeats 12800000
set_option maxRecDepth 100000
namespace Go.Proofs.YtlelckbeoclhbaaGreat
open Go.RowKit
def IntsAt (w : World) (ao : Option Addr) (n : Nat) (f : Nat → Int) : Prop :=
  ∀ k, k < n → ∃ b off, ao = some ⟨b, off, none⟩ ∧ w.cell? ⟨b, off + k, none⟩ = some (.int .i64 (f k))
theorem IntsAt.below {w w' : World} {ao : Option Addr} {n : Nat} {f : Nat → Int} (h : IntsAt w ao n f) (hb : Below w.heap.size w w') : IntsAt w' ao n f := by
  intro k hk
  obtain ⟨b, off, e, hc⟩ := h k hk
  exact ⟨b, off, e, (hb.cell (World.block_lt_of_cell? w _ hc)).trans hc⟩
theorem IntsAt.upto {w : World} {ao : Option Addr} {n i : Nat} {f : Nat → Int} (h : IntsAt w ao n f) (hi : i ≤ n) : IntsAt w ao i f := fun k hk => h k (by omega)
theorem IntsAt.of_row {w : World} {g t n : Nat} {f : Nat → Int} (h : w.rowIs g t n (fun k => .int .i64 (f k))) : IntsAt w (some ⟨g, 0, none⟩) n f := by
  intro k hk
  exact ⟨g, 0, rfl, by rw [Nat.zero_add]; exact h.cell (by omega)⟩
theorem push {w w' : World} (h : Below w.heap.size w w') (o : Obj) : Below w.heap.size w (w'.alloc o) := h.alloc h.size o
theorem after {w w' w'' : World} (h : Below w.heap.size w w') (k : Below w'.heap.size w' w'') : Below w.heap.size w w'' := h.trans (k.mono h.size)
theorem bcell {W w1 : World} (hb : Below W.heap.size W w1) : (∀ b o, b < W.heap.size → w1.cell? ⟨b, o, none⟩ = W.cell? ⟨b, o, none⟩) ∧ (∀ b o, b < W.heap.size → w1.frozen? ⟨b, o, none⟩ = W.frozen? ⟨b, o, none⟩) :=
  ⟨fun b o h => hb.cell (p := ⟨b, o, none⟩) h, fun b o h => hb.frozen (p := ⟨b, o, none⟩) h⟩
/-! A block that is known whole. -/
theorem blk_cell {w : World} {b t : Nat} {cs : Array Value} (h : w.heap[b]? = some (.cells cs t (0, 0))) (i : Nat) (v : Value) (hv : cs[i]? = some v) : w.cell? ⟨b, i, none⟩ = some v := by
  simp [World.cell?, h, hv]
theorem blk_free {w : World} {b t : Nat} {cs : Array Value} (h : w.heap[b]? = some (.cells cs t (0, 0))) (i : Nat) : w.frozen? ⟨b, i, none⟩ = false := by
  simp [World.frozen?, h]
theorem blk_lt {w : World} {b : Nat} {o : Obj} (h : w.heap[b]? = some o) : b < w.heap.size := (Array.getElem?_eq_some_iff.1 h).1
theorem blk_set {w : World} {b t : Nat} {cs : Array Value} (h : w.heap[b]? = some (.cells cs t (0, 0))) (i : Nat) (v : Value) : (w.setCell ⟨b, i, none⟩ v).heap[b]? = some (.cells (cs.setIfInBounds i v) t (0, 0)) := by
  simp [World.setCell, Array.getElem?_modify, h]
theorem blk_set_other {w : World} {b b' : Nat} {o : Obj} (h : w.heap[b]? = some o) (i : Nat) (v : Value) (hne : b ≠ b') : (w.setCell ⟨b', i, none⟩ v).heap[b]? = some o :=
  (Below.heap_setCell w ⟨b', i, none⟩ v b hne).trans h
theorem blk_alloc {w : World} {b : Nat} {o : Obj} (h : w.heap[b]? = some o) (o' : Obj) : (w.alloc o').heap[b]? = some o := (Below.heap_alloc w o' b (blk_lt h)).trans h
theorem blk_below {w w' : World} {b : Nat} {o : Obj} (h : w.heap[b]? = some o) (hb : Below w.heap.size w w') : w'.heap[b]? = some o := (hb.block b (blk_lt h)).trans h
theorem row_below {w w' : World} {b t n : Nat} {f : Nat → Value} (h : w.rowIs b t n f) (hb : Below w.heap.size w w') : w'.rowIs b t n f := h.of_block (hb.block _ h.lt)
def SlotsAt (w : World) (ao : Option Addr) (n : Nat) (A : Nat → Int) (U : Nat → Bool) (V : Nat → Int) : Prop :=
  ∀ k, k < n → ∃ b off, ao = some ⟨b, off, none⟩ ∧ w.cell? ⟨b, off + k * 3, none⟩ = some (.int .i64 (A k)) ∧ w.cell? ⟨b, off + k * 3 + 1, none⟩ = some (.bool (U k)) ∧ w.cell? ⟨b, off + k * 3 + 2, none⟩ = some (.int .i64 (V k))
theorem SlotsAt.below {w w' : World} {ao : Option Addr} {n : Nat} {A : Nat → Int} {U : Nat → Bool} {V : Nat → Int} (h : SlotsAt w ao n A U V) (hb : Below w.heap.size w w') : SlotsAt w' ao n A U V := by
  intro k hk
  obtain ⟨b, off, e, h1, h2, h3⟩ := h k hk
  have hlt : b < w.heap.size := World.block_lt_of_cell? w _ h1
  exact ⟨b, off, e, (hb.cell hlt).trans h1, (hb.cell hlt).trans h2, (hb.cell hlt).trans h3⟩
def slotCell (A : Nat → Int) (U : Nat → Bool) (V : Nat → Int) (j : Nat) : Value :=
  if j % 3 = 0 then .int .i64 (A (j / 3)) else if j % 3 = 1 then .bool (U (j / 3)) else .int .i64 (V (j / 3))
theorem slotCell_0 (A : Nat → Int) (U : Nat → Bool) (V : Nat → Int) (k : Nat) : slotCell A U V (k * 3) = .int .i64 (A k) := by
  unfold slotCell; rw [if_pos (by omega), show k * 3 / 3 = k by omega]
theorem slotCell_1 (A : Nat → Int) (U : Nat → Bool) (V : Nat → Int) (k : Nat) : slotCell A U V (k * 3 + 1) = .bool (U k) := by
  unfold slotCell; rw [if_neg (by omega), if_pos (by omega), show (k * 3 + 1) / 3 = k by omega]
theorem slotCell_2 (A : Nat → Int) (U : Nat → Bool) (V : Nat → Int) (k : Nat) : slotCell A U V (k * 3 + 2) = .int .i64 (V k) := by
  unfold slotCell; rw [if_neg (by omega), if_neg (by omega), show (k * 3 + 2) / 3 = k by omega]
theorem SlotsAt.of_row {w : World} {g t n : Nat} {A : Nat → Int} {U : Nat → Bool} {V : Nat → Int} (h : w.rowIs g t (n * 3) (slotCell A U V)) : SlotsAt w (some ⟨g, 0, none⟩) n A U V := by
  intro k hk
  refine ⟨g, 0, rfl, ?_, ?_, ?_⟩
  · rw [Nat.zero_add, h.cell (by omega), slotCell_0]
  · rw [Nat.zero_add, h.cell (by omega), slotCell_1]
  · rw [Nat.zero_add, h.cell (by omega), slotCell_2]
def upto {α : Type} (k : Nat) (f : Nat → α) (z : α) (i : Nat) : α := if i < k then f i else z
theorem upto_lt {α : Type} {k i : Nat} (f : Nat → α) (z : α) (h : i < k) : upto k f z i = f i := if_pos h
theorem upto_ge {α : Type} {k i : Nat} (f : Nat → α) (z : α) (h : ¬ i < k) : upto k f z i = z := if_neg h
theorem upto_step {α : Type} (f : Nat → α) (z : α) (k j : Nat) (h : j ≠ k) : upto (k + 1) f z j = upto k f z j := by
  unfold upto; by_cases h2 : j < k
  · rw [if_pos h2, if_pos (by omega)]
  · rw [if_neg h2, if_neg (by omega)]
theorem row_of_own {w : World} {base e size g n : Nat} {xs : List Value} (h : w.ownsRow base e size (.slice (some ⟨g, 0, none⟩) n n) n xs) : w.rowIs g e (n * size) (fun j => xs.getD j (.bool false)) := by
  rcases h.2 with ⟨hv, _⟩ | ⟨g', cap, cur, hv, _, hg, _, _, hs, ht⟩
  · cases hv
  · simp only [Value.slice.injEq, Option.some.injEq, Addr.mk.injEq, and_true, true_and] at hv
    obtain ⟨rfl, rfl⟩ := hv
    refine ⟨cur, hg, hs, fun i hi => ?_⟩
    have hh : cur.toList[i]? = xs[i]? := by rw [← ht, List.getElem?_take, if_pos hi]
    have hl : i < cur.size := by omega
    simp only [Array.getElem?_toList] at hh
    show cur[i]? = some (xs.getD i (.bool false))
    rw [List.getD_eq_getElem?_getD, ← hh, Array.getElem?_eq_getElem hl]
    rfl
theorem made_slots (n : Nat) (j : Nat) (hj : j < n * 3) : (madeCells (Value.agg #[.int .i64 0, .bool false, .int .i64 0]).cells (n * 3)).toList.getD j (.bool false) = slotCell (fun _ => 0) (fun _ => false) (fun _ => 0) j := by
  have hz : (Value.agg #[.int .i64 0, .bool false, .int .i64 0]).cells = #[.int .i64 0, .bool false, .int .i64 0] := rfl
  rw [hz]
  simp only [madeCells, Array.toList_map, List.getD_eq_getElem?_getD, List.getElem?_map, Array.toList_range, List.getElem?_range hj, Option.map_some, Option.getD_some]
  unfold slotCell
  have : j % 3 = 0 ∨ j % 3 = 1 ∨ j % 3 = 2 := by omega
  rcases this with h | h | h <;> simp [h]
theorem slot_set {w : World} {g t n k : Nat} {A A' : Nat → Int} {U U' : Nat → Bool} {V V' : Nat → Int} (h : w.rowIs g t n (slotCell A U V))
    (hA : ∀ i, i ≠ k → A' i = A i) (hU : ∀ i, i ≠ k → U' i = U i) (hV : ∀ i, i ≠ k → V' i = V i) :
    (((w.setCell ⟨g, k * 3, none⟩ (.int .i64 (A' k))).setCell ⟨g, k * 3 + 1, none⟩ (.bool (U' k))).setCell ⟨g, k * 3 + 2, none⟩ (.int .i64 (V' k))).rowIs g t n (slotCell A' U' V') := by
  refine (((h.set (k * 3) _).set (k * 3 + 1) _).set (k * 3 + 2) _).congr fun j _ => ?_
  by_cases h2 : j = k * 3 + 2
  · subst h2; rw [if_pos rfl, slotCell_2]
  · rw [if_neg h2]
    by_cases h1 : j = k * 3 + 1
    · subst h1; rw [if_pos rfl, slotCell_1]
    · rw [if_neg h1]
      by_cases h0 : j = k * 3
      · subst h0; rw [if_pos rfl, slotCell_0]
      · rw [if_neg h0]
        have hk : j / 3 ≠ k := by omega
        unfold slotCell
        rw [hA _ hk, hU _ hk, hV _ hk]
theorem grown_blk {w w1 : World} {row : Option Nat} (hg : w.grownBy w1 row) {b : Nat} {o : Obj} (h : w.heap[b]? = some o) (hne : some b ≠ row) : w1.heap[b]? = some o := (hg.block b (blk_lt h) hne).trans h
def slotList (A : Nat → Int) (U : Nat → Bool) (V : Nat → Int) (n : Nat) : List Value := (List.range (n * 3)).map (slotCell A U V)
theorem slotList_succ (A : Nat → Int) (U : Nat → Bool) (V : Nat → Int) (k : Nat) : slotList A U V (k + 1) = slotList A U V k ++ [.int .i64 (A k), .bool (U k), .int .i64 (V k)] := by
  unfold slotList
  rw [show (k + 1) * 3 = k * 3 + 1 + 1 + 1 by omega, List.range_succ, List.range_succ, List.range_succ]
  simp only [List.map_append, List.map_cons, List.map_nil, slotCell_0, slotCell_1, List.append_assoc, List.cons_append, List.nil_append]
  rw [show k * 3 + 1 + 1 = k * 3 + 2 by omega, slotCell_2]
def intList (F : Nat → Int) (n : Nat) : List Value := (List.range n).map (fun k => .int .i64 (F k))
theorem intList_succ (F : Nat → Int) (k : Nat) : intList F (k + 1) = intList F k ++ [.int .i64 (F k)] := by
  unfold intList; rw [List.range_succ, List.map_append]; rfl
theorem intList_get (F : Nat → Int) (n j : Nat) (u : Value) (h : (intList F n)[j]? = some u) : j < n ∧ u = .int .i64 (F j) := by
  unfold intList at h
  rw [List.getElem?_map] at h
  by_cases hj : j < n
  · rw [List.getElem?_range hj] at h; simp at h; exact ⟨hj, h.symm⟩
  · rw [List.getElem?_eq_none (by simpa using hj)] at h; cases h
theorem intList_one (F : Nat → Int) (n : Nat) : ∀ u ∈ intList F n, u.oneCell' = true := by
  intro u hu
  unfold intList at hu
  simp only [List.mem_map] at hu
  obtain ⟨j, _, rfl⟩ := hu
  rfl
theorem intList_length (F : Nat → Int) (n : Nat) : (intList F n).length = n := by simp [intList]
theorem own_base {w : World} {base base' e size n : Nat} {v : Value} {xs : List Value} (h : w.ownsRow base e size v n xs) (hb : base' ≤ base) : w.ownsRow base' e size v n xs := by
  refine ⟨h.1, ?_⟩
  rcases h.2 with h0 | ⟨g, cap, cur, hv, h1, rest⟩
  · exact .inl h0
  · exact .inr ⟨g, cap, cur, hv, Nat.le_trans hb h1, rest⟩
theorem own_set {w : World} {base e size n : Nat} {v : Value} {xs : List Value} (h : w.ownsRow base e size v n xs) {a : Addr} (ha : a.block < base) (u : Value) : (w.setCell a u).ownsRow base e size v n xs := ownsRow_setCell_below h ha u
theorem own_form {w : World} {base e size n : Nat} {v : Value} {xs : List Value} (h : w.ownsRow base e size v n xs) : ∃ ao c, v = .slice ao n c ∧ n ≤ c ∧ c ≤ maxLen ∧ (ao = none → n = 0 ∧ c = 0) := by
  rcases h.2 with ⟨rfl, rfl⟩ | ⟨g, cap, cur, rfl, hb, hg, h1, h2, _⟩
  · exact ⟨none, 0, rfl, Nat.le_refl _, Nat.zero_le _, fun _ => ⟨rfl, rfl⟩⟩
  · exact ⟨_, cap, rfl, h1, h2, fun h => by cases h⟩
theorem own_slots {w : World} {base e n c : Nat} {ao : Option Addr} {A : Nat → Int} {U : Nat → Bool} {V : Nat → Int} (h : w.ownsRow base e 3 (.slice ao n c) n (slotList A U V n)) : SlotsAt w ao n A U V := by
  intro k hk
  rcases h.2 with ⟨_, h0⟩ | ⟨g, cap, cur, hv, hb, hg, h1, h2, _⟩
  · omega
  · simp only [Value.slice.injEq, true_and] at hv
    obtain ⟨rfl, rfl⟩ := hv
    have hc : ∀ j, j < n * 3 → w.cell? ⟨g, j, none⟩ = some (slotCell A U V j) := by
      intro j hj
      rw [h.cellAt j hj]
      unfold slotList
      rw [List.getElem?_map, List.getElem?_range hj]; rfl
    refine ⟨g, 0, rfl, ?_, ?_, ?_⟩
    · rw [Nat.zero_add, hc _ (by omega), slotCell_0]
    · rw [Nat.zero_add, hc _ (by omega), slotCell_1]
    · rw [Nat.zero_add, hc _ (by omega), slotCell_2]
theorem own_ints {w : World} {base e n c : Nat} {ao : Option Addr} {F : Nat → Int} (h : w.ownsRow base e 1 (.slice ao n c) n (intList F n)) : IntsAt w ao n F := by
  intro k hk
  rcases h.2 with ⟨_, h0⟩ | ⟨g, cap, cur, hv, hb, hg, h1, h2, _⟩
  · omega
  · simp only [Value.slice.injEq, true_and] at hv
    obtain ⟨rfl, rfl⟩ := hv
    refine ⟨g, 0, rfl, ?_⟩
    rw [Nat.zero_add, h.cellAt k (by omega)]
    unfold intList
    rw [List.getElem?_map, List.getElem?_range hk]; rfl
theorem box_end {w W : World} {t : Nat} {v1 v2 x1 x2 : Value} (hr : W.heap[w.heap.size + 1]? = some (.cells #[x1, x2] t (0, 0))) (hb : Below w.heap.size w W) (F : World)
    (hF : F = ((W.setCell ⟨w.heap.size + 1 + 1, 1, none⟩ v2).setCell ⟨w.heap.size + 1, 0, none⟩ v1).setCell ⟨w.heap.size + 1, 1, none⟩ v2) :
    F.cell? ⟨w.heap.size + 1, 0, none⟩ = some v1 ∧ F.cell? ⟨w.heap.size + 1, 1, none⟩ = some v2 ∧ Below w.heap.size w F ∧
      (∀ base e size v n xs, w.heap.size + 1 + 1 < base → W.ownsRow base e size v n xs → F.ownsRow w.heap.size e size v n xs) ∧
      (∀ b e n f, w.heap.size + 1 + 1 < b → W.rowIs b e n f → F.rowIs b e n f) := by
  subst hF
  have rF := blk_set (blk_set (blk_set_other hr (b' := w.heap.size + 1 + 1) 1 v2 (by omega)) 0 v1) 1 v2
  refine ⟨blk_cell rF 0 _ rfl, blk_cell rF 1 _ rfl, ?_, ?_, ?_⟩
  · exact ((hb.setCell (by show w.heap.size ≤ w.heap.size + 1 + 1; omega) _).setCell (by show w.heap.size ≤ w.heap.size + 1; omega) _).setCell (by show w.heap.size ≤ w.heap.size + 1; omega) _
  · intro base e size v n xs hl h
    exact own_base (own_set (own_set (own_set h (by show w.heap.size + 1 + 1 < base; omega) _) (by show w.heap.size + 1 < base; omega) _) (by show w.heap.size + 1 < base; omega) _) (by omega)
  · intro b e n f hl h
    exact ((h.setOther (by show b ≠ w.heap.size + 1 + 1; omega) _).setOther (by show b ≠ w.heap.size + 1; omega) _).setOther (by show b ≠ w.heap.size + 1; omega) _
theorem fill_step {α : Type} (f : Nat → α) (z : α) (k j : Nat) : (if j = k then f k else if j < k then f j else z) = if j < k + 1 then f j else z := by
  by_cases h : j = k
  · subst h; simp
  · by_cases h2 : j < k
    · rw [if_neg h, if_pos h2, if_pos (by omega)]
    · rw [if_neg h, if_neg h2, if_neg (by omega)]
end Go.Proofs.YtlelckbeoclhbaaGreat

namespace Go.Proofs.YtlelckbeoclhbaaGreat
open Go.RowKit
theorem blk_drew {w : World} {b : Nat} {o : Obj} (h : w.heap[b]? = some o) : w.drew.heap[b]? = some o := h
structure Kept (w w' : World) (S : Nat → Prop) : Prop where
  os : w'.os = w.os
  tape : w'.tape = w.tape
  output : w'.output = w.output
  size : w.heap.size ≤ w'.heap.size
  block : ∀ k, k < w.heap.size → ¬ S k → w'.heap[k]? = w.heap[k]?
theorem Kept.refl (w : World) (S : Nat → Prop) : Kept w w S := ⟨rfl, rfl, rfl, Nat.le_refl _, fun _ _ _ => rfl⟩
theorem Kept.trans {w w' w'' : World} {S : Nat → Prop} (h : Kept w w' S) (k : Kept w' w'' S) : Kept w w'' S :=
  ⟨k.os.trans h.os, k.tape.trans h.tape, k.output.trans h.output, Nat.le_trans h.size k.size, fun i hi hs => (k.block i (Nat.lt_of_lt_of_le hi h.size) hs).trans (h.block i hi hs)⟩
theorem Kept.mono {w w' : World} {S T : Nat → Prop} (h : Kept w w' S) (hs : ∀ k, S k → T k) : Kept w w' T := ⟨h.os, h.tape, h.output, h.size, fun i hi ht => h.block i hi fun s => ht (hs i s)⟩
theorem Kept.of_below {w w' : World} {S : Nat → Prop} (h : Below w.heap.size w w') : Kept w w' S := ⟨h.os, h.tape, h.output, h.size, fun i hi _ => h.block i hi⟩
theorem Kept.set {w w' : World} {S : Nat → Prop} (h : Kept w w' S) {a : Addr} (ha : S a.block) (u : Value) : Kept w (w'.setCell a u) S :=
  h.trans ⟨rfl, rfl, rfl, by simp, fun k _ hk => Below.heap_setCell _ _ _ _ (fun e => hk (e ▸ ha))⟩
theorem Kept.below {B : Nat} {w0 w w' : World} {S : Nat → Prop} (h0 : Below B w0 w) (hB : B ≤ w.heap.size) (h : Kept w w' S) (hS : ∀ k, S k → B ≤ k) : Below B w0 w' :=
  h0.trans ⟨h.os, h.tape, h.output, h.size, fun k hk => h.block k (by omega) (fun s => by have := hS k s; omega)⟩
theorem Kept.blk {w w' : World} {S : Nat → Prop} (h : Kept w w' S) {b : Nat} {o : Obj} (hb : w.heap[b]? = some o) (hs : ¬ S b) : w'.heap[b]? = some o := (h.block b (blk_lt hb) hs).trans hb
theorem Kept.own {w w' : World} {S : Nat → Prop} (h : Kept w w' S) {base e size n : Nat} {v : Value} {xs : List Value} (ho : w.ownsRow base e size v n xs) (hs : ∀ g, v.ownBlock = some g → ¬ S g) : w'.ownsRow base e size v n xs := by
  refine ⟨ho.1, ?_⟩
  rcases ho.2 with h0 | ⟨g, cap, cur, rfl, hb, hg, rest⟩
  · exact .inl h0
  · exact .inr ⟨g, cap, cur, rfl, hb, h.blk hg (hs g rfl), rest⟩
theorem own_below {w w' : World} (h : Below w.heap.size w w') {base e size n : Nat} {v : Value} {xs : List Value} (ho : w.ownsRow base e size v n xs) : w'.ownsRow base e size v n xs :=
  (Kept.of_below (S := fun _ => False) h).own ho (fun _ _ h => h)
theorem own_apart {w : World} {b1 e1 s1 n1 b2 e2 s2 n2 : Nat} {v1 v2 : Value} {x1 x2 : List Value} (h1 : w.ownsRow b1 e1 s1 v1 n1 x1) (h2 : w.ownsRow b2 e2 s2 v2 n2 x2) (hne : e1 ≠ e2) : ∀ g, v1.ownBlock = some g → v2.ownBlock ≠ some g := by
  intro g hg1 hg2
  rcases h1.2 with ⟨rfl, _⟩ | ⟨g1, c1, r1, rfl, _, k1, _⟩
  · simp [Value.ownBlock] at hg1
  · rcases h2.2 with ⟨rfl, _⟩ | ⟨g2, c2, r2, rfl, _, k2, _⟩
    · simp [Value.ownBlock] at hg2
    · simp only [Value.ownBlock, Option.some.injEq] at hg1 hg2
      subst hg1
      subst hg2
      rw [k1] at k2
      simp at k2
      exact hne k2.2
theorem own_of_row {w : World} {g e n size base : Nat} {f : Nat → Value} (h : w.rowIs g e (n * size) f) (hb : base ≤ g) (hn : n ≤ maxLen) : w.ownsRow base e size (.slice (some ⟨g, 0, none⟩) n n) n ((List.range (n * size)).map f) := by
  obtain ⟨c, hg, hs, hc⟩ := h
  refine ⟨by simp, .inr ⟨g, n, c, rfl, hb, hg, Nat.le_refl _, hn, hs, ?_⟩⟩
  apply List.ext_getElem?
  intro i
  rw [List.getElem?_take]
  by_cases hi : i < n * size
  · rw [if_pos hi, List.getElem?_map, List.getElem?_range hi, Array.getElem?_toList, hc i hi]; rfl
  · rw [if_neg hi, List.getElem?_eq_none (by simpa using hi)]
theorem range_set {N j : Nat} {f : Nat → Value} {u : Value} : ((List.range N).map f).set j u = (List.range N).map (fun i => if i = j then u else f i) := by
  apply List.ext_getElem?
  intro i
  rw [List.getElem?_set, List.getElem?_map, List.getElem?_map, List.length_map, List.length_range]
  by_cases hi : i < N
  · rw [List.getElem?_range hi]
    by_cases e : j = i
    · subst e; simp [hi]
    · rw [if_neg e]; simp [show ¬ i = j from fun h => e h.symm]
  · rw [List.getElem?_eq_none (l := List.range N) (by simpa using hi)]
    by_cases e : j = i
    · subst e; simp [hi]
    · rw [if_neg e]; rfl
theorem own_store {w : World} {base e size g n cap N : Nat} {f : Nat → Value} (h : w.ownsRow base e size (.slice (some ⟨g, 0, none⟩) n cap) n ((List.range N).map f)) (j : Nat) (u : Value) :
    (w.setCell ⟨g, j, none⟩ u).ownsRow base e size (.slice (some ⟨g, 0, none⟩) n cap) n ((List.range N).map (fun i => if i = j then u else f i)) := by
  have := (h.stored j u).1
  rwa [range_set] at this
theorem own_congr {w : World} {base e size n N : Nat} {v : Value} {f f' : Nat → Value} (h : w.ownsRow base e size v n ((List.range N).map f)) (hf : ∀ i, i < N → f i = f' i) : w.ownsRow base e size v n ((List.range N).map f') := by
  have : (List.range N).map f = (List.range N).map f' := List.map_congr_left fun i hi => hf i (by simpa using hi)
  rwa [this] at h
theorem own_cell {w : World} {base e size g n cap N : Nat} {f : Nat → Value} (h : w.ownsRow base e size (.slice (some ⟨g, 0, none⟩) n cap) n ((List.range N).map f)) (j : Nat) (hj : j < n * size) (hN : N = n * size) : w.cell? ⟨g, j, none⟩ = some (f j) := by
  rw [h.cellAt j hj, List.getElem?_map, List.getElem?_range (by omega)]; rfl
theorem own_addr {w : World} {base e size n c : Nat} {ao : Option Addr} {xs : List Value} (h : w.ownsRow base e size (.slice ao n c) n xs) (hn : 0 < n) : ∃ g, ao = some ⟨g, 0, none⟩ ∧ base ≤ g ∧ g < w.heap.size := by
  obtain ⟨g, cap, e, h1, h2⟩ := h.form hn
  simp only [Value.slice.injEq, true_and] at e
  exact ⟨g, e.1, h1, h2⟩
end Go.Proofs.YtlelckbeoclhbaaGreat

namespace Go.Proofs.YtlelckbeoclhbaaGreat
open Go.RowKit
structure Pairs where
  n : Nat
  A : Nat → Int
  B : Nat → Int
def PairsAt (w : World) (ao : Option Addr) (p : Pairs) : Prop :=
  ∀ k, k < p.n → ∃ b off, ao = some ⟨b, off, none⟩ ∧ w.cell? ⟨b, off + k * 2, none⟩ = some (.int .i64 (p.A k)) ∧ w.cell? ⟨b, off + k * 2 + 1, none⟩ = some (.int .i64 (p.B k))
theorem PairsAt.below {w w' : World} {ao : Option Addr} {p : Pairs} (h : PairsAt w ao p) (hb : Below w.heap.size w w') : PairsAt w' ao p := by
  intro k hk
  obtain ⟨b, off, e, h1, h2⟩ := h k hk
  have hlt : b < w.heap.size := World.block_lt_of_cell? w _ h1
  exact ⟨b, off, e, (hb.cell hlt).trans h1, (hb.cell hlt).trans h2⟩
def pairCell (p : Pairs) (j : Nat) : Value := if j % 2 = 0 then .int .i64 (p.A (j / 2)) else .int .i64 (p.B (j / 2))
theorem pairCell_0 (p : Pairs) (k : Nat) : pairCell p (k * 2) = .int .i64 (p.A k) := by
  unfold pairCell; rw [if_pos (by omega), show k * 2 / 2 = k by omega]
theorem pairCell_1 (p : Pairs) (k : Nat) : pairCell p (k * 2 + 1) = .int .i64 (p.B k) := by
  unfold pairCell; rw [if_neg (by omega), show (k * 2 + 1) / 2 = k by omega]
theorem PairsAt.of_row {w : World} {g t : Nat} {p : Pairs} (h : w.rowIs g t (p.n * 2) (pairCell p)) : PairsAt w (some ⟨g, 0, none⟩) p := by
  intro k hk
  refine ⟨g, 0, rfl, ?_, ?_⟩
  · rw [Nat.zero_add, h.cell (by omega), pairCell_0]
  · rw [Nat.zero_add, h.cell (by omega), pairCell_1]
theorem made_pairs (n : Nat) (j : Nat) (hj : j < n * 2) : (madeCells (Value.agg #[.int .i64 0, .int .i64 0]).cells (n * 2)).toList.getD j (.bool false) = pairCell ⟨n, fun _ => 0, fun _ => 0⟩ j := by
  have hz : (Value.agg #[.int .i64 0, .int .i64 0]).cells = #[.int .i64 0, .int .i64 0] := rfl
  rw [hz]
  simp only [madeCells, Array.toList_map, List.getD_eq_getElem?_getD, List.getElem?_map, Array.toList_range, List.getElem?_range hj, Option.map_some, Option.getD_some]
  unfold pairCell
  have : j % 2 = 0 ∨ j % 2 = 1 := by omega
  rcases this with h | h <;> simp [h]
theorem pair_set {w : World} {g t n k : Nat} {p p' : Pairs} (h : w.rowIs g t n (pairCell p)) (hA : ∀ i, i ≠ k → p'.A i = p.A i) (hB : ∀ i, i ≠ k → p'.B i = p.B i) :
    ((w.setCell ⟨g, k * 2, none⟩ (.int .i64 (p'.A k))).setCell ⟨g, k * 2 + 1, none⟩ (.int .i64 (p'.B k))).rowIs g t n (pairCell p') := by
  refine ((h.set (k * 2) _).set (k * 2 + 1) _).congr fun j _ => ?_
  by_cases h1 : j = k * 2 + 1
  · subst h1; rw [if_pos rfl, pairCell_1]
  · rw [if_neg h1]
    by_cases h0 : j = k * 2
    · subst h0; rw [if_pos rfl, pairCell_0]
    · rw [if_neg h0]
      have hk : j / 2 ≠ k := by omega
      unfold pairCell
      rw [hA _ hk, hB _ hk]
def pairsTo (k : Nat) (p : Pairs) : Pairs := ⟨p.n, upto k p.A 0, upto k p.B 0⟩
theorem pairs_in {w : World} {ao : Option Addr} {p : Pairs} (h : PairsAt w ao p) : p.n = 0 ∨ ∃ b off, ao = some ⟨b, off, none⟩ ∧ b < w.heap.size ∧ ∀ k, k < p.n → w.cell? ⟨b, off + k * 2, none⟩ = some (.int .i64 (p.A k)) ∧ w.cell? ⟨b, off + k * 2 + 1, none⟩ = some (.int .i64 (p.B k)) := by
  by_cases h0 : p.n = 0
  · exact .inl h0
  · refine .inr ?_
    obtain ⟨b, off, rfl, h1, _⟩ := h 0 (by omega)
    refine ⟨b, off, rfl, World.block_lt_of_cell? w _ h1, fun k hk => ?_⟩
    obtain ⟨b', off', e, g1, g2⟩ := h k hk
    simp only [Option.some.injEq, Addr.mk.injEq, and_true] at e
    obtain ⟨rfl, rfl⟩ := e
    exact ⟨g1, g2⟩
def SliceOk (ao : Option Addr) (n c : Nat) : Prop := n ≤ c ∧ c ≤ 9223372036854775807 ∧ (ao = none → n = 0 ∧ c = 0)
structure Sail where
  id : Int
  fr : ByteArray
  dst : ByteArray
  dep : Int
  arr : Int
  la : Pairs
  ca : Pairs
  most : Int
def Sail.zero : Sail := ⟨0, ⟨#[]⟩, ⟨#[]⟩, 0, 0, ⟨0, fun _ => 0, fun _ => 0⟩, ⟨0, fun _ => 0, fun _ => 0⟩, 0⟩
instance : Inhabited Sail := ⟨Sail.zero⟩
def SailsAt (w : World) (ao : Option Addr) (N : Nat) (S : Nat → Sail) : Prop :=
  ∀ k, k < N → ∃ b off la lc ca cc, ao = some ⟨b, off, none⟩ ∧ w.cell? ⟨b, off + k * 8, none⟩ = some (.int .i64 (S k).id) ∧ w.cell? ⟨b, off + k * 8 + 1, none⟩ = some (.string (S k).fr) ∧
    w.cell? ⟨b, off + k * 8 + 2, none⟩ = some (.string (S k).dst) ∧ w.cell? ⟨b, off + k * 8 + 3, none⟩ = some (.int .i64 (S k).dep) ∧ w.cell? ⟨b, off + k * 8 + 4, none⟩ = some (.int .i64 (S k).arr) ∧
    w.cell? ⟨b, off + k * 8 + 5, none⟩ = some (.slice la (S k).la.n lc) ∧ w.cell? ⟨b, off + k * 8 + 6, none⟩ = some (.slice ca (S k).ca.n cc) ∧ w.cell? ⟨b, off + k * 8 + 7, none⟩ = some (.int .i64 (S k).most) ∧
    PairsAt w la (S k).la ∧ PairsAt w ca (S k).ca ∧ SliceOk la (S k).la.n lc ∧ SliceOk ca (S k).ca.n cc
theorem SailsAt.below {w w' : World} {ao : Option Addr} {N : Nat} {S : Nat → Sail} (h : SailsAt w ao N S) (hb : Below w.heap.size w w') : SailsAt w' ao N S := by
  intro k hk
  obtain ⟨b, off, la, lc, ca, cc, e, h0, h1, h2, h3, h4, h5, h6, h7, h8, h9, ha, hc⟩ := h k hk
  have hlt : b < w.heap.size := World.block_lt_of_cell? w _ h1
  exact ⟨b, off, la, lc, ca, cc, e, (hb.cell hlt).trans h0, (hb.cell hlt).trans h1, (hb.cell hlt).trans h2, (hb.cell hlt).trans h3, (hb.cell hlt).trans h4, (hb.cell hlt).trans h5, (hb.cell hlt).trans h6, (hb.cell hlt).trans h7, h8.below hb, h9.below hb, ha, hc⟩
def sailCell (S : Nat → Sail) (ls cs : Nat → Value) (j : Nat) : Value :=
  if j % 8 = 0 then .int .i64 (S (j / 8)).id else if j % 8 = 1 then .string (S (j / 8)).fr else if j % 8 = 2 then .string (S (j / 8)).dst else if j % 8 = 3 then .int .i64 (S (j / 8)).dep
  else if j % 8 = 4 then .int .i64 (S (j / 8)).arr else if j % 8 = 5 then ls (j / 8) else if j % 8 = 6 then cs (j / 8) else .int .i64 (S (j / 8)).most
theorem sailCell_0 (S : Nat → Sail) (ls cs : Nat → Value) (k : Nat) : sailCell S ls cs (k * 8) = .int .i64 (S k).id := by
  unfold sailCell; rw [if_pos (by omega), show k * 8 / 8 = k by omega]
theorem sailCell_1 (S : Nat → Sail) (ls cs : Nat → Value) (k : Nat) : sailCell S ls cs (k * 8 + 1) = .string (S k).fr := by
  unfold sailCell; rw [if_neg (by omega), if_pos (by omega), show (k * 8 + 1) / 8 = k by omega]
theorem sailCell_2 (S : Nat → Sail) (ls cs : Nat → Value) (k : Nat) : sailCell S ls cs (k * 8 + 2) = .string (S k).dst := by
  unfold sailCell; rw [if_neg (by omega), if_neg (by omega), if_pos (by omega), show (k * 8 + 2) / 8 = k by omega]
theorem sailCell_3 (S : Nat → Sail) (ls cs : Nat → Value) (k : Nat) : sailCell S ls cs (k * 8 + 3) = .int .i64 (S k).dep := by
  unfold sailCell; rw [if_neg (by omega), if_neg (by omega), if_neg (by omega), if_pos (by omega), show (k * 8 + 3) / 8 = k by omega]
theorem sailCell_4 (S : Nat → Sail) (ls cs : Nat → Value) (k : Nat) : sailCell S ls cs (k * 8 + 4) = .int .i64 (S k).arr := by
  unfold sailCell; rw [if_neg (by omega), if_neg (by omega), if_neg (by omega), if_neg (by omega), if_pos (by omega), show (k * 8 + 4) / 8 = k by omega]
theorem sailCell_5 (S : Nat → Sail) (ls cs : Nat → Value) (k : Nat) : sailCell S ls cs (k * 8 + 5) = ls k := by
  unfold sailCell; rw [if_neg (by omega), if_neg (by omega), if_neg (by omega), if_neg (by omega), if_neg (by omega), if_pos (by omega), show (k * 8 + 5) / 8 = k by omega]
theorem sailCell_6 (S : Nat → Sail) (ls cs : Nat → Value) (k : Nat) : sailCell S ls cs (k * 8 + 6) = cs k := by
  unfold sailCell; rw [if_neg (by omega), if_neg (by omega), if_neg (by omega), if_neg (by omega), if_neg (by omega), if_neg (by omega), if_pos (by omega), show (k * 8 + 6) / 8 = k by omega]
theorem sailCell_7 (S : Nat → Sail) (ls cs : Nat → Value) (k : Nat) : sailCell S ls cs (k * 8 + 7) = .int .i64 (S k).most := by
  unfold sailCell; rw [if_neg (by omega), if_neg (by omega), if_neg (by omega), if_neg (by omega), if_neg (by omega), if_neg (by omega), if_neg (by omega), show (k * 8 + 7) / 8 = k by omega]
theorem made_sails (n : Nat) (j : Nat) (hj : j < n * 8) : (madeCells (Value.agg #[.int .i64 0, .string ⟨#[]⟩, .string ⟨#[]⟩, .int .i64 0, .int .i64 0, .slice none 0 0, .slice none 0 0, .int .i64 0]).cells (n * 8)).toList.getD j (.bool false) = sailCell (fun _ => Sail.zero) (fun _ => .slice none 0 0) (fun _ => .slice none 0 0) j := by
  have hz : (Value.agg #[.int .i64 0, .string ⟨#[]⟩, .string ⟨#[]⟩, .int .i64 0, .int .i64 0, .slice none 0 0, .slice none 0 0, .int .i64 0]).cells = #[.int .i64 0, .string ⟨#[]⟩, .string ⟨#[]⟩, .int .i64 0, .int .i64 0, .slice none 0 0, .slice none 0 0, .int .i64 0] := rfl
  rw [hz]
  simp only [madeCells, Array.toList_map, List.getD_eq_getElem?_getD, List.getElem?_map, Array.toList_range, List.getElem?_range hj, Option.map_some, Option.getD_some]
  unfold sailCell
  have : j % 8 = 0 ∨ j % 8 = 1 ∨ j % 8 = 2 ∨ j % 8 = 3 ∨ j % 8 = 4 ∨ j % 8 = 5 ∨ j % 8 = 6 ∨ j % 8 = 7 := by omega
  rcases this with h | h | h | h | h | h | h | h <;> simp [h, Sail.zero]
def set8 (w : World) (g o : Nat) (v0 v1 v2 v3 v4 v5 v6 v7 : Value) : World :=
  (((((((w.setCell ⟨g, o, none⟩ v0).setCell ⟨g, o + 1, none⟩ v1).setCell ⟨g, o + 2, none⟩ v2).setCell ⟨g, o + 3, none⟩ v3).setCell ⟨g, o + 4, none⟩ v4).setCell ⟨g, o + 5, none⟩ v5).setCell ⟨g, o + 6, none⟩ v6).setCell ⟨g, o + 7, none⟩ v7
theorem set8_row {w : World} {g o x t n : Nat} {f : Nat → Value} {v0 v1 v2 v3 v4 v5 v6 v7 : Value} (h : w.rowIs x t n f) (hx : x ≠ g) : (set8 w g o v0 v1 v2 v3 v4 v5 v6 v7).rowIs x t n f := by
  unfold set8
  exact (((((((h.setOther (by show x ≠ g; exact hx) _).setOther (by show x ≠ g; exact hx) _).setOther (by show x ≠ g; exact hx) _).setOther (by show x ≠ g; exact hx) _).setOther (by show x ≠ g; exact hx) _).setOther (by show x ≠ g; exact hx) _).setOther (by show x ≠ g; exact hx) _).setOther (by show x ≠ g; exact hx) _
theorem set8_below {w w0 : World} {g o : Nat} {v0 v1 v2 v3 v4 v5 v6 v7 : Value} (h : Below w0.heap.size w0 w) (hg : w0.heap.size ≤ g) : Below w0.heap.size w0 (set8 w g o v0 v1 v2 v3 v4 v5 v6 v7) := by
  unfold set8
  exact (((((((h.setCell hg _).setCell hg _).setCell hg _).setCell hg _).setCell hg _).setCell hg _).setCell hg _).setCell hg _
theorem set8_blk {w : World} {g t : Nat} {u0 u1 u2 u3 u4 u5 u6 u7 v0 v1 v2 v3 v4 v5 v6 v7 : Value} (h : w.heap[g]? = some (.cells #[u0, u1, u2, u3, u4, u5, u6, u7] t (0, 0))) :
    (set8 w g 0 v0 v1 v2 v3 v4 v5 v6 v7).heap[g]? = some (.cells #[v0, v1, v2, v3, v4, v5, v6, v7] t (0, 0)) := by
  unfold set8
  have := blk_set (blk_set (blk_set (blk_set (blk_set (blk_set (blk_set (blk_set h 0 v0) 1 v1) 2 v2) 3 v3) 4 v4) 5 v5) 6 v6) 7 v7
  simpa using this
theorem set8_blk_other {w : World} {g o b : Nat} {x : Obj} {v0 v1 v2 v3 v4 v5 v6 v7 : Value} (h : w.heap[b]? = some x) (hne : b ≠ g) : (set8 w g o v0 v1 v2 v3 v4 v5 v6 v7).heap[b]? = some x := by
  unfold set8
  exact blk_set_other (blk_set_other (blk_set_other (blk_set_other (blk_set_other (blk_set_other (blk_set_other (blk_set_other h _ _ hne) _ _ hne) _ _ hne) _ _ hne) _ _ hne) _ _ hne) _ _ hne) _ _ hne
theorem sail_set {w : World} {g t n k : Nat} {S S' : Nat → Sail} {ls ls' cs cs' : Nat → Value} (h : w.rowIs g t n (sailCell S ls cs))
    (hS : ∀ i, i ≠ k → S' i = S i) (hL : ∀ i, i ≠ k → ls' i = ls i) (hC : ∀ i, i ≠ k → cs' i = cs i) :
    (set8 w g (k * 8) (.int .i64 (S' k).id) (.string (S' k).fr) (.string (S' k).dst) (.int .i64 (S' k).dep) (.int .i64 (S' k).arr) (ls' k) (cs' k) (.int .i64 (S' k).most)).rowIs g t n (sailCell S' ls' cs') := by
  unfold set8
  refine ((((((((h.set (k * 8) _).set (k * 8 + 1) _).set (k * 8 + 2) _).set (k * 8 + 3) _).set (k * 8 + 4) _).set (k * 8 + 5) _).set (k * 8 + 6) _).set (k * 8 + 7) _).congr fun j _ => ?_
  by_cases h7 : j = k * 8 + 7
  · subst h7; rw [if_pos rfl, sailCell_7]
  rw [if_neg h7]
  by_cases h6 : j = k * 8 + 6
  · subst h6; rw [if_pos rfl, sailCell_6]
  rw [if_neg h6]
  by_cases h5 : j = k * 8 + 5
  · subst h5; rw [if_pos rfl, sailCell_5]
  rw [if_neg h5]
  by_cases h4 : j = k * 8 + 4
  · subst h4; rw [if_pos rfl, sailCell_4]
  rw [if_neg h4]
  by_cases h3 : j = k * 8 + 3
  · subst h3; rw [if_pos rfl, sailCell_3]
  rw [if_neg h3]
  by_cases h2 : j = k * 8 + 2
  · subst h2; rw [if_pos rfl, sailCell_2]
  rw [if_neg h2]
  by_cases h1 : j = k * 8 + 1
  · subst h1; rw [if_pos rfl, sailCell_1]
  rw [if_neg h1]
  by_cases h0 : j = k * 8
  · subst h0; rw [if_pos rfl, sailCell_0]
  rw [if_neg h0]
  have hk : j / 8 ≠ k := by omega
  unfold sailCell
  rw [hS _ hk, hL _ hk, hC _ hk]
def whole (b n : Nat) : Value := .slice (some ⟨b, 0, none⟩) n n
def at_ (f : Nat → Nat) (q u : Nat) (i : Nat) : Nat := if i = q then u else f i
theorem at_at (f : Nat → Nat) (q u : Nat) : at_ f q u q = u := if_pos rfl
theorem at_ne (f : Nat → Nat) (q u i : Nat) (h : i ≠ q) : at_ f q u i = f i := if_neg h
structure SailsTo (w : World) (tS tL tC k lo g N : Nat) (S : Nat → Sail) (l c : Nat → Nat) : Prop where
  row : w.rowIs g tS (N * 8) (sailCell (upto k S Sail.zero) (upto k (fun i => whole (l i) (S i).la.n) (.slice none 0 0)) (upto k (fun i => whole (c i) (S i).ca.n) (.slice none 0 0)))
  lo : lo ≤ g
  lanes : ∀ i, i < k → g < l i ∧ w.rowIs (l i) tL ((S i).la.n * 2) (pairCell (S i).la)
  cabins : ∀ i, i < k → l i < c i ∧ w.rowIs (c i) tC ((S i).ca.n * 2) (pairCell (S i).ca)
  rise : ∀ i j, i < j → j < k → c i < l j
theorem SailsTo.below {w w' : World} {tS tL tC k lo g N : Nat} {S : Nat → Sail} {l c : Nat → Nat} (r : SailsTo w tS tL tC k lo g N S l c) (hb : Below w.heap.size w w') : SailsTo w' tS tL tC k lo g N S l c :=
  ⟨row_below r.row hb, r.lo, fun i hi => ⟨(r.lanes i hi).1, row_below (r.lanes i hi).2 hb⟩, fun i hi => ⟨(r.cabins i hi).1, row_below (r.cabins i hi).2 hb⟩, r.rise⟩
theorem SailsTo.sails {w : World} {tS tL tC lo g N : Nat} {S : Nat → Sail} {l c : Nat → Nat} (r : SailsTo w tS tL tC N lo g N S l c) (hL : ∀ i, i < N → (S i).la.n ≤ 1048576) (hC : ∀ i, i < N → (S i).ca.n ≤ 1048576) : SailsAt w (some ⟨g, 0, none⟩) N S := by
  intro k hk
  refine ⟨g, 0, some ⟨l k, 0, none⟩, (S k).la.n, some ⟨c k, 0, none⟩, (S k).ca.n, rfl, ?_, ?_, ?_, ?_, ?_, ?_, ?_, ?_, PairsAt.of_row (r.lanes k hk).2, PairsAt.of_row (r.cabins k hk).2, ⟨Nat.le_refl _, by have := hL k hk; omega, by intro e; cases e⟩, ⟨Nat.le_refl _, by have := hC k hk; omega, by intro e; cases e⟩⟩
  · rw [Nat.zero_add, r.row.cell (by omega), sailCell_0, upto_lt _ _ hk]
  · rw [Nat.zero_add, r.row.cell (by omega), sailCell_1, upto_lt _ _ hk]
  · rw [Nat.zero_add, r.row.cell (by omega), sailCell_2, upto_lt _ _ hk]
  · rw [Nat.zero_add, r.row.cell (by omega), sailCell_3, upto_lt _ _ hk]
  · rw [Nat.zero_add, r.row.cell (by omega), sailCell_4, upto_lt _ _ hk]
  · rw [Nat.zero_add, r.row.cell (by omega), sailCell_5, upto_lt _ _ hk]; rfl
  · rw [Nat.zero_add, r.row.cell (by omega), sailCell_6, upto_lt _ _ hk]; rfl
  · rw [Nat.zero_add, r.row.cell (by omega), sailCell_7, upto_lt _ _ hk]
theorem SailsTo.step {w : World} {tS tL tC k lo g N : Nat} {S : Nat → Sail} {l c : Nat → Nat} (r : SailsTo w tS tL tC k lo g N S l c) {a b : Nat} (ha : g < a) (hab : a < b)
    (hall : ∀ i, i < k → c i < a) (rowA : w.rowIs a tL ((S k).la.n * 2) (pairCell (S k).la)) (rowB : w.rowIs b tC ((S k).ca.n * 2) (pairCell (S k).ca)) :
    SailsTo (set8 w g (k * 8) (.int .i64 (S k).id) (.string (S k).fr) (.string (S k).dst) (.int .i64 (S k).dep) (.int .i64 (S k).arr) (whole a (S k).la.n) (whole b (S k).ca.n) (.int .i64 (S k).most)) tS tL tC (k + 1) lo g N S (at_ l k a) (at_ c k b) := by
  refine ⟨?_, r.lo, fun i hi => ?_, fun i hi => ?_, fun i j hij hj => ?_⟩
  · have := sail_set (k := k) (S' := upto (k + 1) S Sail.zero) (ls' := upto (k + 1) (fun i => whole (at_ l k a i) (S i).la.n) (.slice none 0 0)) (cs' := upto (k + 1) (fun i => whole (at_ c k b i) (S i).ca.n) (.slice none 0 0)) r.row (fun i e => upto_step _ _ _ _ e)
      (fun i e => by unfold upto; by_cases hi : i < k
                     · rw [if_pos hi, if_pos (by omega)]; simp only [at_ne _ _ _ _ e]
                     · rw [if_neg hi, if_neg (by omega)])
      (fun i e => by unfold upto; by_cases hi : i < k
                     · rw [if_pos hi, if_pos (by omega)]; simp only [at_ne _ _ _ _ e]
                     · rw [if_neg hi, if_neg (by omega)])
    rw [upto_lt _ _ (Nat.lt_succ_self k), upto_lt _ _ (Nat.lt_succ_self k), upto_lt _ _ (Nat.lt_succ_self k), at_at, at_at] at this
    exact this
  · by_cases e : i = k
    · subst e; rw [at_at]; exact ⟨ha, set8_row rowA (by omega)⟩
    · rw [at_ne _ _ _ _ e]; have := r.lanes i (by omega); exact ⟨this.1, set8_row this.2 (by omega)⟩
  · by_cases e : i = k
    · subst e; rw [at_at, at_at]; exact ⟨hab, set8_row rowB (by omega)⟩
    · rw [at_ne _ _ _ _ e, at_ne _ _ _ _ e]; have h1 := r.lanes i (by omega); have h2 := r.cabins i (by omega); exact ⟨h2.1, set8_row h2.2 (by omega)⟩
  · by_cases e : j = k
    · subst e; rw [at_at, at_ne _ _ _ _ (by omega)]; exact hall i (by omega)
    · rw [at_ne _ _ _ _ e, at_ne _ _ _ _ (by omega)]; exact r.rise i j hij (by omega)
def SaysIf (P : Prop) (e : Ending) : Prop := ∃ b : Bool, e = .returned (.bool b) ∧ (b = true ↔ P)
theorem says_yes {P : Prop} (h : P) : SaysIf P (.returned (.bool true)) := ⟨true, rfl, ⟨fun _ => h, fun _ => rfl⟩⟩
theorem says_no {P : Prop} (h : ¬ P) : SaysIf P (.returned (.bool false)) := ⟨false, rfl, ⟨fun e => (by cases e), fun p => absurd p h⟩⟩
def Tells (P : Prop) (c : Value) : Prop := ∃ b : Bool, c = .bool b ∧ (b = false ↔ P)
theorem tells_bad {P : Prop} (h : ¬ P) : Tells P (.bool true) := ⟨true, rfl, ⟨fun e => (by cases e), fun p => absurd p h⟩⟩
theorem tells_good {P : Prop} (h : P) : Tells P (.bool false) := ⟨false, rfl, ⟨fun _ => h, fun _ => rfl⟩⟩
end Go.Proofs.YtlelckbeoclhbaaGreat

namespace Go.Proofs.YtlelckbeoclhbaaGreat
open Go.RowKit
def recCell (sz : Nat) (C : Nat → List Value) (j : Nat) : Value := (C (j / sz)).getD (j % sz) (.bool false)
theorem recCell_at (sz : Nat) (C : Nat → List Value) (k j : Nat) (hj : j < sz) : recCell sz C (k * sz + j) = (C k).getD j (.bool false) := by
  unfold recCell
  have h0 : 0 < sz := by omega
  rw [show (k * sz + j) / sz = k by rw [Nat.add_comm, Nat.add_mul_div_right _ _ h0, Nat.div_eq_of_lt hj, Nat.zero_add], show (k * sz + j) % sz = j by rw [Nat.add_comm, Nat.add_mul_mod_self_right, Nat.mod_eq_of_lt hj]]
def setFrom (w : World) (g : Nat) : Nat → List Value → World
  | _, [] => w
  | o, v :: vs => setFrom (w.setCell ⟨g, o, none⟩ v) g (o + 1) vs
theorem setFrom_other {g x t n : Nat} {f : Nat → Value} (hx : x ≠ g) : ∀ (vs : List Value) (o : Nat) (w : World), w.rowIs x t n f → (setFrom w g o vs).rowIs x t n f
  | [], _, _, h => h
  | v :: r, o, _, h => setFrom_other hx r (o + 1) _ (h.setOther (by exact hx) v)
theorem setFrom_blk_other {g b : Nat} {x : Obj} (hne : b ≠ g) : ∀ (vs : List Value) (o : Nat) (w : World), w.heap[b]? = some x → (setFrom w g o vs).heap[b]? = some x
  | [], _, _, h => h
  | v :: r, o, _, h => setFrom_blk_other hne r (o + 1) _ (blk_set_other h o v hne)
theorem setFrom_below {g : Nat} {w0 : World} (hg : w0.heap.size ≤ g) : ∀ (vs : List Value) (o : Nat) (w : World), Below w0.heap.size w0 w → Below w0.heap.size w0 (setFrom w g o vs)
  | [], _, _, h => h
  | v :: r, o, _, h => setFrom_below hg r (o + 1) _ (h.setCell (by exact hg) v)
theorem setFrom_kept {g : Nat} {S : Nat → Prop} {w0 : World} (hg : S g) : ∀ (vs : List Value) (o : Nat) (w : World), Kept w0 w S → Kept w0 (setFrom w g o vs) S
  | [], _, _, h => h
  | v :: r, o, _, h => setFrom_kept hg r (o + 1) _ (h.set (a := ⟨g, o, none⟩) hg v)
theorem setFrom_size (g : Nat) : ∀ (vs : List Value) (o : Nat) (w : World), (setFrom w g o vs).heap.size = w.heap.size
  | [], _, _ => rfl
  | v :: r, o, w => by rw [setFrom, setFrom_size g r (o + 1), World.size_setCell]
theorem setFrom_row {b t n : Nat} : ∀ (vs : List Value) (o : Nat) (w : World) (f : Nat → Value), w.rowIs b t n f → (setFrom w b o vs).rowIs b t n (fun j => if o ≤ j ∧ j < o + vs.length then vs.getD (j - o) (.bool false) else f j)
  | [], o, w, f, h => h.congr (fun j _ => by rw [if_neg (by simp)])
  | v :: r, o, w, f, h => by
    have ih := setFrom_row r (o + 1) _ _ (h.set o v)
    refine ih.congr (fun j _ => ?_)
    by_cases h1 : j = o
    · subst h1
      rw [if_neg (by omega), if_pos rfl, if_pos (by simp), Nat.sub_self]
      rfl
    · by_cases h2 : o + 1 ≤ j ∧ j < o + 1 + r.length
      · rw [if_pos h2, if_pos (by simp; omega), show j - o = (j - (o + 1)) + 1 by omega]
        simp
      · rw [if_neg h2, if_neg h1, if_neg (by simp; omega)]
theorem rec_set {w : World} {g t n sz k : Nat} {C C' : Nat → List Value} {vs : List Value} (h : w.rowIs g t n (recCell sz C)) (hv : vs.length = sz) (h0 : 0 < sz) (hC : ∀ i, i ≠ k → C' i = C i) (hk : C' k = vs) :
    (setFrom w g (k * sz) vs).rowIs g t n (recCell sz C') := by
  refine (setFrom_row vs (k * sz) w _ h).congr fun j _ => ?_
  by_cases e : j / sz = k
  · have h1 : k * sz ≤ j := by rw [← e]; exact Nat.div_mul_le_self j sz
    have h2 : j < k * sz + sz := by
      have := Nat.lt_div_mul_add h0 (a := j)
      rw [e] at this; exact this
    rw [if_pos ⟨h1, by omega⟩]
    unfold recCell
    rw [e, hk, show j % sz = j - k * sz by have := Nat.div_add_mod j sz; rw [e, Nat.mul_comm] at this; omega]
  · rw [if_neg (by
      rintro ⟨h1, h2⟩
      apply e
      rw [hv] at h2
      have : j = (j - k * sz) + k * sz := by omega
      rw [this, Nat.add_mul_div_right _ _ h0, Nat.div_eq_of_lt (by omega), Nat.zero_add])]
    unfold recCell
    rw [hC _ e]
def RecsAt (w : World) (ao : Option Addr) (N sz : Nat) (C : Nat → List Value) : Prop :=
  ∀ k, k < N → ∃ b off, ao = some ⟨b, off, none⟩ ∧ ∀ j, j < sz → w.cell? ⟨b, off + k * sz + j, none⟩ = some ((C k).getD j (.bool false))
theorem RecsAt.below {w w' : World} {ao : Option Addr} {N sz : Nat} {C : Nat → List Value} (h : RecsAt w ao N sz C) (hb : Below w.heap.size w w') : RecsAt w' ao N sz C := by
  intro k hk
  obtain ⟨b, off, e, hc⟩ := h k hk
  exact ⟨b, off, e, fun j hj => (hb.cell (World.block_lt_of_cell? w _ (hc j hj))).trans (hc j hj)⟩
theorem RecsAt.of_row {w : World} {g t N sz : Nat} {C : Nat → List Value} (h : w.rowIs g t (N * sz) (recCell sz C)) : RecsAt w (some ⟨g, 0, none⟩) N sz C := by
  intro k hk
  refine ⟨g, 0, rfl, fun j hj => ?_⟩
  have : k * sz + j < N * sz := by
    have h1 : (k + 1) * sz ≤ N * sz := Nat.mul_le_mul_right sz hk
    rw [Nat.add_mul] at h1
    omega
  rw [Nat.zero_add, h.cell this, recCell_at sz C k j hj]
theorem RecsAt.upto {w : World} {ao : Option Addr} {N M sz : Nat} {C : Nat → List Value} (h : RecsAt w ao N sz C) (hM : M ≤ N) : RecsAt w ao M sz C := fun k hk => h k (by omega)
theorem made_recs {z : Array Value} {sz : Nat} (hz : z.size = sz) (n j : Nat) (hj : j < n * sz) : (madeCells z (n * sz)).toList.getD j (.bool false) = recCell sz (fun _ => z.toList) j := by
  have h0 : 0 < sz := by rcases Nat.eq_zero_or_pos sz with h | h; subst h; omega; exact h
  simp only [madeCells, Array.toList_map, List.getD_eq_getElem?_getD, List.getElem?_map, Array.toList_range, List.getElem?_range hj, Option.map_some, Option.getD_some]
  unfold recCell
  rw [List.getD_eq_getElem?_getD]
  have hm : j % sz < z.size := by rw [hz]; exact Nat.mod_lt _ h0
  simp [hz]
  rw [getElem!_pos z _ hm, Array.getElem?_eq_getElem hm]
  rfl
end Go.Proofs.YtlelckbeoclhbaaGreat
