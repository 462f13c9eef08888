/-
  OWN TEXT: KitS, PlainS, PlainFa, DrawPy, PlainLcg.
-/
import Derived.Deep.DeepCutAuto
import Derived.Test.YtfallpinmhbemaaGreatDoorB00
namespace Go.Proofs.YtfallpinmhbemaaGreatDoor
open Go.RowKit

/-- A list of pairs of numbers. -/
structure Pairs where
  n : Nat
  A : Nat → Int
  B : Nat → Int
/-- The slice at ao reads as the pairs p. -/
def PairsAt (w : World) (ao : Option Addr) (p : Pairs) : Prop :=
  ∀ k, k < p.n → ∃ b off, ao = some ⟨b, off, none⟩ ∧ w.cell? ⟨b, off + k * 2, none⟩ = some (.int .i64 (p.A k)) ∧ w.cell? ⟨b, off + k * 2 + 1, none⟩ = some (.int .i64 (p.B k))
theorem PairsAt.below {w w' : World} {ao : Option Addr} {p : Pairs} (h : PairsAt w ao p) (hb : Below w.heap.size w w') : PairsAt w' ao p := by
  intro k hk
  obtain ⟨b, off, e, h1, h2⟩ := h k hk
  have hlt : b < w.heap.size := World.block_lt_of_cell? w _ h1
  exact ⟨b, off, e, (hb.cell hlt).trans h1, (hb.cell hlt).trans h2⟩
/-- The cell j of a row of pairs. -/
def pairCell (p : Pairs) (j : Nat) : Value := if j % 2 = 0 then .int .i64 (p.A (j / 2)) else .int .i64 (p.B (j / 2))
theorem pairCell_0 (p : Pairs) (k : Nat) : pairCell p (k * 2) = .int .i64 (p.A k) := by
  unfold pairCell; rw [if_pos (by omega), show k * 2 / 2 = k by omega]
theorem pairCell_1 (p : Pairs) (k : Nat) : pairCell p (k * 2 + 1) = .int .i64 (p.B k) := by
  unfold pairCell; rw [if_neg (by omega), show (k * 2 + 1) / 2 = k by omega]
theorem PairsAt.of_row {w : World} {g t : Nat} {p : Pairs} (h : w.rowIs g t (p.n * 2) (pairCell p)) : PairsAt w (some ⟨g, 0, none⟩) p := by
  intro k hk
  refine ⟨g, 0, rfl, ?_, ?_⟩
  · rw [Nat.zero_add, h.cell (by omega), pairCell_0]
  · rw [Nat.zero_add, h.cell (by omega), pairCell_1]
theorem made_pairs (n : Nat) (j : Nat) (hj : j < n * 2) : (madeCells (Value.agg #[.int .i64 0, .int .i64 0]).cells (n * 2)).toList.getD j (.bool false) = pairCell ⟨n, fun _ => 0, fun _ => 0⟩ j := by
  have hz : (Value.agg #[.int .i64 0, .int .i64 0]).cells = #[.int .i64 0, .int .i64 0] := rfl
  rw [hz]
  simp only [madeCells, Array.toList_map, List.getD_eq_getElem?_getD, List.getElem?_map, Array.toList_range, List.getElem?_range hj, Option.map_some, Option.getD_some]
  unfold pairCell
  have : j % 2 = 0 ∨ j % 2 = 1 := by omega
  rcases this with h | h <;> simp [h]
/-- A pair is stored into a row. -/
theorem pair_set {w : World} {g t n k : Nat} {p p' : Pairs} (h : w.rowIs g t n (pairCell p)) (hA : ∀ i, i ≠ k → p'.A i = p.A i) (hB : ∀ i, i ≠ k → p'.B i = p.B i) :
    ((w.setCell ⟨g, k * 2, none⟩ (.int .i64 (p'.A k))).setCell ⟨g, k * 2 + 1, none⟩ (.int .i64 (p'.B k))).rowIs g t n (pairCell p') := by
  refine ((h.set (k * 2) _).set (k * 2 + 1) _).congr fun j _ => ?_
  by_cases h1 : j = k * 2 + 1
  · subst h1; rw [if_pos rfl, pairCell_1]
  · rw [if_neg h1]
    by_cases h0 : j = k * 2
    · subst h0; rw [if_pos rfl, pairCell_0]
    · rw [if_neg h0]
      have hk : j / 2 ≠ k := by omega
      unfold pairCell
      rw [hA _ hk, hB _ hk]
/-- The pairs whose first k are those of p, the others zero. -/
def pairsTo (k : Nat) (p : Pairs) : Pairs := ⟨p.n, upto k p.A 0, upto k p.B 0⟩
/-- Pairs with their address written out. -/
theorem pairs_in {w : World} {ao : Option Addr} {p : Pairs} (h : PairsAt w ao p) : p.n = 0 ∨ ∃ b off, ao = some ⟨b, off, none⟩ ∧ b < w.heap.size ∧ ∀ k, k < p.n → w.cell? ⟨b, off + k * 2, none⟩ = some (.int .i64 (p.A k)) ∧ w.cell? ⟨b, off + k * 2 + 1, none⟩ = some (.int .i64 (p.B k)) := by
  by_cases h0 : p.n = 0
  · exact .inl h0
  · refine .inr ?_
    obtain ⟨b, off, rfl, h1, _⟩ := h 0 (by omega)
    refine ⟨b, off, rfl, World.block_lt_of_cell? w _ h1, fun k hk => ?_⟩
    obtain ⟨b', off', e, g1, g2⟩ := h k hk
    simp only [Option.some.injEq, Addr.mk.injEq, and_true] at e
    obtain ⟨rfl, rfl⟩ := e
    exact ⟨g1, g2⟩

/-- A slice that can be. -/
def SliceOk (ao : Option Addr) (n c : Nat) : Prop := n ≤ c ∧ c ≤ 9223372036854775807 ∧ (ao = none → n = 0 ∧ c = 0)

/-- A sailing. -/
structure Sail where
  id : Int
  fr : ByteArray
  dst : ByteArray
  dep : Int
  arr : Int
  la : Pairs
  ca : Pairs
  most : Int
def Sail.zero : Sail := ⟨0, ⟨#[]⟩, ⟨#[]⟩, 0, 0, ⟨0, fun _ => 0, fun _ => 0⟩, ⟨0, fun _ => 0, fun _ => 0⟩, 0⟩
instance : Inhabited Sail := ⟨Sail.zero⟩

/-- The slice at ao reads as N sailings. -/
def SailsAt (w : World) (ao : Option Addr) (N : Nat) (S : Nat → Sail) : Prop :=
  ∀ k, k < N → ∃ b off la lc ca cc, ao = some ⟨b, off, none⟩ ∧ w.cell? ⟨b, off + k * 8, none⟩ = some (.int .i64 (S k).id) ∧ w.cell? ⟨b, off + k * 8 + 1, none⟩ = some (.string (S k).fr) ∧
    w.cell? ⟨b, off + k * 8 + 2, none⟩ = some (.string (S k).dst) ∧ w.cell? ⟨b, off + k * 8 + 3, none⟩ = some (.int .i64 (S k).dep) ∧ w.cell? ⟨b, off + k * 8 + 4, none⟩ = some (.int .i64 (S k).arr) ∧
    w.cell? ⟨b, off + k * 8 + 5, none⟩ = some (.slice la (S k).la.n lc) ∧ w.cell? ⟨b, off + k * 8 + 6, none⟩ = some (.slice ca (S k).ca.n cc) ∧ w.cell? ⟨b, off + k * 8 + 7, none⟩ = some (.int .i64 (S k).most) ∧
    PairsAt w la (S k).la ∧ PairsAt w ca (S k).ca ∧ SliceOk la (S k).la.n lc ∧ SliceOk ca (S k).ca.n cc
theorem SailsAt.below {w w' : World} {ao : Option Addr} {N : Nat} {S : Nat → Sail} (h : SailsAt w ao N S) (hb : Below w.heap.size w w') : SailsAt w' ao N S := by
  intro k hk
  obtain ⟨b, off, la, lc, ca, cc, e, h0, h1, h2, h3, h4, h5, h6, h7, h8, h9, ha, hc⟩ := h k hk
  have hlt : b < w.heap.size := World.block_lt_of_cell? w _ h1
  exact ⟨b, off, la, lc, ca, cc, e, (hb.cell hlt).trans h0, (hb.cell hlt).trans h1, (hb.cell hlt).trans h2, (hb.cell hlt).trans h3, (hb.cell hlt).trans h4, (hb.cell hlt).trans h5, (hb.cell hlt).trans h6, (hb.cell hlt).trans h7, h8.below hb, h9.below hb, ha, hc⟩

/-- The cell j of a row of sailings. -/
def sailCell (S : Nat → Sail) (ls cs : Nat → Value) (j : Nat) : Value :=
  if j % 8 = 0 then .int .i64 (S (j / 8)).id else if j % 8 = 1 then .string (S (j / 8)).fr else if j % 8 = 2 then .string (S (j / 8)).dst else if j % 8 = 3 then .int .i64 (S (j / 8)).dep
  else if j % 8 = 4 then .int .i64 (S (j / 8)).arr else if j % 8 = 5 then ls (j / 8) else if j % 8 = 6 then cs (j / 8) else .int .i64 (S (j / 8)).most
theorem sailCell_0 (S : Nat → Sail) (ls cs : Nat → Value) (k : Nat) : sailCell S ls cs (k * 8) = .int .i64 (S k).id := by
  unfold sailCell; rw [if_pos (by omega), show k * 8 / 8 = k by omega]
theorem sailCell_1 (S : Nat → Sail) (ls cs : Nat → Value) (k : Nat) : sailCell S ls cs (k * 8 + 1) = .string (S k).fr := by
  unfold sailCell; rw [if_neg (by omega), if_pos (by omega), show (k * 8 + 1) / 8 = k by omega]
theorem sailCell_2 (S : Nat → Sail) (ls cs : Nat → Value) (k : Nat) : sailCell S ls cs (k * 8 + 2) = .string (S k).dst := by
  unfold sailCell; rw [if_neg (by omega), if_neg (by omega), if_pos (by omega), show (k * 8 + 2) / 8 = k by omega]
theorem sailCell_3 (S : Nat → Sail) (ls cs : Nat → Value) (k : Nat) : sailCell S ls cs (k * 8 + 3) = .int .i64 (S k).dep := by
  unfold sailCell; rw [if_neg (by omega), if_neg (by omega), if_neg (by omega), if_pos (by omega), show (k * 8 + 3) / 8 = k by omega]
theorem sailCell_4 (S : Nat → Sail) (ls cs : Nat → Value) (k : Nat) : sailCell S ls cs (k * 8 + 4) = .int .i64 (S k).arr := by
  unfold sailCell; rw [if_neg (by omega), if_neg (by omega), if_neg (by omega), if_neg (by omega), if_pos (by omega), show (k * 8 + 4) / 8 = k by omega]
theorem sailCell_5 (S : Nat → Sail) (ls cs : Nat → Value) (k : Nat) : sailCell S ls cs (k * 8 + 5) = ls k := by
  unfold sailCell; rw [if_neg (by omega), if_neg (by omega), if_neg (by omega), if_neg (by omega), if_neg (by omega), if_pos (by omega), show (k * 8 + 5) / 8 = k by omega]
theorem sailCell_6 (S : Nat → Sail) (ls cs : Nat → Value) (k : Nat) : sailCell S ls cs (k * 8 + 6) = cs k := by
  unfold sailCell; rw [if_neg (by omega), if_neg (by omega), if_neg (by omega), if_neg (by omega), if_neg (by omega), if_neg (by omega), if_pos (by omega), show (k * 8 + 6) / 8 = k by omega]
theorem sailCell_7 (S : Nat → Sail) (ls cs : Nat → Value) (k : Nat) : sailCell S ls cs (k * 8 + 7) = .int .i64 (S k).most := by
  unfold sailCell; rw [if_neg (by omega), if_neg (by omega), if_neg (by omega), if_neg (by omega), if_neg (by omega), if_neg (by omega), if_neg (by omega), show (k * 8 + 7) / 8 = k by omega]
theorem made_sails (n : Nat) (j : Nat) (hj : j < n * 8) : (madeCells (Value.agg #[.int .i64 0, .string ⟨#[]⟩, .string ⟨#[]⟩, .int .i64 0, .int .i64 0, .slice none 0 0, .slice none 0 0, .int .i64 0]).cells (n * 8)).toList.getD j (.bool false) = sailCell (fun _ => Sail.zero) (fun _ => .slice none 0 0) (fun _ => .slice none 0 0) j := by
  have hz : (Value.agg #[.int .i64 0, .string ⟨#[]⟩, .string ⟨#[]⟩, .int .i64 0, .int .i64 0, .slice none 0 0, .slice none 0 0, .int .i64 0]).cells = #[.int .i64 0, .string ⟨#[]⟩, .string ⟨#[]⟩, .int .i64 0, .int .i64 0, .slice none 0 0, .slice none 0 0, .int .i64 0] := rfl
  rw [hz]
  simp only [madeCells, Array.toList_map, List.getD_eq_getElem?_getD, List.getElem?_map, Array.toList_range, List.getElem?_range hj, Option.map_some, Option.getD_some]
  unfold sailCell
  have : j % 8 = 0 ∨ j % 8 = 1 ∨ j % 8 = 2 ∨ j % 8 = 3 ∨ j % 8 = 4 ∨ j % 8 = 5 ∨ j % 8 = 6 ∨ j % 8 = 7 := by omega
  rcases this with h | h | h | h | h | h | h | h <;> simp [h, Sail.zero]

/-- A world with eight cells of one block set. -/
def set8 (w : World) (g o : Nat) (v0 v1 v2 v3 v4 v5 v6 v7 : Value) : World :=
  (((((((w.setCell ⟨g, o, none⟩ v0).setCell ⟨g, o + 1, none⟩ v1).setCell ⟨g, o + 2, none⟩ v2).setCell ⟨g, o + 3, none⟩ v3).setCell ⟨g, o + 4, none⟩ v4).setCell ⟨g, o + 5, none⟩ v5).setCell ⟨g, o + 6, none⟩ v6).setCell ⟨g, o + 7, none⟩ v7
theorem set8_row {w : World} {g o x t n : Nat} {f : Nat → Value} {v0 v1 v2 v3 v4 v5 v6 v7 : Value} (h : w.rowIs x t n f) (hx : x ≠ g) : (set8 w g o v0 v1 v2 v3 v4 v5 v6 v7).rowIs x t n f := by
  unfold set8
  exact (((((((h.setOther (by show x ≠ g; exact hx) _).setOther (by show x ≠ g; exact hx) _).setOther (by show x ≠ g; exact hx) _).setOther (by show x ≠ g; exact hx) _).setOther (by show x ≠ g; exact hx) _).setOther (by show x ≠ g; exact hx) _).setOther (by show x ≠ g; exact hx) _).setOther (by show x ≠ g; exact hx) _
theorem set8_below {w w0 : World} {g o : Nat} {v0 v1 v2 v3 v4 v5 v6 v7 : Value} (h : Below w0.heap.size w0 w) (hg : w0.heap.size ≤ g) : Below w0.heap.size w0 (set8 w g o v0 v1 v2 v3 v4 v5 v6 v7) := by
  unfold set8
  exact (((((((h.setCell hg _).setCell hg _).setCell hg _).setCell hg _).setCell hg _).setCell hg _).setCell hg _).setCell hg _
theorem set8_blk {w : World} {g t : Nat} {u0 u1 u2 u3 u4 u5 u6 u7 v0 v1 v2 v3 v4 v5 v6 v7 : Value} (h : w.heap[g]? = some (.cells #[u0, u1, u2, u3, u4, u5, u6, u7] t (0, 0))) :
    (set8 w g 0 v0 v1 v2 v3 v4 v5 v6 v7).heap[g]? = some (.cells #[v0, v1, v2, v3, v4, v5, v6, v7] t (0, 0)) := by
  unfold set8
  have := blk_set (blk_set (blk_set (blk_set (blk_set (blk_set (blk_set (blk_set h 0 v0) 1 v1) 2 v2) 3 v3) 4 v4) 5 v5) 6 v6) 7 v7
  simpa using this
theorem set8_blk_other {w : World} {g o b : Nat} {x : Obj} {v0 v1 v2 v3 v4 v5 v6 v7 : Value} (h : w.heap[b]? = some x) (hne : b ≠ g) : (set8 w g o v0 v1 v2 v3 v4 v5 v6 v7).heap[b]? = some x := by
  unfold set8
  exact blk_set_other (blk_set_other (blk_set_other (blk_set_other (blk_set_other (blk_set_other (blk_set_other (blk_set_other h _ _ hne) _ _ hne) _ _ hne) _ _ hne) _ _ hne) _ _ hne) _ _ hne) _ _ hne
/-- A sailing is stored into a row. -/
theorem sail_set {w : World} {g t n k : Nat} {S S' : Nat → Sail} {ls ls' cs cs' : Nat → Value} (h : w.rowIs g t n (sailCell S ls cs))
    (hS : ∀ i, i ≠ k → S' i = S i) (hL : ∀ i, i ≠ k → ls' i = ls i) (hC : ∀ i, i ≠ k → cs' i = cs i) :
    (set8 w g (k * 8) (.int .i64 (S' k).id) (.string (S' k).fr) (.string (S' k).dst) (.int .i64 (S' k).dep) (.int .i64 (S' k).arr) (ls' k) (cs' k) (.int .i64 (S' k).most)).rowIs g t n (sailCell S' ls' cs') := by
  unfold set8
  refine ((((((((h.set (k * 8) _).set (k * 8 + 1) _).set (k * 8 + 2) _).set (k * 8 + 3) _).set (k * 8 + 4) _).set (k * 8 + 5) _).set (k * 8 + 6) _).set (k * 8 + 7) _).congr fun j _ => ?_
  by_cases h7 : j = k * 8 + 7
  · subst h7; rw [if_pos rfl, sailCell_7]
  rw [if_neg h7]
  by_cases h6 : j = k * 8 + 6
  · subst h6; rw [if_pos rfl, sailCell_6]
  rw [if_neg h6]
  by_cases h5 : j = k * 8 + 5
  · subst h5; rw [if_pos rfl, sailCell_5]
  rw [if_neg h5]
  by_cases h4 : j = k * 8 + 4
  · subst h4; rw [if_pos rfl, sailCell_4]
  rw [if_neg h4]
  by_cases h3 : j = k * 8 + 3
  · subst h3; rw [if_pos rfl, sailCell_3]
  rw [if_neg h3]
  by_cases h2 : j = k * 8 + 2
  · subst h2; rw [if_pos rfl, sailCell_2]
  rw [if_neg h2]
  by_cases h1 : j = k * 8 + 1
  · subst h1; rw [if_pos rfl, sailCell_1]
  rw [if_neg h1]
  by_cases h0 : j = k * 8
  · subst h0; rw [if_pos rfl, sailCell_0]
  rw [if_neg h0]
  have hk : j / 8 ≠ k := by omega
  unfold sailCell
  rw [hS _ hk, hL _ hk, hC _ hk]

/-- The whole slice of the block b. -/
def whole (b n : Nat) : Value := .slice (some ⟨b, 0, none⟩) n n
/-- f, with u at place q. -/
def at_ (f : Nat → Nat) (q u : Nat) (i : Nat) : Nat := if i = q then u else f i
theorem at_at (f : Nat → Nat) (q u : Nat) : at_ f q u q = u := if_pos rfl
theorem at_ne (f : Nat → Nat) (q u i : Nat) (h : i ≠ q) : at_ f q u i = f i := if_neg h

/-- The block g holds the first k of N sailings (the others are zero), each with its lanes and cabins in blocks of their own, l i and c i, that rise behind g. -/
structure SailsTo (w : World) (tS tL tC k lo g N : Nat) (S : Nat → Sail) (l c : Nat → Nat) : Prop where
  row : w.rowIs g tS (N * 8) (sailCell (upto k S Sail.zero) (upto k (fun i => whole (l i) (S i).la.n) (.slice none 0 0)) (upto k (fun i => whole (c i) (S i).ca.n) (.slice none 0 0)))
  lo : lo ≤ g
  lanes : ∀ i, i < k → g < l i ∧ w.rowIs (l i) tL ((S i).la.n * 2) (pairCell (S i).la)
  cabins : ∀ i, i < k → l i < c i ∧ w.rowIs (c i) tC ((S i).ca.n * 2) (pairCell (S i).ca)
  rise : ∀ i j, i < j → j < k → c i < l j

theorem SailsTo.below {w w' : World} {tS tL tC k lo g N : Nat} {S : Nat → Sail} {l c : Nat → Nat} (r : SailsTo w tS tL tC k lo g N S l c) (hb : Below w.heap.size w w') : SailsTo w' tS tL tC k lo g N S l c :=
  ⟨row_below r.row hb, r.lo, fun i hi => ⟨(r.lanes i hi).1, row_below (r.lanes i hi).2 hb⟩, fun i hi => ⟨(r.cabins i hi).1, row_below (r.cabins i hi).2 hb⟩, r.rise⟩

theorem SailsTo.sails {w : World} {tS tL tC lo g N : Nat} {S : Nat → Sail} {l c : Nat → Nat} (r : SailsTo w tS tL tC N lo g N S l c) (hL : ∀ i, i < N → (S i).la.n ≤ 1048576) (hC : ∀ i, i < N → (S i).ca.n ≤ 1048576) : SailsAt w (some ⟨g, 0, none⟩) N S := by
  intro k hk
  refine ⟨g, 0, some ⟨l k, 0, none⟩, (S k).la.n, some ⟨c k, 0, none⟩, (S k).ca.n, rfl, ?_, ?_, ?_, ?_, ?_, ?_, ?_, ?_, PairsAt.of_row (r.lanes k hk).2, PairsAt.of_row (r.cabins k hk).2, ⟨Nat.le_refl _, by have := hL k hk; omega, by intro e; cases e⟩, ⟨Nat.le_refl _, by have := hC k hk; omega, by intro e; cases e⟩⟩
  · rw [Nat.zero_add, r.row.cell (by omega), sailCell_0, upto_lt _ _ hk]
  · rw [Nat.zero_add, r.row.cell (by omega), sailCell_1, upto_lt _ _ hk]
  · rw [Nat.zero_add, r.row.cell (by omega), sailCell_2, upto_lt _ _ hk]
  · rw [Nat.zero_add, r.row.cell (by omega), sailCell_3, upto_lt _ _ hk]
  · rw [Nat.zero_add, r.row.cell (by omega), sailCell_4, upto_lt _ _ hk]
  · rw [Nat.zero_add, r.row.cell (by omega), sailCell_5, upto_lt _ _ hk]; rfl
  · rw [Nat.zero_add, r.row.cell (by omega), sailCell_6, upto_lt _ _ hk]; rfl
  · rw [Nat.zero_add, r.row.cell (by omega), sailCell_7, upto_lt _ _ hk]

/-- One sailing more. -/
theorem SailsTo.step {w : World} {tS tL tC k lo g N : Nat} {S : Nat → Sail} {l c : Nat → Nat} (r : SailsTo w tS tL tC k lo g N S l c) {a b : Nat} (ha : g < a) (hab : a < b)
    (hall : ∀ i, i < k → c i < a) (rowA : w.rowIs a tL ((S k).la.n * 2) (pairCell (S k).la)) (rowB : w.rowIs b tC ((S k).ca.n * 2) (pairCell (S k).ca)) :
    SailsTo (set8 w g (k * 8) (.int .i64 (S k).id) (.string (S k).fr) (.string (S k).dst) (.int .i64 (S k).dep) (.int .i64 (S k).arr) (whole a (S k).la.n) (whole b (S k).ca.n) (.int .i64 (S k).most)) tS tL tC (k + 1) lo g N S (at_ l k a) (at_ c k b) := by
  refine ⟨?_, r.lo, fun i hi => ?_, fun i hi => ?_, fun i j hij hj => ?_⟩
  · have := sail_set (k := k) (S' := upto (k + 1) S Sail.zero) (ls' := upto (k + 1) (fun i => whole (at_ l k a i) (S i).la.n) (.slice none 0 0)) (cs' := upto (k + 1) (fun i => whole (at_ c k b i) (S i).ca.n) (.slice none 0 0)) r.row (fun i e => upto_step _ _ _ _ e)
      (fun i e => by unfold upto; by_cases hi : i < k
                     · rw [if_pos hi, if_pos (by omega)]; simp only [at_ne _ _ _ _ e]
                     · rw [if_neg hi, if_neg (by omega)])
      (fun i e => by unfold upto; by_cases hi : i < k
                     · rw [if_pos hi, if_pos (by omega)]; simp only [at_ne _ _ _ _ e]
                     · rw [if_neg hi, if_neg (by omega)])
    rw [upto_lt _ _ (Nat.lt_succ_self k), upto_lt _ _ (Nat.lt_succ_self k), upto_lt _ _ (Nat.lt_succ_self k), at_at, at_at] at this
    exact this
  · by_cases e : i = k
    · subst e; rw [at_at]; exact ⟨ha, set8_row rowA (by omega)⟩
    · rw [at_ne _ _ _ _ e]; have := r.lanes i (by omega); exact ⟨this.1, set8_row this.2 (by omega)⟩
  · by_cases e : i = k
    · subst e; rw [at_at, at_at]; exact ⟨hab, set8_row rowB (by omega)⟩
    · rw [at_ne _ _ _ _ e, at_ne _ _ _ _ e]; have h1 := r.lanes i (by omega); have h2 := r.cabins i (by omega); exact ⟨h2.1, set8_row h2.2 (by omega)⟩
  · by_cases e : j = k
    · subst e; rw [at_at, at_ne _ _ _ _ (by omega)]; exact hall i (by omega)
    · rw [at_ne _ _ _ _ e, at_ne _ _ _ _ (by omega)]; exact r.rise i j hij (by omega)

/-- The call returned whether P holds. -/
def SaysIf (P : Prop) (e : Ending) : Prop := ∃ b : Bool, e = .returned (.bool b) ∧ (b = true ↔ P)
theorem says_yes {P : Prop} (h : P) : SaysIf P (.returned (.bool true)) := ⟨true, rfl, ⟨fun _ => h, fun _ => rfl⟩⟩
theorem says_no {P : Prop} (h : ¬ P) : SaysIf P (.returned (.bool false)) := ⟨false, rfl, ⟨fun e => (by cases e), fun p => absurd p h⟩⟩
/-- The value c tells by false that P holds. -/
def Tells (P : Prop) (c : Value) : Prop := ∃ b : Bool, c = .bool b ∧ (b = false ↔ P)
theorem tells_bad {P : Prop} (h : ¬ P) : Tells P (.bool true) := ⟨true, rfl, ⟨fun e => (by cases e), fun p => absurd p h⟩⟩
theorem tells_good {P : Prop} (h : P) : Tells P (.bool false) := ⟨false, rfl, ⟨fun _ => h, fun _ => rfl⟩⟩

end Go.Proofs.YtfallpinmhbemaaGreatDoor

namespace Go.Proofs.YtfallpinmhbemaaGreatDoor
open Go.RowKit

def Letter (b : Int) : Prop := (97 ≤ b ∧ b ≤ 122) ∨ (65 ≤ b ∧ b ≤ 90)
/-- The byte k of a text. -/
def byteAt (s : ByteArray) (k : Nat) : Int := if h : k < s.size then ((s[k]'h).toNat : Int) else 0
theorem byteAt_is (s : ByteArray) (k : Nat) (h : k < s.size) : ((s[k]'h).toNat : Int) = byteAt s k := by unfold byteAt; rw [dif_pos h]
instance (b : Int) : Decidable (Letter b) := by unfold Letter; exact inferInstance
def IsName (s : ByteArray) : Prop := 1 ≤ s.size ∧ s.size ≤ 12 ∧ ∀ k, k < s.size → Letter (byteAt s k)
instance (s : ByteArray) : Decidable (IsName s) := by unfold IsName; exact inferInstance
def In (x lo hi : Int) : Prop := lo ≤ x ∧ x ≤ hi
instance (x lo hi : Int) : Decidable (In x lo hi) := by unfold In; exact inferInstance
def GoodPairs (p : Pairs) (most : Nat) (a1 a2 b1 b2 : Int) : Prop := p.n ≤ most ∧ ∀ k, k < p.n → In (p.A k) a1 a2 ∧ In (p.B k) b1 b2
def GoodSail (s : Sail) : Prop :=
  In s.id 1 99 ∧ IsName s.fr ∧ IsName s.dst ∧ s.fr ≠ s.dst ∧ 0 ≤ s.dep ∧ s.dep < s.arr ∧ s.arr ≤ 10000 ∧ GoodPairs s.la 4 1 5000 100 500 ∧ GoodPairs s.ca 6 1 3 1 4 ∧ In s.most 0 500
def GoodTab (N : Nat) (S : Nat → Sail) : Prop := N ≤ 6 ∧ ∀ k, k < N → GoodSail (S k) ∧ (0 < k → (S (k - 1)).id < (S k).id)

theorem toList_inj {a b : ByteArray} (h : a.toList = b.toList) : a = b := by
  rw [ByteArray.toList_eq, ByteArray.toList_eq] at h
  obtain ⟨⟨x⟩⟩ := a
  obtain ⟨⟨y⟩⟩ := b
  simp at h
  rw [h]
theorem bytes_eq {a b : ByteArray} : (a.toList == b.toList) = true ↔ a = b := by
  rw [beq_iff_eq]
  exact ⟨toList_inj, fun h => by rw [h]⟩
theorem bytes_ne {a b : ByteArray} : (a.toList == b.toList) = false ↔ a ≠ b := by
  rw [beq_eq_false_iff_ne]
  exact ⟨fun h e => h (by rw [e]), fun h e => h (toList_inj e)⟩
def Unlike (a b : ByteArray) : Prop := IsName a ∧ IsName b ∧ a ≠ b
instance (a b : ByteArray) : Decidable (Unlike a b) := by unfold Unlike; exact inferInstance
theorem bool_eq {a b : Bool} {P : Prop} (h1 : a = true ↔ P) (h2 : b = true ↔ P) : a = b := by
  cases a <;> cases b <;> simp_all

end Go.Proofs.YtfallpinmhbemaaGreatDoor

namespace Go.Proofs.YtfallpinmhbemaaGreatDoor
open Go.RowKit

structure Party where
  pe : Int
  len : Int
  hei : Int
  cl : Int
  all : Bool
  be : Int
/-- The party as a value. -/
def Party.v (p : Party) : Value := .agg #[.int .i64 p.pe, .int .i64 p.len, .int .i64 p.hei, .int .i64 p.cl, .bool p.all, .int .i64 p.be]
def CarOk (l h : Int) : Prop := In l 1 2000 ∧ In h 1 500
instance (l h : Int) : Decidable (CarOk l h) := by unfold CarOk; exact inferInstance
def CabOk (cl : Int) (all : Bool) (be : Int) : Prop := In cl 1 3 ∧ ((all = true ∧ be = 0) ∨ (all = false ∧ In be 1 4))
instance (cl : Int) (all : Bool) (be : Int) : Decidable (CabOk cl all be) := by unfold CabOk; exact inferInstance
def PartyOk (p : Party) : Prop := In p.pe 1 20 ∧ ((p.len = 0 ∧ p.hei = 0) ∨ CarOk p.len p.hei) ∧ ((p.cl = 0 ∧ p.all = false ∧ p.be = 0) ∨ CabOk p.cl p.all p.be)
instance (p : Party) : Decidable (PartyOk p) := by unfold PartyOk; exact inferInstance
def carFare (l h : Int) : Int := if CarOk l h then (if 600 < l then 90 + 25 * ((l - 600 + 99) / 100) else if 450 < l then 90 else 60) + (if 220 < h then 30 else 0) else 0
def berthFare (cl : Int) : Int := if cl = 1 then 30 else if cl = 2 then 50 else 80
def cabinFare (cl : Int) (all : Bool) (be : Int) : Int := if CabOk cl all be then (if all then 3 * berthFare cl else berthFare cl * be) else 0
/-- A twentieth less for many, a tenth less for three legs. -/
def lessOf (pe legs n : Int) : Int :=
  let a := if 8 ≤ pe then n - n / 20 else n
  if legs = 3 then a - a / 10 else a
def priceOf (p : Party) (legs : Int) : Int := lessOf p.pe legs (legs * (40 * p.pe + carFare p.len p.hei + cabinFare p.cl p.all p.be))
def PriceOk (p : Party) (legs : Int) : Prop := PartyOk p ∧ In legs 1 3
instance (p : Party) (legs : Int) : Decidable (PriceOk p legs) := by unfold PriceOk; exact inferInstance
def refundOf (price left : Int) : Int := if In price 0 1000000 ∧ In left (-10000) 10000 then (if 100 ≤ left then price else if 20 ≤ left then price / 2 else 0) else 0
theorem carFare_bounds (l h : Int) : 0 ≤ carFare l h ∧ carFare l h ≤ 500 := by
  unfold carFare
  by_cases c : CarOk l h
  · have h1 := c.1
    unfold In at h1
    rw [if_pos c]
    repeat' split
    all_goals omega
  · rw [if_neg c]; omega
theorem cabinFare_bounds (cl : Int) (all : Bool) (be : Int) : 0 ≤ cabinFare cl all be ∧ cabinFare cl all be ≤ 320 := by
  have hb : 30 ≤ berthFare cl ∧ berthFare cl ≤ 80 := by unfold berthFare; repeat' split <;> omega
  unfold cabinFare
  by_cases c : CabOk cl all be
  · rw [if_pos c]
    cases all with
    | true => simp; omega
    | false =>
      rcases c.2 with ⟨h, _⟩ | ⟨_, h⟩
      · cases h
      · unfold In at h
        have h4 : be = 1 ∨ be = 2 ∨ be = 3 ∨ be = 4 := by omega
        rcases h4 with rfl | rfl | rfl | rfl <;> simp <;> omega
  · rw [if_neg c]; omega

end Go.Proofs.YtfallpinmhbemaaGreatDoor

namespace Go.Proofs.YtfallpinmhbemaaGreatDoor
open Go.RowKit

/-- A cursor behind a store into a box that is neither the cursor nor where the bytes lie. -/
theorem CurIs.box {u : World} {cb n c a B : Nat} {ao : Option Addr} (h : CurIs u cb ao n c a) (h1 : cb ≠ B) (h2 : ∀ k, k < n → ∀ b off, ao = some ⟨b, off, none⟩ → b ≠ B) (i : Nat) (v : Value) : CurIs (u.setCell ⟨B, i, none⟩ v) cb ao n c a := by
  obtain ⟨⟨p, s, hp, hb⟩, hc⟩ := h
  refine ⟨⟨p, s, hp, blk_set_other hb i v h1⟩, fun k hk => ?_⟩
  obtain ⟨b, off, x, e, hne, hcell, g1, g2⟩ := hc k hk
  exact ⟨b, off, x, e, hne, (Kept.cellAt ((Kept.refl u (fun z => z = B)).set (a := ⟨B, i, none⟩) rfl v) hcell (h2 k hk b off e)), g1, g2⟩

/-- In the midst of a party's drawing: the cursor, the answer's box, the party's own box. -/
structure PSit (w u : World) (cb : Nat) (ao : Option Addr) (n c a pb : Nat) (x0 x1 x2 x3 : Int) (x4 : Bool) (x5 : Int) : Prop where
  cur : CurIs u cb ao n c a
  kept : Kept w u (fun b => b = cb)
  lt : w.heap.size < pb
  res : u.heap[w.heap.size]? = some (.cells #[.int .i64 0, .int .i64 0, .int .i64 0, .int .i64 0, .bool false, .int .i64 0] 25 (0, 0))
  box : u.heap[pb]? = some (.cells #[.int .i64 x0, .int .i64 x1, .int .i64 x2, .int .i64 x3, .bool x4, .int .i64 x5] 25 (0, 0))
theorem PSit.on {w u u' : World} {cb n c a a' pb : Nat} {ao : Option Addr} {x0 x1 x2 x3 : Int} {x4 : Bool} {x5 : Int} (h : PSit w u cb ao n c a pb x0 x1 x2 x3 x4 x5) (hcb : cb < w.heap.size) (hc : CurIs u' cb ao n c a') (hk : Kept u u' (fun b => b = cb)) : PSit w u' cb ao n c a' pb x0 x1 x2 x3 x4 x5 :=
  have h1 := h.lt
  ⟨hc, h.kept.trans hk, h.lt, hk.blk h.res (by omega), hk.blk h.box (by omega)⟩
theorem PSit.below {w u u' : World} {cb n c a pb : Nat} {ao : Option Addr} {x0 x1 x2 x3 : Int} {x4 : Bool} {x5 : Int} (h : PSit w u cb ao n c a pb x0 x1 x2 x3 x4 x5) (hb : Below u.heap.size u u') : PSit w u' cb ao n c a pb x0 x1 x2 x3 x4 x5 :=
  ⟨h.cur.below hb, h.kept.trans (Kept.of_below hb), h.lt, blk_below h.res hb, blk_below h.box hb⟩
theorem PSit.more {w u : World} {cb n c a a' pb : Nat} {ao : Option Addr} {x0 x1 x2 x3 : Int} {x4 : Bool} {x5 : Int} (h : PSit w u cb ao n c a pb x0 x1 x2 x3 x4 x5) (ha : a ≤ a') : PSit w u cb ao n c a' pb x0 x1 x2 x3 x4 x5 :=
  ⟨h.cur.more ha, h.kept, h.lt, h.res, h.box⟩
/-- What the bytes' block is not: it lies below the drawing's own memory. -/
def LowCode (w : World) (ao : Option Addr) (n : Nat) : Prop := ∀ k, k < n → ∀ b off, ao = some ⟨b, off, none⟩ → b < w.heap.size
theorem PSit.raw {w u : World} {cb n c a pb : Nat} {ao : Option Addr} {x0 x1 x2 x3 : Int} {x4 : Bool} {x5 : Int} (h : PSit w u cb ao n c a pb x0 x1 x2 x3 x4 x5) (hcb : cb < w.heap.size) (hl : LowCode w ao n) (i : Nat) (v : Value) :
    CurIs (u.setCell ⟨pb, i, none⟩ v) cb ao n c a ∧ Kept w (u.setCell ⟨pb, i, none⟩ v) (fun b => b = cb) ∧ (u.setCell ⟨pb, i, none⟩ v).heap[w.heap.size]? = some (.cells #[.int .i64 0, .int .i64 0, .int .i64 0, .int .i64 0, .bool false, .int .i64 0] 25 (0, 0)) := by
  have h1 := h.lt
  refine ⟨h.cur.box (by omega) (fun k hk b off e => by have := hl k hk b off e; omega) i v, ?_, blk_set_other h.res i v (by omega)⟩
  exact ⟨h.kept.os, h.kept.tape, h.kept.output, by rw [World.size_setCell]; exact h.kept.size, fun j hj hs => by
    rw [show (u.setCell ⟨pb, i, none⟩ v).heap[j]? = u.heap[j]? from by simp [World.setCell, Array.getElem?_modify]; intro e; omega]
    exact h.kept.block j hj hs⟩
theorem PSit.set0 {w u : World} {cb n c a pb : Nat} {ao : Option Addr} {x0 x1 x2 x3 : Int} {x4 : Bool} {x5 : Int} (h : PSit w u cb ao n c a pb x0 x1 x2 x3 x4 x5) (hcb : cb < w.heap.size) (hl : LowCode w ao n) (y : Int) : PSit w (u.setCell ⟨pb, 0, none⟩ (.int .i64 y)) cb ao n c a pb y x1 x2 x3 x4 x5 :=
  ⟨(h.raw hcb hl _ _).1, (h.raw hcb hl _ _).2.1, h.lt, (h.raw hcb hl _ _).2.2, blk_set h.box 0 _⟩
theorem PSit.set1 {w u : World} {cb n c a pb : Nat} {ao : Option Addr} {x0 x1 x2 x3 : Int} {x4 : Bool} {x5 : Int} (h : PSit w u cb ao n c a pb x0 x1 x2 x3 x4 x5) (hcb : cb < w.heap.size) (hl : LowCode w ao n) (y : Int) : PSit w (u.setCell ⟨pb, 1, none⟩ (.int .i64 y)) cb ao n c a pb x0 y x2 x3 x4 x5 :=
  ⟨(h.raw hcb hl _ _).1, (h.raw hcb hl _ _).2.1, h.lt, (h.raw hcb hl _ _).2.2, blk_set h.box 1 _⟩
theorem PSit.set2 {w u : World} {cb n c a pb : Nat} {ao : Option Addr} {x0 x1 x2 x3 : Int} {x4 : Bool} {x5 : Int} (h : PSit w u cb ao n c a pb x0 x1 x2 x3 x4 x5) (hcb : cb < w.heap.size) (hl : LowCode w ao n) (y : Int) : PSit w (u.setCell ⟨pb, 2, none⟩ (.int .i64 y)) cb ao n c a pb x0 x1 y x3 x4 x5 :=
  ⟨(h.raw hcb hl _ _).1, (h.raw hcb hl _ _).2.1, h.lt, (h.raw hcb hl _ _).2.2, blk_set h.box 2 _⟩
theorem PSit.set3 {w u : World} {cb n c a pb : Nat} {ao : Option Addr} {x0 x1 x2 x3 : Int} {x4 : Bool} {x5 : Int} (h : PSit w u cb ao n c a pb x0 x1 x2 x3 x4 x5) (hcb : cb < w.heap.size) (hl : LowCode w ao n) (y : Int) : PSit w (u.setCell ⟨pb, 3, none⟩ (.int .i64 y)) cb ao n c a pb x0 x1 x2 y x4 x5 :=
  ⟨(h.raw hcb hl _ _).1, (h.raw hcb hl _ _).2.1, h.lt, (h.raw hcb hl _ _).2.2, blk_set h.box 3 _⟩
theorem PSit.set4 {w u : World} {cb n c a pb : Nat} {ao : Option Addr} {x0 x1 x2 x3 : Int} {x4 : Bool} {x5 : Int} (h : PSit w u cb ao n c a pb x0 x1 x2 x3 x4 x5) (hcb : cb < w.heap.size) (hl : LowCode w ao n) (y : Bool) : PSit w (u.setCell ⟨pb, 4, none⟩ (.bool y)) cb ao n c a pb x0 x1 x2 x3 y x5 :=
  ⟨(h.raw hcb hl _ _).1, (h.raw hcb hl _ _).2.1, h.lt, (h.raw hcb hl _ _).2.2, blk_set h.box 4 _⟩
theorem PSit.set5 {w u : World} {cb n c a pb : Nat} {ao : Option Addr} {x0 x1 x2 x3 : Int} {x4 : Bool} {x5 : Int} (h : PSit w u cb ao n c a pb x0 x1 x2 x3 x4 x5) (hcb : cb < w.heap.size) (hl : LowCode w ao n) (y : Int) : PSit w (u.setCell ⟨pb, 5, none⟩ (.int .i64 y)) cb ao n c a pb x0 x1 x2 x3 x4 y :=
  ⟨(h.raw hcb hl _ _).1, (h.raw hcb hl _ _).2.1, h.lt, (h.raw hcb hl _ _).2.2, blk_set h.box 5 _⟩

theorem kept_far {w u : World} {S : Nat → Prop} {b : Nat} (h : Kept w u S) (hb : w.heap.size ≤ b) (i : Nat) (v : Value) : Kept w (u.setCell ⟨b, i, none⟩ v) S :=
  ⟨h.os, h.tape, h.output, by rw [World.size_setCell]; exact h.size, fun j hj hs => by
    rw [show (u.setCell ⟨b, i, none⟩ v).heap[j]? = u.heap[j]? from by simp [World.setCell, Array.getElem?_modify]; intro e; omega]
    exact h.block j hj hs⟩
theorem party_end {w u : World} {cb n c a pb : Nat} {ao : Option Addr} {x0 x1 x2 x3 : Int} {x4 : Bool} {x5 : Int} (h : PSit w u cb ao n c a pb x0 x1 x2 x3 x4 x5) (hcb : cb < w.heap.size) (hl : LowCode w ao n) :
    CurIs ((((((u.setCell ⟨w.heap.size, 0, none⟩ (.int .i64 x0)).setCell ⟨w.heap.size, 1, none⟩ (.int .i64 x1)).setCell ⟨w.heap.size, 2, none⟩ (.int .i64 x2)).setCell ⟨w.heap.size, 3, none⟩ (.int .i64 x3)).setCell ⟨w.heap.size, 4, none⟩ (.bool x4)).setCell ⟨w.heap.size, 5, none⟩ (.int .i64 x5)) cb ao n c a ∧
    Kept w ((((((u.setCell ⟨w.heap.size, 0, none⟩ (.int .i64 x0)).setCell ⟨w.heap.size, 1, none⟩ (.int .i64 x1)).setCell ⟨w.heap.size, 2, none⟩ (.int .i64 x2)).setCell ⟨w.heap.size, 3, none⟩ (.int .i64 x3)).setCell ⟨w.heap.size, 4, none⟩ (.bool x4)).setCell ⟨w.heap.size, 5, none⟩ (.int .i64 x5)) (fun b => b = cb) ∧
    ((((((u.setCell ⟨w.heap.size, 0, none⟩ (.int .i64 x0)).setCell ⟨w.heap.size, 1, none⟩ (.int .i64 x1)).setCell ⟨w.heap.size, 2, none⟩ (.int .i64 x2)).setCell ⟨w.heap.size, 3, none⟩ (.int .i64 x3)).setCell ⟨w.heap.size, 4, none⟩ (.bool x4)).setCell ⟨w.heap.size, 5, none⟩ (.int .i64 x5)).heap[w.heap.size]? = some (.cells #[.int .i64 x0, .int .i64 x1, .int .i64 x2, .int .i64 x3, .bool x4, .int .i64 x5] 25 (0, 0)) := by
  have h1 : cb ≠ w.heap.size := by omega
  have h2 : ∀ k, k < n → ∀ b off, ao = some ⟨b, off, none⟩ → b ≠ w.heap.size := fun k hk b off e => by have := hl k hk b off e; omega
  refine ⟨(((((h.cur.box h1 h2 0 _).box h1 h2 1 _).box h1 h2 2 _).box h1 h2 3 _).box h1 h2 4 _).box h1 h2 5 _, ?_, ?_⟩
  · exact kept_far (kept_far (kept_far (kept_far (kept_far (kept_far h.kept (Nat.le_refl _) _ _) (Nat.le_refl _) _ _) (Nat.le_refl _) _ _) (Nat.le_refl _) _ _) (Nat.le_refl _) _ _) (Nat.le_refl _) _ _
  · exact blk_set (blk_set (blk_set (blk_set (blk_set (blk_set h.res 0 _) 1 _) 2 _) 3 _) 4 _) 5 _

set_option maxHeartbeats 3200000 in
set_option maxRecDepth 100000 in
theorem party_any (cb : Nat) (ao : Option Addr) (n c a : Nat) (w : World) (ha : a ≤ 700000000000000000) (h : CurIs w cb ao n c a) :
    Calls Tryz.prog 75 #[.pointer (some ⟨cb, 0, none⟩)] w fun e w' => (∃ (x0 x1 x2 x3 : Int) (x4 : Bool) (x5 : Int), e = .returned (.agg #[.int .i64 x0, .int .i64 x1, .int .i64 x2, .int .i64 x3, .bool x4, .int .i64 x5])) ∧ CurIs w' cb ao n c (a + 40) ∧ Kept w w' (fun b => b = cb) := by
  have hcb := h.lt
  have HL : Hid (LowCode w ao n) := h.code_lt
  go_enter Tryz.func75, Tryz.ntmps75
  go_wp2_with fail
  have hA : CurIs (w.alloc (.cells #[.int .i64 0, .int .i64 0, .int .i64 0, .int .i64 0, .bool false, .int .i64 0] 25)) cb ao n c a := h.below (push (Below.refl _ _) _)
  have hkA : Kept w (w.alloc (.cells #[.int .i64 0, .int .i64 0, .int .i64 0, .int .i64 0, .bool false, .int .i64 0] 25)) (fun b => b = cb) := Kept.of_below (push (Below.refl _ _) _)
  have hrA := heap_alloc_new w (.cells #[.int .i64 0, .int .i64 0, .int .i64 0, .int .i64 0, .bool false, .int .i64 0] 25)
  have hsA : (w.alloc (.cells #[.int .i64 0, .int .i64 0, .int .i64 0, .int .i64 0, .bool false, .int .i64 0] 25)).heap.size = w.heap.size + 1 := by simp
  generalize w.alloc (.cells #[.int .i64 0, .int .i64 0, .int .i64 0, .int .i64 0, .bool false, .int .i64 0] 25) = wA at hA hkA hrA hsA ⊢
  refine (pick_any cb ao n c a 5 _ (by omega) (by omega) (by omega) hA).mono ?_
  rintro e w1 ⟨⟨r, rfl, hr⟩, hc1, hk1⟩
  have hwr : IntKind.i64.wrap (1 + (r : Int)) = 1 + (r : Int) := by rw [IntKind.wrap_i64]; omega
  have hr1 := hk1.blk hrA (by omega)
  have hs1 := hk1.size
  have hk1' := hkA.trans hk1
  clear h hA hkA hrA hk1
  go_wp2_with fail
  have hP : PSit w (w1.alloc (.cells #[.int .i64 (1 + (r : Int)), .int .i64 0, .int .i64 0, .int .i64 0, .bool false, .int .i64 0] 25)) cb ao n c (a + 2) w1.heap.size (1 + (r : Int)) 0 0 0 false 0 := ⟨hc1.below (push (Below.refl _ _) _), hk1'.trans (Kept.of_below (push (Below.refl _ _) _)), by omega, blk_alloc hr1 _, heap_alloc_new _ _⟩
  generalize w1.alloc (.cells #[.int .i64 (1 + (r : Int)), .int .i64 0, .int .i64 0, .int .i64 0, .bool false, .int .i64 0] 25) = u0 at hP ⊢
  clear hc1 hr1 hs1 hk1' hsA
  generalize w1.heap.size = pb at hP ⊢
  generalize (1 + (r : Int)) = x0 at hP ⊢
  clear hwr hr
  refine (one_any cb ao n c (a + 2) 2 _ (by omega) (by omega) (by omega) hP.cur).mono ?_
  rintro e u1 ⟨⟨q, rfl⟩, hcN, hkN⟩
  have hP1 := hP.on hcb hcN hkN
  clear hP hcN hkN
  go_upto_if 9 with fail
  go_cut [] (fun wx => ∃ y1 y2 : Int, PSit w wx cb ao n c (a + 8) pb x0 y1 y2 0 false 0)
  case first =>
    cases q with
    | false =>
      go_wp2
      go_meet
      exact ⟨0, 0, hP1.more (by omega)⟩
    | true =>
      go_wp2_with fail
      refine (pick_any cb ao n c (a + 2 + 2) 16 _ (by omega) (by omega) (by omega) hP1.cur).mono ?_
      rintro e u2 ⟨⟨r1, rfl, hr1⟩, hcN, hkN⟩
      have hP2 := hP1.on hcb hcN hkN
      clear hP1 hcN hkN
      have wa : IntKind.i64.wrap (50 * (r1 : Int)) = 50 * (r1 : Int) := by rw [IntKind.wrap_i64]; omega
      have wb : IntKind.i64.wrap (100 + 50 * (r1 : Int)) = 100 + 50 * (r1 : Int) := by rw [IntKind.wrap_i64]; omega
      have g1 := blk_cell hP2.box 1 _ rfl
      have f1 := blk_free hP2.box 1
      go_wp2_with fail
      have hP3 := hP2.set1 hcb HL.out (100 + 50 * (r1 : Int))
      clear hP2
      generalize u2.setCell ⟨pb, 1, none⟩ (.int .i64 (100 + 50 * (r1 : Int))) = u3 at hP3 ⊢
      clear g1 f1 wa wb
      refine (pick_any cb ao n c (a + 2 + 2 + 2) 5 _ (by omega) (by omega) (by omega) hP3.cur).mono ?_
      rintro e u4 ⟨⟨r2, rfl, hr2⟩, hcN, hkN⟩
      have hP4 := hP3.on hcb hcN hkN
      clear hP3 hcN hkN
      have wa : IntKind.i64.wrap (50 * (r2 : Int)) = 50 * (r2 : Int) := by rw [IntKind.wrap_i64]; omega
      have wb : IntKind.i64.wrap (150 + 50 * (r2 : Int)) = 150 + 50 * (r2 : Int) := by rw [IntKind.wrap_i64]; omega
      have g2 := blk_cell hP4.box 2 _ rfl
      have f2 := blk_free hP4.box 2
      go_wp2
      go_meet
      exact ⟨_, _, (hP4.set2 hcb HL.out _).more (by omega)⟩
  case rest =>
    obtain ⟨y1, y2, hP5⟩ := hcut
    clear hP1
    go_wp2_with fail
    refine (one_any cb ao n c (a + 8) 2 _ (by omega) (by omega) (by omega) hP5.cur).mono ?_
    rintro e u6 ⟨⟨q2, rfl⟩, hcN, hkN⟩
    have hP6 := hP5.on hcb hcN hkN
    clear hP5 hcN hkN
    go_upto_if 21 with fail
    go_cut [] (fun wx => ∃ (y3 : Int) (y4 : Bool) (y5 : Int), PSit w wx cb ao n c (a + 16) pb x0 y1 y2 y3 y4 y5)
    case first =>
      cases q2 with
      | false =>
        go_wp2
        go_meet
        exact ⟨0, false, 0, hP6.more (by omega)⟩
      | true =>
        go_wp2_with fail
        refine (pick_any cb ao n c (a + 8 + 2) 2 _ (by omega) (by omega) (by omega) hP6.cur).mono ?_
        rintro e u7 ⟨⟨r3, rfl, hr3⟩, hcN, hkN⟩
        have hP7 := hP6.on hcb hcN hkN
        clear hP6 hcN hkN
        have wa : IntKind.i64.wrap (1 + (r3 : Int)) = 1 + (r3 : Int) := by rw [IntKind.wrap_i64]; omega
        have g3 := blk_cell hP7.box 3 _ rfl
        have f3 := blk_free hP7.box 3
        go_wp2_with fail
        have hP8 := hP7.set3 hcb HL.out (1 + (r3 : Int))
        clear hP7
        generalize u7.setCell ⟨pb, 3, none⟩ (.int .i64 (1 + (r3 : Int))) = u8 at hP8 ⊢
        clear g3 f3 wa
        refine (one_any cb ao n c (a + 8 + 2 + 2) 2 _ (by omega) (by omega) (by omega) hP8.cur).mono ?_
        rintro e u9 ⟨⟨q3, rfl⟩, hcN, hkN⟩
        have hP9 := hP8.on hcb hcN hkN
        clear hP8 hcN hkN
        have g4 := blk_cell hP9.box 4 _ rfl
        have f4 := blk_free hP9.box 4
        have hP10 := hP9.set4 hcb HL.out q3
        have g4' := blk_cell hP10.box 4 _ rfl
        cases q3 with
        | true =>
          go_wp2
          go_meet
          exact ⟨_, _, _, hP10.more (by omega)⟩
        | false =>
          go_wp2_with fail
          clear hP9 g4 f4 g4'
          generalize u9.setCell ⟨pb, 4, none⟩ (.bool false) = u10 at hP10 ⊢
          refine (pick_any cb ao n c (a + 8 + 2 + 2 + 2) 3 _ (by omega) (by omega) (by omega) hP10.cur).mono ?_
          rintro e u11 ⟨⟨r4, rfl, hr4⟩, hcN, hkN⟩
          have hP11 := hP10.on hcb hcN hkN
          clear hP10 hcN hkN
          have wa : IntKind.i64.wrap (1 + (r4 : Int)) = 1 + (r4 : Int) := by rw [IntKind.wrap_i64]; omega
          have g5 := blk_cell hP11.box 5 _ rfl
          have f5 := blk_free hP11.box 5
          go_wp2
          go_meet
          exact ⟨_, _, _, (hP11.set5 hcb HL.out _).more (by omega)⟩
    case rest =>
      obtain ⟨y3, y4, y5, hP12⟩ := hcut
      clear hP6
      go_wp2_with fail
      refine (one_any cb ao n c (a + 16) 8 _ (by omega) (by omega) (by omega) hP12.cur).mono ?_
      rintro e u13 ⟨⟨q4, rfl⟩, hcN, hkN⟩
      have hP13 := hP12.on hcb hcN hkN
      clear hP12 hcN hkN
      go_upto_if 37 with fail
      go_cut [] (fun wx => ∃ (y0 : Int), PSit w wx cb ao n c (a + 20) pb y0 y1 y2 y3 y4 y5)
      case first =>
        cases q4 with
        | false =>
          go_wp2
          go_meet
          exact ⟨x0, hP13.more (by omega)⟩
        | true =>
          go_wp2_with fail
          refine (pick_any cb ao n c (a + 16 + 2) 20 _ (by omega) (by omega) (by omega) hP13.cur).mono ?_
          rintro e u14 ⟨⟨r5, rfl, hr5⟩, hcN, hkN⟩
          have hP14 := hP13.on hcb hcN hkN
          clear hP13 hcN hkN
          have wa : IntKind.i64.wrap (1 + (r5 : Int)) = 1 + (r5 : Int) := by rw [IntKind.wrap_i64]; omega
          have g0 := blk_cell hP14.box 0 _ rfl
          have f0 := blk_free hP14.box 0
          go_wp2
          go_meet
          exact ⟨_, (hP14.set0 hcb HL.out _).more (by omega)⟩
      case rest =>
        obtain ⟨y0, hP15⟩ := hcut
        clear hP13
        go_wp2_with fail
        refine (pick_any cb ao n c (a + 20) 60 _ (by omega) (by omega) (by omega) hP15.cur).mono ?_
        rintro e u16 ⟨⟨r6, rfl, hr6⟩, hcN, hkN⟩
        have hP16 := hP15.on hcb hcN hkN
        clear hP15 hcN hkN
        have HC : Hid (∀ k : Nat, r6 = k → True) := fun _ _ => trivial
        clear HC
        by_cases c0 : r6 = 0
        · subst c0
          go_wp2_with fail
          have hB := hP16.below (push (Below.refl _ _) (.cells ([0, 20, 21].map (fun x => Value.int .i64 x)).toArray 3))
          have hlt := hP16.cur.lt
          refine (amongL cb ao n c (a + 20 + 2) 3 [0, 20, 21] _ rfl (by omega) (by omega) (by omega) hB.cur u16.heap.size (heap_alloc_new u16 _) (by omega)).mono ?_
          rintro e u17 ⟨⟨x, rfl⟩, hcN, hkN⟩
          have hP17 := hB.on hcb hcN hkN
          clear hP16 hB hlt hcN hkN
          have g0 := blk_cell hP17.box 0 _ rfl
          have f0 := blk_free hP17.box 0
          go_upto_region 23 with fail
          have hP18 := hP17.set0 hcb HL.out (x)
          clear hP17
          generalize u17.setCell ⟨pb, 0, none⟩ (.int .i64 (x)) = u18 at hP18 ⊢
          clear g0 f0
          have k0 := blk_cell hP18.box 0 _ rfl
          have k1 := blk_cell hP18.box 1 _ rfl
          have k2 := blk_cell hP18.box 2 _ rfl
          have k3 := blk_cell hP18.box 3 _ rfl
          have k4 := blk_cell hP18.box 4 _ rfl
          have k5 := blk_cell hP18.box 5 _ rfl
          have m0 := blk_cell hP18.res 0 _ rfl
          have m1 := blk_cell hP18.res 1 _ rfl
          have m2 := blk_cell hP18.res 2 _ rfl
          have m3 := blk_cell hP18.res 3 _ rfl
          have m4 := blk_cell hP18.res 4 _ rfl
          have m5 := blk_cell hP18.res 5 _ rfl
          have fr0 := blk_free hP18.res 0
          have fr1 := blk_free hP18.res 1
          have fr2 := blk_free hP18.res 2
          have fr3 := blk_free hP18.res 3
          have fr4 := blk_free hP18.res 4
          have fr5 := blk_free hP18.res 5
          have HP : Hid (PSit w u18 cb ao n c _ pb _ _ _ _ _ _) := hP18
          clear hP18
          go_wp2
          clear k0 k1 k2 k3 k4 k5 m0 m1 m2 m3 m4 m5 fr0 fr1 fr2 fr3 fr4 fr5
          have HE := party_end HP.out hcb HL.out
          generalize ((((((u18.setCell ⟨w.heap.size, 0, none⟩ (.int .i64 x)).setCell ⟨w.heap.size, 1, none⟩ (.int .i64 y1)).setCell ⟨w.heap.size, 2, none⟩ (.int .i64 y2)).setCell ⟨w.heap.size, 3, none⟩ (.int .i64 y3)).setCell ⟨w.heap.size, 4, none⟩ (.bool y4)).setCell ⟨w.heap.size, 5, none⟩ (.int .i64 y5)) = U at HE ⊢
          have z0 := blk_cell HE.2.2 0 _ rfl
          have z1 := blk_cell HE.2.2 1 _ rfl
          have z2 := blk_cell HE.2.2 2 _ rfl
          have z3 := blk_cell HE.2.2 3 _ rfl
          have z4 := blk_cell HE.2.2 4 _ rfl
          have z5 := blk_cell HE.2.2 5 _ rfl
          exact bodyPost_ret (v := .agg #[.int .i64 x, .int .i64 y1, .int .i64 y2, .int .i64 y3, .bool y4, .int .i64 y5]) (by simp [results, Tryz.results75, go_sem, z0, z1, z2, z3, z4, z5]) rfl ⟨⟨_, _, _, _, _, _, rfl⟩, HE.1.more (by omega), HE.2.1⟩
        · have d0 : ((r6 : Int) == 0) = false := by simpa using (show ¬ (r6 : Int) = 0 by omega)
          by_cases c1 : r6 = 1
          · subst c1
            go_wp2_with fail
            have hB := hP16.below (push (Below.refl _ _) (.cells ([-1, 0, 2000, 2001].map (fun x => Value.int .i64 x)).toArray 3))
            have hlt := hP16.cur.lt
            refine (amongL cb ao n c (a + 20 + 2) 4 [-1, 0, 2000, 2001] _ rfl (by omega) (by omega) (by omega) hB.cur u16.heap.size (heap_alloc_new u16 _) (by omega)).mono ?_
            rintro e u17 ⟨⟨x, rfl⟩, hcN, hkN⟩
            have hP17 := hB.on hcb hcN hkN
            clear hP16 hB hlt hcN hkN
            have g1 := blk_cell hP17.box 1 _ rfl
            have f1 := blk_free hP17.box 1
            go_upto_region 23 with fail
            have hP18 := hP17.set1 hcb HL.out (x)
            clear hP17
            generalize u17.setCell ⟨pb, 1, none⟩ (.int .i64 (x)) = u18 at hP18 ⊢
            clear g1 f1
            have k0 := blk_cell hP18.box 0 _ rfl
            have k1 := blk_cell hP18.box 1 _ rfl
            have k2 := blk_cell hP18.box 2 _ rfl
            have k3 := blk_cell hP18.box 3 _ rfl
            have k4 := blk_cell hP18.box 4 _ rfl
            have k5 := blk_cell hP18.box 5 _ rfl
            have m0 := blk_cell hP18.res 0 _ rfl
            have m1 := blk_cell hP18.res 1 _ rfl
            have m2 := blk_cell hP18.res 2 _ rfl
            have m3 := blk_cell hP18.res 3 _ rfl
            have m4 := blk_cell hP18.res 4 _ rfl
            have m5 := blk_cell hP18.res 5 _ rfl
            have fr0 := blk_free hP18.res 0
            have fr1 := blk_free hP18.res 1
            have fr2 := blk_free hP18.res 2
            have fr3 := blk_free hP18.res 3
            have fr4 := blk_free hP18.res 4
            have fr5 := blk_free hP18.res 5
            have HP : Hid (PSit w u18 cb ao n c _ pb _ _ _ _ _ _) := hP18
            clear hP18
            go_wp2
            clear k0 k1 k2 k3 k4 k5 m0 m1 m2 m3 m4 m5 fr0 fr1 fr2 fr3 fr4 fr5
            have HE := party_end HP.out hcb HL.out
            generalize ((((((u18.setCell ⟨w.heap.size, 0, none⟩ (.int .i64 y0)).setCell ⟨w.heap.size, 1, none⟩ (.int .i64 x)).setCell ⟨w.heap.size, 2, none⟩ (.int .i64 y2)).setCell ⟨w.heap.size, 3, none⟩ (.int .i64 y3)).setCell ⟨w.heap.size, 4, none⟩ (.bool y4)).setCell ⟨w.heap.size, 5, none⟩ (.int .i64 y5)) = U at HE ⊢
            have z0 := blk_cell HE.2.2 0 _ rfl
            have z1 := blk_cell HE.2.2 1 _ rfl
            have z2 := blk_cell HE.2.2 2 _ rfl
            have z3 := blk_cell HE.2.2 3 _ rfl
            have z4 := blk_cell HE.2.2 4 _ rfl
            have z5 := blk_cell HE.2.2 5 _ rfl
            exact bodyPost_ret (v := .agg #[.int .i64 y0, .int .i64 x, .int .i64 y2, .int .i64 y3, .bool y4, .int .i64 y5]) (by simp [results, Tryz.results75, go_sem, z0, z1, z2, z3, z4, z5]) rfl ⟨⟨_, _, _, _, _, _, rfl⟩, HE.1.more (by omega), HE.2.1⟩
          · have d1 : ((r6 : Int) == 1) = false := by simpa using (show ¬ (r6 : Int) = 1 by omega)
            by_cases c2 : r6 = 2
            · subst c2
              go_wp2_with fail
              have hB := hP16.below (push (Below.refl _ _) (.cells ([-1, 0, 500, 501].map (fun x => Value.int .i64 x)).toArray 3))
              have hlt := hP16.cur.lt
              refine (amongL cb ao n c (a + 20 + 2) 4 [-1, 0, 500, 501] _ rfl (by omega) (by omega) (by omega) hB.cur u16.heap.size (heap_alloc_new u16 _) (by omega)).mono ?_
              rintro e u17 ⟨⟨x, rfl⟩, hcN, hkN⟩
              have hP17 := hB.on hcb hcN hkN
              clear hP16 hB hlt hcN hkN
              have g2 := blk_cell hP17.box 2 _ rfl
              have f2 := blk_free hP17.box 2
              go_upto_region 23 with fail
              have hP18 := hP17.set2 hcb HL.out (x)
              clear hP17
              generalize u17.setCell ⟨pb, 2, none⟩ (.int .i64 (x)) = u18 at hP18 ⊢
              clear g2 f2
              have k0 := blk_cell hP18.box 0 _ rfl
              have k1 := blk_cell hP18.box 1 _ rfl
              have k2 := blk_cell hP18.box 2 _ rfl
              have k3 := blk_cell hP18.box 3 _ rfl
              have k4 := blk_cell hP18.box 4 _ rfl
              have k5 := blk_cell hP18.box 5 _ rfl
              have m0 := blk_cell hP18.res 0 _ rfl
              have m1 := blk_cell hP18.res 1 _ rfl
              have m2 := blk_cell hP18.res 2 _ rfl
              have m3 := blk_cell hP18.res 3 _ rfl
              have m4 := blk_cell hP18.res 4 _ rfl
              have m5 := blk_cell hP18.res 5 _ rfl
              have fr0 := blk_free hP18.res 0
              have fr1 := blk_free hP18.res 1
              have fr2 := blk_free hP18.res 2
              have fr3 := blk_free hP18.res 3
              have fr4 := blk_free hP18.res 4
              have fr5 := blk_free hP18.res 5
              have HP : Hid (PSit w u18 cb ao n c _ pb _ _ _ _ _ _) := hP18
              clear hP18
              go_wp2
              clear k0 k1 k2 k3 k4 k5 m0 m1 m2 m3 m4 m5 fr0 fr1 fr2 fr3 fr4 fr5
              have HE := party_end HP.out hcb HL.out
              generalize ((((((u18.setCell ⟨w.heap.size, 0, none⟩ (.int .i64 y0)).setCell ⟨w.heap.size, 1, none⟩ (.int .i64 y1)).setCell ⟨w.heap.size, 2, none⟩ (.int .i64 x)).setCell ⟨w.heap.size, 3, none⟩ (.int .i64 y3)).setCell ⟨w.heap.size, 4, none⟩ (.bool y4)).setCell ⟨w.heap.size, 5, none⟩ (.int .i64 y5)) = U at HE ⊢
              have z0 := blk_cell HE.2.2 0 _ rfl
              have z1 := blk_cell HE.2.2 1 _ rfl
              have z2 := blk_cell HE.2.2 2 _ rfl
              have z3 := blk_cell HE.2.2 3 _ rfl
              have z4 := blk_cell HE.2.2 4 _ rfl
              have z5 := blk_cell HE.2.2 5 _ rfl
              exact bodyPost_ret (v := .agg #[.int .i64 y0, .int .i64 y1, .int .i64 x, .int .i64 y3, .bool y4, .int .i64 y5]) (by simp [results, Tryz.results75, go_sem, z0, z1, z2, z3, z4, z5]) rfl ⟨⟨_, _, _, _, _, _, rfl⟩, HE.1.more (by omega), HE.2.1⟩
            · have d2 : ((r6 : Int) == 2) = false := by simpa using (show ¬ (r6 : Int) = 2 by omega)
              by_cases c3 : r6 = 3
              · subst c3
                go_wp2_with fail
                have hB := hP16.below (push (Below.refl _ _) (.cells ([-1, 0, 3, 4].map (fun x => Value.int .i64 x)).toArray 3))
                have hlt := hP16.cur.lt
                refine (amongL cb ao n c (a + 20 + 2) 4 [-1, 0, 3, 4] _ rfl (by omega) (by omega) (by omega) hB.cur u16.heap.size (heap_alloc_new u16 _) (by omega)).mono ?_
                rintro e u17 ⟨⟨x, rfl⟩, hcN, hkN⟩
                have hP17 := hB.on hcb hcN hkN
                clear hP16 hB hlt hcN hkN
                have g3 := blk_cell hP17.box 3 _ rfl
                have f3 := blk_free hP17.box 3
                go_upto_region 23 with fail
                have hP18 := hP17.set3 hcb HL.out (x)
                clear hP17
                generalize u17.setCell ⟨pb, 3, none⟩ (.int .i64 (x)) = u18 at hP18 ⊢
                clear g3 f3
                have k0 := blk_cell hP18.box 0 _ rfl
                have k1 := blk_cell hP18.box 1 _ rfl
                have k2 := blk_cell hP18.box 2 _ rfl
                have k3 := blk_cell hP18.box 3 _ rfl
                have k4 := blk_cell hP18.box 4 _ rfl
                have k5 := blk_cell hP18.box 5 _ rfl
                have m0 := blk_cell hP18.res 0 _ rfl
                have m1 := blk_cell hP18.res 1 _ rfl
                have m2 := blk_cell hP18.res 2 _ rfl
                have m3 := blk_cell hP18.res 3 _ rfl
                have m4 := blk_cell hP18.res 4 _ rfl
                have m5 := blk_cell hP18.res 5 _ rfl
                have fr0 := blk_free hP18.res 0
                have fr1 := blk_free hP18.res 1
                have fr2 := blk_free hP18.res 2
                have fr3 := blk_free hP18.res 3
                have fr4 := blk_free hP18.res 4
                have fr5 := blk_free hP18.res 5
                have HP : Hid (PSit w u18 cb ao n c _ pb _ _ _ _ _ _) := hP18
                clear hP18
                go_wp2
                clear k0 k1 k2 k3 k4 k5 m0 m1 m2 m3 m4 m5 fr0 fr1 fr2 fr3 fr4 fr5
                have HE := party_end HP.out hcb HL.out
                generalize ((((((u18.setCell ⟨w.heap.size, 0, none⟩ (.int .i64 y0)).setCell ⟨w.heap.size, 1, none⟩ (.int .i64 y1)).setCell ⟨w.heap.size, 2, none⟩ (.int .i64 y2)).setCell ⟨w.heap.size, 3, none⟩ (.int .i64 x)).setCell ⟨w.heap.size, 4, none⟩ (.bool y4)).setCell ⟨w.heap.size, 5, none⟩ (.int .i64 y5)) = U at HE ⊢
                have z0 := blk_cell HE.2.2 0 _ rfl
                have z1 := blk_cell HE.2.2 1 _ rfl
                have z2 := blk_cell HE.2.2 2 _ rfl
                have z3 := blk_cell HE.2.2 3 _ rfl
                have z4 := blk_cell HE.2.2 4 _ rfl
                have z5 := blk_cell HE.2.2 5 _ rfl
                exact bodyPost_ret (v := .agg #[.int .i64 y0, .int .i64 y1, .int .i64 y2, .int .i64 x, .bool y4, .int .i64 y5]) (by simp [results, Tryz.results75, go_sem, z0, z1, z2, z3, z4, z5]) rfl ⟨⟨_, _, _, _, _, _, rfl⟩, HE.1.more (by omega), HE.2.1⟩
              · have d3 : ((r6 : Int) == 3) = false := by simpa using (show ¬ (r6 : Int) = 3 by omega)
                by_cases c4 : r6 = 4
                · subst c4
                  go_wp2_with fail
                  have hB := hP16.below (push (Below.refl _ _) (.cells ([-1, 0, 4, 5].map (fun x => Value.int .i64 x)).toArray 3))
                  have hlt := hP16.cur.lt
                  refine (amongL cb ao n c (a + 20 + 2) 4 [-1, 0, 4, 5] _ rfl (by omega) (by omega) (by omega) hB.cur u16.heap.size (heap_alloc_new u16 _) (by omega)).mono ?_
                  rintro e u17 ⟨⟨x, rfl⟩, hcN, hkN⟩
                  have hP17 := hB.on hcb hcN hkN
                  clear hP16 hB hlt hcN hkN
                  have g5 := blk_cell hP17.box 5 _ rfl
                  have f5 := blk_free hP17.box 5
                  go_upto_region 23 with fail
                  have hP18 := hP17.set5 hcb HL.out (x)
                  clear hP17
                  generalize u17.setCell ⟨pb, 5, none⟩ (.int .i64 (x)) = u18 at hP18 ⊢
                  clear g5 f5
                  have k0 := blk_cell hP18.box 0 _ rfl
                  have k1 := blk_cell hP18.box 1 _ rfl
                  have k2 := blk_cell hP18.box 2 _ rfl
                  have k3 := blk_cell hP18.box 3 _ rfl
                  have k4 := blk_cell hP18.box 4 _ rfl
                  have k5 := blk_cell hP18.box 5 _ rfl
                  have m0 := blk_cell hP18.res 0 _ rfl
                  have m1 := blk_cell hP18.res 1 _ rfl
                  have m2 := blk_cell hP18.res 2 _ rfl
                  have m3 := blk_cell hP18.res 3 _ rfl
                  have m4 := blk_cell hP18.res 4 _ rfl
                  have m5 := blk_cell hP18.res 5 _ rfl
                  have fr0 := blk_free hP18.res 0
                  have fr1 := blk_free hP18.res 1
                  have fr2 := blk_free hP18.res 2
                  have fr3 := blk_free hP18.res 3
                  have fr4 := blk_free hP18.res 4
                  have fr5 := blk_free hP18.res 5
                  have HP : Hid (PSit w u18 cb ao n c _ pb _ _ _ _ _ _) := hP18
                  clear hP18
                  go_wp2
                  clear k0 k1 k2 k3 k4 k5 m0 m1 m2 m3 m4 m5 fr0 fr1 fr2 fr3 fr4 fr5
                  have HE := party_end HP.out hcb HL.out
                  generalize ((((((u18.setCell ⟨w.heap.size, 0, none⟩ (.int .i64 y0)).setCell ⟨w.heap.size, 1, none⟩ (.int .i64 y1)).setCell ⟨w.heap.size, 2, none⟩ (.int .i64 y2)).setCell ⟨w.heap.size, 3, none⟩ (.int .i64 y3)).setCell ⟨w.heap.size, 4, none⟩ (.bool y4)).setCell ⟨w.heap.size, 5, none⟩ (.int .i64 x)) = U at HE ⊢
                  have z0 := blk_cell HE.2.2 0 _ rfl
                  have z1 := blk_cell HE.2.2 1 _ rfl
                  have z2 := blk_cell HE.2.2 2 _ rfl
                  have z3 := blk_cell HE.2.2 3 _ rfl
                  have z4 := blk_cell HE.2.2 4 _ rfl
                  have z5 := blk_cell HE.2.2 5 _ rfl
                  exact bodyPost_ret (v := .agg #[.int .i64 y0, .int .i64 y1, .int .i64 y2, .int .i64 y3, .bool y4, .int .i64 x]) (by simp [results, Tryz.results75, go_sem, z0, z1, z2, z3, z4, z5]) rfl ⟨⟨_, _, _, _, _, _, rfl⟩, HE.1.more (by omega), HE.2.1⟩
                · have d4 : ((r6 : Int) == 4) = false := by simpa using (show ¬ (r6 : Int) = 4 by omega)
                  clear c0 c1 c2 c3 c4
                  have k0 := blk_cell hP16.box 0 _ rfl
                  have k1 := blk_cell hP16.box 1 _ rfl
                  have k2 := blk_cell hP16.box 2 _ rfl
                  have k3 := blk_cell hP16.box 3 _ rfl
                  have k4 := blk_cell hP16.box 4 _ rfl
                  have k5 := blk_cell hP16.box 5 _ rfl
                  have m0 := blk_cell hP16.res 0 _ rfl
                  have m1 := blk_cell hP16.res 1 _ rfl
                  have m2 := blk_cell hP16.res 2 _ rfl
                  have m3 := blk_cell hP16.res 3 _ rfl
                  have m4 := blk_cell hP16.res 4 _ rfl
                  have m5 := blk_cell hP16.res 5 _ rfl
                  have fr0 := blk_free hP16.res 0
                  have fr1 := blk_free hP16.res 1
                  have fr2 := blk_free hP16.res 2
                  have fr3 := blk_free hP16.res 3
                  have fr4 := blk_free hP16.res 4
                  have fr5 := blk_free hP16.res 5
                  have HP : Hid (PSit w u16 cb ao n c _ pb _ _ _ _ _ _) := hP16
                  clear hP16
                  go_wp2
                  clear k0 k1 k2 k3 k4 k5 m0 m1 m2 m3 m4 m5 fr0 fr1 fr2 fr3 fr4 fr5
                  have HE := party_end HP.out hcb HL.out
                  generalize ((((((u16.setCell ⟨w.heap.size, 0, none⟩ (.int .i64 y0)).setCell ⟨w.heap.size, 1, none⟩ (.int .i64 y1)).setCell ⟨w.heap.size, 2, none⟩ (.int .i64 y2)).setCell ⟨w.heap.size, 3, none⟩ (.int .i64 y3)).setCell ⟨w.heap.size, 4, none⟩ (.bool y4)).setCell ⟨w.heap.size, 5, none⟩ (.int .i64 y5)) = U at HE ⊢
                  have z0 := blk_cell HE.2.2 0 _ rfl
                  have z1 := blk_cell HE.2.2 1 _ rfl
                  have z2 := blk_cell HE.2.2 2 _ rfl
                  have z3 := blk_cell HE.2.2 3 _ rfl
                  have z4 := blk_cell HE.2.2 4 _ rfl
                  have z5 := blk_cell HE.2.2 5 _ rfl
                  exact bodyPost_ret (v := .agg #[.int .i64 y0, .int .i64 y1, .int .i64 y2, .int .i64 y3, .bool y4, .int .i64 y5]) (by simp [results, Tryz.results75, go_sem, z0, z1, z2, z3, z4, z5]) rfl ⟨⟨_, _, _, _, _, _, rfl⟩, HE.1.more (by omega), HE.2.1⟩

end Go.Proofs.YtfallpinmhbemaaGreatDoor

namespace Go.Proofs.YtfallpinmhbemaaGreatDoor

/-- n steps of h. -/
def steps (h : Nat → Nat) : Nat → Nat → Nat
  | 0, s => s
  | n + 1, s => steps h n (h s)
theorem steps_add (h : Nat → Nat) (m n s : Nat) : steps h (m + n) s = steps h n (steps h m s) := by
  induction m generalizing s with
  | zero => simp [steps]
  | succ m ih => rw [show m + 1 + n = m + n + 1 by omega]; exact ih (h s)
/-- A multiple and a number more. -/
def aff (p : Nat × Nat) (s : Nat) : Nat := (p.1 * s + p.2) % 18446744073709551616
def dbl (p : Nat × Nat) : Nat × Nat := (p.1 * p.1 % 18446744073709551616, (p.1 * p.2 + p.2) % 18446744073709551616)
def dbls : Nat → Nat × Nat → Nat × Nat
  | 0, p => p
  | k + 1, p => dbls k (dbl p)
theorem aff_dbl (p : Nat × Nat) (s : Nat) : aff p (aff p s) = aff (dbl p) s := by
  unfold aff dbl
  simp only
  rw [Nat.add_mod, Nat.mul_mod, Nat.mod_mod, ← Nat.mul_mod, ← Nat.add_mod]
  conv => rhs; rw [Nat.add_mod, Nat.mod_mul_mod, Nat.mod_mod, ← Nat.add_mod]
  congr 1
  rw [Nat.mul_add, Nat.mul_assoc]
  omega
theorem steps_dbl {h : Nat → Nat} {n : Nat} {p : Nat × Nat} (hp : ∀ s, steps h n s = aff p s) : ∀ s, steps h (n + n) s = aff (dbl p) s := by
  intro s
  rw [steps_add, hp, hp, aff_dbl]
theorem steps_dbls {h : Nat → Nat} : ∀ (k n : Nat) (p : Nat × Nat), (∀ s, steps h n s = aff p s) → ∀ s, steps h (n * 2 ^ k) s = aff (dbls k p) s := by
  intro k
  induction k with
  | zero => intro n p hp s; simpa [dbls] using hp s
  | succ k ih =>
    intro n p hp s
    have := ih (n + n) (dbl p) (steps_dbl hp) s
    rw [show n * 2 ^ (k + 1) = (n + n) * 2 ^ k by rw [Nat.pow_succ, ← Nat.two_mul n]; rw [Nat.mul_comm (2 ^ k) 2, ← Nat.mul_assoc, Nat.mul_comm n 2]]
    exact this
/-- One step, of any numbers. -/
def lcgOf (a c s : Nat) : Nat := (s * a + c) % 18446744073709551616
theorem lcgOf_aff (a c s : Nat) : lcgOf a c s = aff (a, c) s := by
  unfold lcgOf aff
  rw [Nat.mul_comm s]
theorem twice_aff (a c s : Nat) : steps (fun x => lcgOf a c (lcgOf a c x)) 1 s = aff (dbl (a, c)) s := by
  rw [← aff_dbl, ← lcgOf_aff, ← lcgOf_aff]
  rfl
theorem aff_eq (x y s : Nat) : aff (x, y) s = (x * s + y) % 18446744073709551616 := rfl
theorem turns_of {x y k1 k2 : Nat} (hx : x = 1 + 2199023255552 * k1) (hy : y = 1099511627776 + 2199023255552 * k2) (s : Nat) : (aff (x, y) s / 1099511627776) % 2 ≠ (s / 1099511627776) % 2 := by
  rw [aff_eq]
  have hV : x * s + y = s + 1099511627776 + 2199023255552 * (k1 * s + k2) := by
    rw [hx, hy, Nat.add_mul, Nat.one_mul, Nat.mul_add, Nat.mul_assoc]; omega
  rw [hV]
  generalize k1 * s + k2 = t
  omega
/-- Behind 2 to the 39 double steps bit 40 is another. -/
theorem turns_39 {a c x y k1 k2 : Nat} (he : dbls 39 (dbl (a, c)) = (x, y)) (hx : x = 1 + 2199023255552 * k1) (hy : y = 1099511627776 + 2199023255552 * k2) (s : Nat) : (steps (fun x => lcgOf a c (lcgOf a c x)) (1 * 2 ^ 39) s / 1099511627776) % 2 ≠ (s / 1099511627776) % 2 := by
  rw [steps_dbls 39 1 _ (twice_aff a c) s, he]
  exact turns_of hx hy s
theorem dbls_are : dbls 39 (dbl (6364136223846793005, 1442695040888963407)) = (8598326064743186433, 6294630401738539008) := by decide +kernel
theorem turns_gen {h : Nat → Nat} {a c x y k1 k2 : Nat} (hh : ∀ s, h s = lcgOf a c (lcgOf a c s)) (he : dbls 39 (dbl (a, c)) = (x, y)) (hx : x = 1 + 2199023255552 * k1) (hy : y = 1099511627776 + 2199023255552 * k2) : ∃ N, N ≤ 549755813888 ∧ ∀ s, (steps h N s / 1099511627776) % 2 ≠ (s / 1099511627776) % 2 := by
  have e : h = fun x => lcgOf a c (lcgOf a c x) := funext hh
  subst e
  exact ⟨_, by decide +kernel, turns_39 he hx hy⟩
/-- The step of the sequence. -/
def lcg (s : Nat) : Nat := lcgOf 6364136223846793005 1442695040888963407 s
/-- Two steps. -/
def lcgTwo (s : Nat) : Nat := lcg (lcg s)
theorem lcgTwo_is (s : Nat) : lcgTwo s = lcgOf 6364136223846793005 1442695040888963407 (lcgOf 6364136223846793005 1442695040888963407 s) := by
  simp only [lcgTwo, lcg]
theorem turns_ex : ∃ N, N ≤ 549755813888 ∧ ∀ s, (steps lcgTwo N s / 1099511627776) % 2 ≠ (s / 1099511627776) % 2 :=
  turns_gen (k1 := 3910066) (k2 := 2862466) lcgTwo_is dbls_are (by decide +kernel) (by decide +kernel)

end Go.Proofs.YtfallpinmhbemaaGreatDoor
