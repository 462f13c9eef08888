/-
  OWN TEXT: DrawT, KitS.
-/
import Derived.Test.YthcjfoaejomfaaaB02
import Derived.Test.YthcjfoaejomfaaaB03
import Derived.Test.YthcjfoaejomfaaaB00
namespace Go.Proofs.Ythcjfoaejomfaaa
open Go.RowKit

/-- A sailing that is drawn, in its box; the box of the answer; the cursor. -/
structure SSit (w wr : World) (xb cb : Nat) (ao : Option Addr) (n c p s : Nat) (id : Int) (fr dst : ByteArray) (dep arr : Int) (vl vc : Value) (most : Int) : Prop where
  lo : w.heap.size < xb
  box : wr.heap[xb]? = some (.cells #[.int .i64 id, .string fr, .string dst, .int .i64 dep, .int .i64 arr, vl, vc, .int .i64 most] 33 (0, 0))
  res : ∃ cs : Array Value, cs.size = 8 ∧ wr.heap[w.heap.size]? = some (.cells cs 33 (0, 0))
  cur : CurAt wr cb ao n c p s
  kept : Kept w wr (fun b => b = cb)
theorem lcgTwo_eq (s : Nat) : lcgTwo s = lcg (lcg s) := by simp only [lcgTwo]
/-- What is left of the first loop. -/
noncomputable def leftOf (n p i s : Nat) : Nat := if p < n then (n - p) + 1099511627776 else still i s
theorem leftOf_less {n p i s s1 s2 : Nat} (h1 : n ≤ p → s1 = lcg s) (h2 : n ≤ p + 1 → s2 = lcg s1 ∧ i = lcg s1 / 1099511627776 % 256 % 4) : leftOf n (p + 1 + 1) i s2 < leftOf n p i s := by
  unfold leftOf
  by_cases hp : p < n
  · rw [if_pos hp]
    by_cases hp2 : p + 1 + 1 < n
    · rw [if_pos hp2]; omega
    · rw [if_neg hp2]; have := still_le i s2; omega
  · rw [if_neg hp, if_neg (by omega)]
    have e1 := h1 (by omega)
    obtain ⟨e2, hi⟩ := h2 (by omega)
    rw [e1, ← lcgTwo_eq] at e2 hi
    rw [e2]
    refine still_less ?_
    rw [hi]
    rfl

/-- The same, read off the cursor. -/
noncomputable def curLeft (n i cb : Nat) (w : World) : Nat := leftOf n (intOf ((w.cell? ⟨cb, 1, none⟩).getD undef)).toNat i (intOf ((w.cell? ⟨cb, 2, none⟩).getD undef)).toNat
theorem curLeft_is {w : World} {cb n c p s i : Nat} {ao : Option Addr} (h : CurAt w cb ao n c p s) : curLeft n i cb w = leftOf n p i s := by
  unfold curLeft
  rw [blk_cell h.box 1 _ rfl, blk_cell h.box 2 _ rfl]
  simp [intOf]
theorem leftOf_le (n p i s : Nat) : leftOf n p i s ≤ n + 1099511627776 := by
  unfold leftOf
  split
  · omega
  · have := still_le i s; omega
theorem CurAt.below {w w' : World} {cb n c p s : Nat} {ao : Option Addr} (h : CurAt w cb ao n c p s) (hb : Below w.heap.size w w') : CurAt w' cb ao n c p s := ⟨blk_below h.box hb, h.code.kept (Kept.of_below hb)⟩

open Classical in
/-- The same, 0 where the ports are not the same. -/
noncomputable def stillLeft (n i cb xb : Nat) (w : World) : Nat := if w.cell? ⟨xb, 2, none⟩ = some (.string (portName i)) then curLeft n i cb w + 1 else 0

theorem SSit.c1 {w wr : World} {xb cb n c p s : Nat} {ao : Option Addr} {id dep arr most : Int} {fr dst : ByteArray} {vl vc : Value} (h : SSit w wr xb cb ao n c p s id fr dst dep arr vl vc most) : wr.cell? ⟨xb, 1, none⟩ = some (.string fr) := blk_cell h.box 1 _ rfl
theorem SSit.c2 {w wr : World} {xb cb n c p s : Nat} {ao : Option Addr} {id dep arr most : Int} {fr dst : ByteArray} {vl vc : Value} (h : SSit w wr xb cb ao n c p s id fr dst dep arr vl vc most) : wr.cell? ⟨xb, 2, none⟩ = some (.string dst) := blk_cell h.box 2 _ rfl
theorem SSit.on {w wr w' : World} {xb cb n c p s p' s' : Nat} {ao : Option Addr} {id dep arr most : Int} {fr dst : ByteArray} {vl vc : Value} (h : SSit w wr xb cb ao n c p s id fr dst dep arr vl vc most) (hcb : cb < w.heap.size) (hc : CurAt w' cb ao n c p' s') (hk : Kept wr w' (fun b => b = cb)) : SSit w w' xb cb ao n c p' s' id fr dst dep arr vl vc most := by
  obtain ⟨h1, h2, ⟨cs, h3, h4⟩, _, h6⟩ := h
  exact ⟨h1, hk.blk h2 (by omega), ⟨cs, h3, hk.blk h4 (by omega)⟩, hc, h6.trans hk⟩
theorem CurAt.other {w : World} {cb n c p s b i : Nat} {ao : Option Addr} (h : CurAt w cb ao n c p s) (hne : cb ≠ b) (hcode : ∀ k, k < n → ∀ b' off, ao = some ⟨b', off, none⟩ → b' ≠ b) (u : Value) : CurAt (w.setCell ⟨b, i, none⟩ u) cb ao n c p s := by
  refine ⟨blk_set_other h.box i u hne, fun k hk => ?_⟩
  obtain ⟨b', off, v, e, hn, hc, h1, h2⟩ := h.code k hk
  refine ⟨b', off, v, e, hn, ?_, h1, h2⟩
  have hb : ((w.setCell ⟨b, i, none⟩ u).heap[b']?) = w.heap[b']? := Below.heap_setCell w ⟨b, i, none⟩ u b' (hcode k hk b' off e)
  unfold World.cell? at hc ⊢
  rw [hb]; exact hc
theorem portList_ne {i j : Nat} (hi : i < 4) (hj : j < 4) (h : i ≠ j) : ((portName i).toList == (portName j).toList) = false := by
  have h1 : i = 0 ∨ i = 1 ∨ i = 2 ∨ i = 3 := by omega
  have h2 : j = 0 ∨ j = 1 ∨ j = 2 ∨ j = 3 := by omega
  rcases h1 with rfl | rfl | rfl | rfl <;> rcases h2 with rfl | rfl | rfl | rfl <;> first | exact absurd rfl h | decide +kernel
/-- Where the bytes lie. -/
def CodeLow (w : World) (ao : Option Addr) (n : Nat) : Prop := ∀ k, k < n → ∀ b off, ao = some ⟨b, off, none⟩ → b < w.heap.size
theorem SSit.dst {w wr : World} {xb cb n c p s : Nat} {ao : Option Addr} {id dep arr most : Int} {fr dst : ByteArray} {vl vc : Value} (h : SSit w wr xb cb ao n c p s id fr dst dep arr vl vc most) (hcb : cb < w.heap.size) (hl : CodeLow w ao n) (d : ByteArray) : SSit w (wr.setCell ⟨xb, 2, none⟩ (.string d)) xb cb ao n c p s id fr d dep arr vl vc most := by
  obtain ⟨h1, h2, ⟨cs, h3, h4⟩, h5, h6⟩ := h
  exact ⟨h1, by simpa using blk_set h2 2 (.string d), ⟨cs, h3, blk_set_other h4 _ _ (by omega)⟩, h5.other (by omega) (fun k hk b' off e => by have := hl k hk b' off e; omega) _,
    ⟨h6.os, h6.tape, h6.output, by have := h6.size; simpa using this, fun k hk hn => (Below.heap_setCell wr ⟨xb, 2, none⟩ (.string d) k (by show k ≠ xb; omega)).trans (h6.block k hk hn)⟩⟩

end Go.Proofs.Ythcjfoaejomfaaa

namespace Go.Proofs.Ythcjfoaejomfaaa
open Go.RowKit

/-- A list of pairs of numbers. -/
structure Pairs where
  n : Nat
  A : Nat → Int
  B : Nat → Int
/-- The slice at ao reads as the pairs p. -/
def PairsAt (w : World) (ao : Option Addr) (p : Pairs) : Prop :=
  ∀ k, k < p.n → ∃ b off, ao = some ⟨b, off, none⟩ ∧ w.cell? ⟨b, off + k * 2, none⟩ = some (.int .i64 (p.A k)) ∧ w.cell? ⟨b, off + k * 2 + 1, none⟩ = some (.int .i64 (p.B k))
theorem PairsAt.below {w w' : World} {ao : Option Addr} {p : Pairs} (h : PairsAt w ao p) (hb : Below w.heap.size w w') : PairsAt w' ao p := by
  intro k hk
  obtain ⟨b, off, e, h1, h2⟩ := h k hk
  have hlt : b < w.heap.size := World.block_lt_of_cell? w _ h1
  exact ⟨b, off, e, (hb.cell hlt).trans h1, (hb.cell hlt).trans h2⟩
/-- The cell j of a row of pairs. -/
def pairCell (p : Pairs) (j : Nat) : Value := if j % 2 = 0 then .int .i64 (p.A (j / 2)) else .int .i64 (p.B (j / 2))
theorem pairCell_0 (p : Pairs) (k : Nat) : pairCell p (k * 2) = .int .i64 (p.A k) := by
  unfold pairCell; rw [if_pos (by omega), show k * 2 / 2 = k by omega]
theorem pairCell_1 (p : Pairs) (k : Nat) : pairCell p (k * 2 + 1) = .int .i64 (p.B k) := by
  unfold pairCell; rw [if_neg (by omega), show (k * 2 + 1) / 2 = k by omega]
theorem PairsAt.of_row {w : World} {g t : Nat} {p : Pairs} (h : w.rowIs g t (p.n * 2) (pairCell p)) : PairsAt w (some ⟨g, 0, none⟩) p := by
  intro k hk
  refine ⟨g, 0, rfl, ?_, ?_⟩
  · rw [Nat.zero_add, h.cell (by omega), pairCell_0]
  · rw [Nat.zero_add, h.cell (by omega), pairCell_1]
theorem made_pairs (n : Nat) (j : Nat) (hj : j < n * 2) : (madeCells (Value.agg #[.int .i64 0, .int .i64 0]).cells (n * 2)).toList.getD j (.bool false) = pairCell ⟨n, fun _ => 0, fun _ => 0⟩ j := by
  have hz : (Value.agg #[.int .i64 0, .int .i64 0]).cells = #[.int .i64 0, .int .i64 0] := rfl
  rw [hz]
  simp only [madeCells, Array.toList_map, List.getD_eq_getElem?_getD, List.getElem?_map, Array.toList_range, List.getElem?_range hj, Option.map_some, Option.getD_some]
  unfold pairCell
  have : j % 2 = 0 ∨ j % 2 = 1 := by omega
  rcases this with h | h <;> simp [h]
/-- A pair is stored into a row. -/
theorem pair_set {w : World} {g t n k : Nat} {p p' : Pairs} (h : w.rowIs g t n (pairCell p)) (hA : ∀ i, i ≠ k → p'.A i = p.A i) (hB : ∀ i, i ≠ k → p'.B i = p.B i) :
    ((w.setCell ⟨g, k * 2, none⟩ (.int .i64 (p'.A k))).setCell ⟨g, k * 2 + 1, none⟩ (.int .i64 (p'.B k))).rowIs g t n (pairCell p') := by
  refine ((h.set (k * 2) _).set (k * 2 + 1) _).congr fun j _ => ?_
  by_cases h1 : j = k * 2 + 1
  · subst h1; rw [if_pos rfl, pairCell_1]
  · rw [if_neg h1]
    by_cases h0 : j = k * 2
    · subst h0; rw [if_pos rfl, pairCell_0]
    · rw [if_neg h0]
      have hk : j / 2 ≠ k := by omega
      unfold pairCell
      rw [hA _ hk, hB _ hk]
/-- The pairs whose first k are those of p, the others zero. -/
def pairsTo (k : Nat) (p : Pairs) : Pairs := ⟨p.n, upto k p.A 0, upto k p.B 0⟩
/-- Pairs with their address written out. -/
theorem pairs_in {w : World} {ao : Option Addr} {p : Pairs} (h : PairsAt w ao p) : p.n = 0 ∨ ∃ b off, ao = some ⟨b, off, none⟩ ∧ b < w.heap.size ∧ ∀ k, k < p.n → w.cell? ⟨b, off + k * 2, none⟩ = some (.int .i64 (p.A k)) ∧ w.cell? ⟨b, off + k * 2 + 1, none⟩ = some (.int .i64 (p.B k)) := by
  by_cases h0 : p.n = 0
  · exact .inl h0
  · refine .inr ?_
    obtain ⟨b, off, rfl, h1, _⟩ := h 0 (by omega)
    refine ⟨b, off, rfl, World.block_lt_of_cell? w _ h1, fun k hk => ?_⟩
    obtain ⟨b', off', e, g1, g2⟩ := h k hk
    simp only [Option.some.injEq, Addr.mk.injEq, and_true] at e
    obtain ⟨rfl, rfl⟩ := e
    exact ⟨g1, g2⟩

/-- A slice that can be. -/
def SliceOk (ao : Option Addr) (n c : Nat) : Prop := n ≤ c ∧ c ≤ 9223372036854775807 ∧ (ao = none → n = 0 ∧ c = 0)

/-- A sailing. -/
structure Sail where
  id : Int
  fr : ByteArray
  dst : ByteArray
  dep : Int
  arr : Int
  la : Pairs
  ca : Pairs
  most : Int
def Sail.zero : Sail := ⟨0, ⟨#[]⟩, ⟨#[]⟩, 0, 0, ⟨0, fun _ => 0, fun _ => 0⟩, ⟨0, fun _ => 0, fun _ => 0⟩, 0⟩
instance : Inhabited Sail := ⟨Sail.zero⟩

/-- The slice at ao reads as N sailings. -/
def SailsAt (w : World) (ao : Option Addr) (N : Nat) (S : Nat → Sail) : Prop :=
  ∀ k, k < N → ∃ b off la lc ca cc, ao = some ⟨b, off, none⟩ ∧ w.cell? ⟨b, off + k * 8, none⟩ = some (.int .i64 (S k).id) ∧ w.cell? ⟨b, off + k * 8 + 1, none⟩ = some (.string (S k).fr) ∧
    w.cell? ⟨b, off + k * 8 + 2, none⟩ = some (.string (S k).dst) ∧ w.cell? ⟨b, off + k * 8 + 3, none⟩ = some (.int .i64 (S k).dep) ∧ w.cell? ⟨b, off + k * 8 + 4, none⟩ = some (.int .i64 (S k).arr) ∧
    w.cell? ⟨b, off + k * 8 + 5, none⟩ = some (.slice la (S k).la.n lc) ∧ w.cell? ⟨b, off + k * 8 + 6, none⟩ = some (.slice ca (S k).ca.n cc) ∧ w.cell? ⟨b, off + k * 8 + 7, none⟩ = some (.int .i64 (S k).most) ∧
    PairsAt w la (S k).la ∧ PairsAt w ca (S k).ca ∧ SliceOk la (S k).la.n lc ∧ SliceOk ca (S k).ca.n cc
theorem SailsAt.below {w w' : World} {ao : Option Addr} {N : Nat} {S : Nat → Sail} (h : SailsAt w ao N S) (hb : Below w.heap.size w w') : SailsAt w' ao N S := by
  intro k hk
  obtain ⟨b, off, la, lc, ca, cc, e, h0, h1, h2, h3, h4, h5, h6, h7, h8, h9, ha, hc⟩ := h k hk
  have hlt : b < w.heap.size := World.block_lt_of_cell? w _ h1
  exact ⟨b, off, la, lc, ca, cc, e, (hb.cell hlt).trans h0, (hb.cell hlt).trans h1, (hb.cell hlt).trans h2, (hb.cell hlt).trans h3, (hb.cell hlt).trans h4, (hb.cell hlt).trans h5, (hb.cell hlt).trans h6, (hb.cell hlt).trans h7, h8.below hb, h9.below hb, ha, hc⟩

/-- The cell j of a row of sailings. -/
def sailCell (S : Nat → Sail) (ls cs : Nat → Value) (j : Nat) : Value :=
  if j % 8 = 0 then .int .i64 (S (j / 8)).id else if j % 8 = 1 then .string (S (j / 8)).fr else if j % 8 = 2 then .string (S (j / 8)).dst else if j % 8 = 3 then .int .i64 (S (j / 8)).dep
  else if j % 8 = 4 then .int .i64 (S (j / 8)).arr else if j % 8 = 5 then ls (j / 8) else if j % 8 = 6 then cs (j / 8) else .int .i64 (S (j / 8)).most
theorem sailCell_0 (S : Nat → Sail) (ls cs : Nat → Value) (k : Nat) : sailCell S ls cs (k * 8) = .int .i64 (S k).id := by
  unfold sailCell; rw [if_pos (by omega), show k * 8 / 8 = k by omega]
theorem sailCell_1 (S : Nat → Sail) (ls cs : Nat → Value) (k : Nat) : sailCell S ls cs (k * 8 + 1) = .string (S k).fr := by
  unfold sailCell; rw [if_neg (by omega), if_pos (by omega), show (k * 8 + 1) / 8 = k by omega]
theorem sailCell_2 (S : Nat → Sail) (ls cs : Nat → Value) (k : Nat) : sailCell S ls cs (k * 8 + 2) = .string (S k).dst := by
  unfold sailCell; rw [if_neg (by omega), if_neg (by omega), if_pos (by omega), show (k * 8 + 2) / 8 = k by omega]
theorem sailCell_3 (S : Nat → Sail) (ls cs : Nat → Value) (k : Nat) : sailCell S ls cs (k * 8 + 3) = .int .i64 (S k).dep := by
  unfold sailCell; rw [if_neg (by omega), if_neg (by omega), if_neg (by omega), if_pos (by omega), show (k * 8 + 3) / 8 = k by omega]
theorem sailCell_4 (S : Nat → Sail) (ls cs : Nat → Value) (k : Nat) : sailCell S ls cs (k * 8 + 4) = .int .i64 (S k).arr := by
  unfold sailCell; rw [if_neg (by omega), if_neg (by omega), if_neg (by omega), if_neg (by omega), if_pos (by omega), show (k * 8 + 4) / 8 = k by omega]
theorem sailCell_5 (S : Nat → Sail) (ls cs : Nat → Value) (k : Nat) : sailCell S ls cs (k * 8 + 5) = ls k := by
  unfold sailCell; rw [if_neg (by omega), if_neg (by omega), if_neg (by omega), if_neg (by omega), if_neg (by omega), if_pos (by omega), show (k * 8 + 5) / 8 = k by omega]
theorem sailCell_6 (S : Nat → Sail) (ls cs : Nat → Value) (k : Nat) : sailCell S ls cs (k * 8 + 6) = cs k := by
  unfold sailCell; rw [if_neg (by omega), if_neg (by omega), if_neg (by omega), if_neg (by omega), if_neg (by omega), if_neg (by omega), if_pos (by omega), show (k * 8 + 6) / 8 = k by omega]
theorem sailCell_7 (S : Nat → Sail) (ls cs : Nat → Value) (k : Nat) : sailCell S ls cs (k * 8 + 7) = .int .i64 (S k).most := by
  unfold sailCell; rw [if_neg (by omega), if_neg (by omega), if_neg (by omega), if_neg (by omega), if_neg (by omega), if_neg (by omega), if_neg (by omega), show (k * 8 + 7) / 8 = k by omega]
theorem made_sails (n : Nat) (j : Nat) (hj : j < n * 8) : (madeCells (Value.agg #[.int .i64 0, .string ⟨#[]⟩, .string ⟨#[]⟩, .int .i64 0, .int .i64 0, .slice none 0 0, .slice none 0 0, .int .i64 0]).cells (n * 8)).toList.getD j (.bool false) = sailCell (fun _ => Sail.zero) (fun _ => .slice none 0 0) (fun _ => .slice none 0 0) j := by
  have hz : (Value.agg #[.int .i64 0, .string ⟨#[]⟩, .string ⟨#[]⟩, .int .i64 0, .int .i64 0, .slice none 0 0, .slice none 0 0, .int .i64 0]).cells = #[.int .i64 0, .string ⟨#[]⟩, .string ⟨#[]⟩, .int .i64 0, .int .i64 0, .slice none 0 0, .slice none 0 0, .int .i64 0] := rfl
  rw [hz]
  simp only [madeCells, Array.toList_map, List.getD_eq_getElem?_getD, List.getElem?_map, Array.toList_range, List.getElem?_range hj, Option.map_some, Option.getD_some]
  unfold sailCell
  have : j % 8 = 0 ∨ j % 8 = 1 ∨ j % 8 = 2 ∨ j % 8 = 3 ∨ j % 8 = 4 ∨ j % 8 = 5 ∨ j % 8 = 6 ∨ j % 8 = 7 := by omega
  rcases this with h | h | h | h | h | h | h | h <;> simp [h, Sail.zero]

/-- A world with eight cells of one block set. -/
def set8 (w : World) (g o : Nat) (v0 v1 v2 v3 v4 v5 v6 v7 : Value) : World :=
  (((((((w.setCell ⟨g, o, none⟩ v0).setCell ⟨g, o + 1, none⟩ v1).setCell ⟨g, o + 2, none⟩ v2).setCell ⟨g, o + 3, none⟩ v3).setCell ⟨g, o + 4, none⟩ v4).setCell ⟨g, o + 5, none⟩ v5).setCell ⟨g, o + 6, none⟩ v6).setCell ⟨g, o + 7, none⟩ v7
theorem set8_row {w : World} {g o x t n : Nat} {f : Nat → Value} {v0 v1 v2 v3 v4 v5 v6 v7 : Value} (h : w.rowIs x t n f) (hx : x ≠ g) : (set8 w g o v0 v1 v2 v3 v4 v5 v6 v7).rowIs x t n f := by
  unfold set8
  exact (((((((h.setOther (by show x ≠ g; exact hx) _).setOther (by show x ≠ g; exact hx) _).setOther (by show x ≠ g; exact hx) _).setOther (by show x ≠ g; exact hx) _).setOther (by show x ≠ g; exact hx) _).setOther (by show x ≠ g; exact hx) _).setOther (by show x ≠ g; exact hx) _).setOther (by show x ≠ g; exact hx) _
theorem set8_below {w w0 : World} {g o : Nat} {v0 v1 v2 v3 v4 v5 v6 v7 : Value} (h : Below w0.heap.size w0 w) (hg : w0.heap.size ≤ g) : Below w0.heap.size w0 (set8 w g o v0 v1 v2 v3 v4 v5 v6 v7) := by
  unfold set8
  exact (((((((h.setCell hg _).setCell hg _).setCell hg _).setCell hg _).setCell hg _).setCell hg _).setCell hg _).setCell hg _
theorem set8_blk {w : World} {g t : Nat} {u0 u1 u2 u3 u4 u5 u6 u7 v0 v1 v2 v3 v4 v5 v6 v7 : Value} (h : w.heap[g]? = some (.cells #[u0, u1, u2, u3, u4, u5, u6, u7] t (0, 0))) :
    (set8 w g 0 v0 v1 v2 v3 v4 v5 v6 v7).heap[g]? = some (.cells #[v0, v1, v2, v3, v4, v5, v6, v7] t (0, 0)) := by
  unfold set8
  have := blk_set (blk_set (blk_set (blk_set (blk_set (blk_set (blk_set (blk_set h 0 v0) 1 v1) 2 v2) 3 v3) 4 v4) 5 v5) 6 v6) 7 v7
  simpa using this
theorem set8_blk_other {w : World} {g o b : Nat} {x : Obj} {v0 v1 v2 v3 v4 v5 v6 v7 : Value} (h : w.heap[b]? = some x) (hne : b ≠ g) : (set8 w g o v0 v1 v2 v3 v4 v5 v6 v7).heap[b]? = some x := by
  unfold set8
  exact blk_set_other (blk_set_other (blk_set_other (blk_set_other (blk_set_other (blk_set_other (blk_set_other (blk_set_other h _ _ hne) _ _ hne) _ _ hne) _ _ hne) _ _ hne) _ _ hne) _ _ hne) _ _ hne
/-- A sailing is stored into a row. -/
theorem sail_set {w : World} {g t n k : Nat} {S S' : Nat → Sail} {ls ls' cs cs' : Nat → Value} (h : w.rowIs g t n (sailCell S ls cs))
    (hS : ∀ i, i ≠ k → S' i = S i) (hL : ∀ i, i ≠ k → ls' i = ls i) (hC : ∀ i, i ≠ k → cs' i = cs i) :
    (set8 w g (k * 8) (.int .i64 (S' k).id) (.string (S' k).fr) (.string (S' k).dst) (.int .i64 (S' k).dep) (.int .i64 (S' k).arr) (ls' k) (cs' k) (.int .i64 (S' k).most)).rowIs g t n (sailCell S' ls' cs') := by
  unfold set8
  refine ((((((((h.set (k * 8) _).set (k * 8 + 1) _).set (k * 8 + 2) _).set (k * 8 + 3) _).set (k * 8 + 4) _).set (k * 8 + 5) _).set (k * 8 + 6) _).set (k * 8 + 7) _).congr fun j _ => ?_
  by_cases h7 : j = k * 8 + 7
  · subst h7; rw [if_pos rfl, sailCell_7]
  rw [if_neg h7]
  by_cases h6 : j = k * 8 + 6
  · subst h6; rw [if_pos rfl, sailCell_6]
  rw [if_neg h6]
  by_cases h5 : j = k * 8 + 5
  · subst h5; rw [if_pos rfl, sailCell_5]
  rw [if_neg h5]
  by_cases h4 : j = k * 8 + 4
  · subst h4; rw [if_pos rfl, sailCell_4]
  rw [if_neg h4]
  by_cases h3 : j = k * 8 + 3
  · subst h3; rw [if_pos rfl, sailCell_3]
  rw [if_neg h3]
  by_cases h2 : j = k * 8 + 2
  · subst h2; rw [if_pos rfl, sailCell_2]
  rw [if_neg h2]
  by_cases h1 : j = k * 8 + 1
  · subst h1; rw [if_pos rfl, sailCell_1]
  rw [if_neg h1]
  by_cases h0 : j = k * 8
  · subst h0; rw [if_pos rfl, sailCell_0]
  rw [if_neg h0]
  have hk : j / 8 ≠ k := by omega
  unfold sailCell
  rw [hS _ hk, hL _ hk, hC _ hk]

/-- The whole slice of the block b. -/
def whole (b n : Nat) : Value := .slice (some ⟨b, 0, none⟩) n n
/-- f, with u at place q. -/
def at_ (f : Nat → Nat) (q u : Nat) (i : Nat) : Nat := if i = q then u else f i
theorem at_at (f : Nat → Nat) (q u : Nat) : at_ f q u q = u := if_pos rfl
theorem at_ne (f : Nat → Nat) (q u i : Nat) (h : i ≠ q) : at_ f q u i = f i := if_neg h

/-- The block g holds the first k of N sailings (the others are zero), each with its lanes and cabins in blocks of their own, l i and c i, that rise behind g. -/
structure SailsTo (w : World) (tS tL tC k lo g N : Nat) (S : Nat → Sail) (l c : Nat → Nat) : Prop where
  row : w.rowIs g tS (N * 8) (sailCell (upto k S Sail.zero) (upto k (fun i => whole (l i) (S i).la.n) (.slice none 0 0)) (upto k (fun i => whole (c i) (S i).ca.n) (.slice none 0 0)))
  lo : lo ≤ g
  lanes : ∀ i, i < k → g < l i ∧ w.rowIs (l i) tL ((S i).la.n * 2) (pairCell (S i).la)
  cabins : ∀ i, i < k → l i < c i ∧ w.rowIs (c i) tC ((S i).ca.n * 2) (pairCell (S i).ca)
  rise : ∀ i j, i < j → j < k → c i < l j

theorem SailsTo.below {w w' : World} {tS tL tC k lo g N : Nat} {S : Nat → Sail} {l c : Nat → Nat} (r : SailsTo w tS tL tC k lo g N S l c) (hb : Below w.heap.size w w') : SailsTo w' tS tL tC k lo g N S l c :=
  ⟨row_below r.row hb, r.lo, fun i hi => ⟨(r.lanes i hi).1, row_below (r.lanes i hi).2 hb⟩, fun i hi => ⟨(r.cabins i hi).1, row_below (r.cabins i hi).2 hb⟩, r.rise⟩

theorem SailsTo.sails {w : World} {tS tL tC lo g N : Nat} {S : Nat → Sail} {l c : Nat → Nat} (r : SailsTo w tS tL tC N lo g N S l c) (hL : ∀ i, i < N → (S i).la.n ≤ 1048576) (hC : ∀ i, i < N → (S i).ca.n ≤ 1048576) : SailsAt w (some ⟨g, 0, none⟩) N S := by
  intro k hk
  refine ⟨g, 0, some ⟨l k, 0, none⟩, (S k).la.n, some ⟨c k, 0, none⟩, (S k).ca.n, rfl, ?_, ?_, ?_, ?_, ?_, ?_, ?_, ?_, PairsAt.of_row (r.lanes k hk).2, PairsAt.of_row (r.cabins k hk).2, ⟨Nat.le_refl _, by have := hL k hk; omega, by intro e; cases e⟩, ⟨Nat.le_refl _, by have := hC k hk; omega, by intro e; cases e⟩⟩
  · rw [Nat.zero_add, r.row.cell (by omega), sailCell_0, upto_lt _ _ hk]
  · rw [Nat.zero_add, r.row.cell (by omega), sailCell_1, upto_lt _ _ hk]
  · rw [Nat.zero_add, r.row.cell (by omega), sailCell_2, upto_lt _ _ hk]
  · rw [Nat.zero_add, r.row.cell (by omega), sailCell_3, upto_lt _ _ hk]
  · rw [Nat.zero_add, r.row.cell (by omega), sailCell_4, upto_lt _ _ hk]
  · rw [Nat.zero_add, r.row.cell (by omega), sailCell_5, upto_lt _ _ hk]; rfl
  · rw [Nat.zero_add, r.row.cell (by omega), sailCell_6, upto_lt _ _ hk]; rfl
  · rw [Nat.zero_add, r.row.cell (by omega), sailCell_7, upto_lt _ _ hk]

/-- One sailing more. -/
theorem SailsTo.step {w : World} {tS tL tC k lo g N : Nat} {S : Nat → Sail} {l c : Nat → Nat} (r : SailsTo w tS tL tC k lo g N S l c) {a b : Nat} (ha : g < a) (hab : a < b)
    (hall : ∀ i, i < k → c i < a) (rowA : w.rowIs a tL ((S k).la.n * 2) (pairCell (S k).la)) (rowB : w.rowIs b tC ((S k).ca.n * 2) (pairCell (S k).ca)) :
    SailsTo (set8 w g (k * 8) (.int .i64 (S k).id) (.string (S k).fr) (.string (S k).dst) (.int .i64 (S k).dep) (.int .i64 (S k).arr) (whole a (S k).la.n) (whole b (S k).ca.n) (.int .i64 (S k).most)) tS tL tC (k + 1) lo g N S (at_ l k a) (at_ c k b) := by
  refine ⟨?_, r.lo, fun i hi => ?_, fun i hi => ?_, fun i j hij hj => ?_⟩
  · have := sail_set (k := k) (S' := upto (k + 1) S Sail.zero) (ls' := upto (k + 1) (fun i => whole (at_ l k a i) (S i).la.n) (.slice none 0 0)) (cs' := upto (k + 1) (fun i => whole (at_ c k b i) (S i).ca.n) (.slice none 0 0)) r.row (fun i e => upto_step _ _ _ _ e)
      (fun i e => by unfold upto; by_cases hi : i < k
                     · rw [if_pos hi, if_pos (by omega)]; simp only [at_ne _ _ _ _ e]
                     · rw [if_neg hi, if_neg (by omega)])
      (fun i e => by unfold upto; by_cases hi : i < k
                     · rw [if_pos hi, if_pos (by omega)]; simp only [at_ne _ _ _ _ e]
                     · rw [if_neg hi, if_neg (by omega)])
    rw [upto_lt _ _ (Nat.lt_succ_self k), upto_lt _ _ (Nat.lt_succ_self k), upto_lt _ _ (Nat.lt_succ_self k), at_at, at_at] at this
    exact this
  · by_cases e : i = k
    · subst e; rw [at_at]; exact ⟨ha, set8_row rowA (by omega)⟩
    · rw [at_ne _ _ _ _ e]; have := r.lanes i (by omega); exact ⟨this.1, set8_row this.2 (by omega)⟩
  · by_cases e : i = k
    · subst e; rw [at_at, at_at]; exact ⟨hab, set8_row rowB (by omega)⟩
    · rw [at_ne _ _ _ _ e, at_ne _ _ _ _ e]; have h1 := r.lanes i (by omega); have h2 := r.cabins i (by omega); exact ⟨h2.1, set8_row h2.2 (by omega)⟩
  · by_cases e : j = k
    · subst e; rw [at_at, at_ne _ _ _ _ (by omega)]; exact hall i (by omega)
    · rw [at_ne _ _ _ _ e, at_ne _ _ _ _ (by omega)]; exact r.rise i j hij (by omega)

/-- The call returned whether P holds. -/
def SaysIf (P : Prop) (e : Ending) : Prop := ∃ b : Bool, e = .returned (.bool b) ∧ (b = true ↔ P)
theorem says_yes {P : Prop} (h : P) : SaysIf P (.returned (.bool true)) := ⟨true, rfl, ⟨fun _ => h, fun _ => rfl⟩⟩
theorem says_no {P : Prop} (h : ¬ P) : SaysIf P (.returned (.bool false)) := ⟨false, rfl, ⟨fun e => (by cases e), fun p => absurd p h⟩⟩
/-- The value c tells by false that P holds. -/
def Tells (P : Prop) (c : Value) : Prop := ∃ b : Bool, c = .bool b ∧ (b = false ↔ P)
theorem tells_bad {P : Prop} (h : ¬ P) : Tells P (.bool true) := ⟨true, rfl, ⟨fun e => (by cases e), fun p => absurd p h⟩⟩
theorem tells_good {P : Prop} (h : P) : Tells P (.bool false) := ⟨false, rfl, ⟨fun _ => h, fun _ => rfl⟩⟩

end Go.Proofs.Ythcjfoaejomfaaa
