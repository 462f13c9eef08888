/-
  OWN TEXT: words for sailings that an answer owns: their row, and the lists of each in memory of its own. No theorem of the program.
-/
import Derived.Test.YtlnadbnoemlpeaaLSails
import Derived.Test.YtlnadbnoemlpeaaKitD
namespace Go.Proofs.Ytlnadbnoemlpeaa
open Go.RowKit

/-- The cells of pairs. -/
def pairRow (p : Pairs) : List Value := (List.range (p.n * 2)).map (pairCell p)
theorem pairRow_length (p : Pairs) : (pairRow p).length = p.n * 2 := by simp [pairRow]
theorem pairRow_get {p : Pairs} {j : Nat} {u : Value} (h : (pairRow p)[j]? = some u) : j < p.n * 2 ∧ u = pairCell p j := by
  unfold pairRow at h
  rw [List.getElem?_map] at h
  by_cases hj : j < p.n * 2
  · rw [List.getElem?_range hj] at h; simp at h; exact ⟨hj, h.symm⟩
  · rw [List.getElem?_eq_none (by simpa using hj)] at h; cases h
theorem pairRow_one (p : Pairs) : ∀ u ∈ pairRow p, u.oneCell' = true := by
  intro u hu
  unfold pairRow at hu
  obtain ⟨j, _, rfl⟩ := List.mem_map.1 hu
  unfold pairCell
  split <;> rfl
theorem pairs_cells {w : World} {ao : Option Addr} {p : Pairs} (h : PairsAt w ao p) : ∀ ad, ao = some ad → ∀ j u, (pairRow p)[j]? = some u → w.cell? (ad.add j) = some u := by
  intro ad e j u hu
  obtain ⟨hj, rfl⟩ := pairRow_get hu
  obtain ⟨b, off, e2, h0, h1⟩ := h (j / 2) (by omega)
  rw [e] at e2
  cases e2
  rw [Addr.add_lit]
  unfold pairCell
  by_cases c : j % 2 = 0
  · rw [if_pos c, ← h0, show off + j / 2 * 2 = off + j by omega]
  · rw [if_neg c, ← h1, show off + j / 2 * 2 + 1 = off + j by omega]
theorem pairs_of_own {w : World} {base t c : Nat} {ao : Option Addr} {p : Pairs} (h : w.ownsRow base t 2 (.slice ao p.n c) p.n (pairRow p)) : PairsAt w ao p := by
  intro k hk
  obtain ⟨g, rfl, _, _⟩ := own_addr h (by omega)
  refine ⟨g, 0, rfl, ?_, ?_⟩
  · rw [Nat.zero_add, own_cell h (k * 2) (by omega) rfl, pairCell_0]
  · rw [Nat.zero_add, own_cell h (k * 2 + 1) (by omega) rfl, pairCell_1]

/-- Sailings that lie in memory of their own, from base on. -/
structure OwnSails (w : World) (base : Nat) (v : Value) (N : Nat) (S : Nat → Sail) (L C : Nat → Value) : Prop where
  row : w.ownsRow base 47 8 v N ((List.range (N * 8)).map (sailCell S L C))
  la : ∀ i, i < N → w.ownsRow base 77 2 (L i) (S i).la.n (pairRow (S i).la)
  ca : ∀ i, i < N → w.ownsRow base 80 2 (C i) (S i).ca.n (pairRow (S i).ca)
  apart : ∀ i j, i < j → j < N → (∀ b, (L i).ownBlock = some b → (L j).ownBlock ≠ some b) ∧ (∀ b, (C i).ownBlock = some b → (C j).ownBlock ≠ some b)
theorem OwnSails.below {w w' : World} {base : Nat} {v : Value} {N : Nat} {S : Nat → Sail} {L C : Nat → Value} (h : OwnSails w base v N S L C) (hb : Below w.heap.size w w') : OwnSails w' base v N S L C :=
  ⟨own_below hb h.row, fun i hi => own_below hb (h.la i hi), fun i hi => own_below hb (h.ca i hi), h.apart⟩
theorem OwnSails.kept {w w' : World} {base : Nat} {v : Value} {N : Nat} {S : Nat → Sail} {L C : Nat → Value} {T : Nat → Prop} (h : OwnSails w base v N S L C) (hk : Kept w w' T) (hT : ∀ b, T b → b < base) : OwnSails w' base v N S L C :=
  ⟨hk.own h.row (fun g hg s => by have := (h.row.lt g hg).1; have := hT g s; omega), fun i hi => hk.own (h.la i hi) (fun g hg s => by have := ((h.la i hi).lt g hg).1; have := hT g s; omega),
    fun i hi => hk.own (h.ca i hi) (fun g hg s => by have := ((h.ca i hi).lt g hg).1; have := hT g s; omega), h.apart⟩
theorem OwnSails.base {w : World} {b1 b2 : Nat} {v : Value} {N : Nat} {S : Nat → Sail} {L C : Nat → Value} (h : OwnSails w b1 v N S L C) (hb : b2 ≤ b1) : OwnSails w b2 v N S L C :=
  ⟨own_base h.row hb, fun i hi => own_base (h.la i hi) hb, fun i hi => own_base (h.ca i hi) hb, h.apart⟩
theorem OwnSails.at {w : World} {base : Nat} {ao : Option Addr} {N c : Nat} {S : Nat → Sail} {L C : Nat → Value} (h : OwnSails w base (.slice ao N c) N S L C) : SailsAt w ao N S := by
  intro k hk
  obtain ⟨g, rfl, _, _⟩ := own_addr h.row (by omega)
  obtain ⟨la, lc, e1, l1, l2, l3⟩ := own_form (h.la k hk)
  obtain ⟨ca, cc, e2, c1, c2, c3⟩ := own_form (h.ca k hk)
  have o1 := h.la k hk
  have o2 := h.ca k hk
  rw [e1] at o1
  rw [e2] at o2
  refine ⟨g, 0, la, lc, ca, cc, rfl, ?_, ?_, ?_, ?_, ?_, ?_, ?_, ?_, pairs_of_own o1, pairs_of_own o2, ⟨l1, l2, l3⟩, ⟨c1, c2, c3⟩⟩
  · rw [Nat.zero_add, own_cell h.row (k * 8) (by omega) rfl, sailCell_0]
  · rw [Nat.zero_add, own_cell h.row (k * 8 + 1) (by omega) rfl, sailCell_1]
  · rw [Nat.zero_add, own_cell h.row (k * 8 + 2) (by omega) rfl, sailCell_2]
  · rw [Nat.zero_add, own_cell h.row (k * 8 + 3) (by omega) rfl, sailCell_3]
  · rw [Nat.zero_add, own_cell h.row (k * 8 + 4) (by omega) rfl, sailCell_4]
  · rw [Nat.zero_add, own_cell h.row (k * 8 + 5) (by omega) rfl, sailCell_5, e1]
  · rw [Nat.zero_add, own_cell h.row (k * 8 + 6) (by omega) rfl, sailCell_6, e2]
  · rw [Nat.zero_add, own_cell h.row (k * 8 + 7) (by omega) rfl, sailCell_7]
theorem OwnSails.nil (w : World) (base : Nat) (S : Nat → Sail) (L C : Nat → Value) : OwnSails w base (.slice none 0 0) 0 S L C :=
  ⟨⟨rfl, .inl ⟨rfl, rfl⟩⟩, fun i hi => by omega, fun i hi => by omega, fun i j hi hj => by omega⟩

end Go.Proofs.Ytlnadbnoemlpeaa
