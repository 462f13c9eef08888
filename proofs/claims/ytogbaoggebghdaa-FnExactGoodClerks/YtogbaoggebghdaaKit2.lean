/-
  OWN TEXT: small words for walks, second part: worlds that have drawn; writes into a call's own rows.
-/
import Derived.Test.YtogbaoggebghdaaKit
namespace Go.Proofs.Ytogbaoggebghdaa
open Go.RowKit

theorem blk_drew {w : World} {b : Nat} {o : Obj} (h : w.heap[b]? = some o) : w.drew.heap[b]? = some o := h

/-- w' is w with new blocks, and with writes to blocks of S alone. -/
structure Kept (w w' : World) (S : Nat → Prop) : Prop where
  os : w'.os = w.os
  tape : w'.tape = w.tape
  output : w'.output = w.output
  size : w.heap.size ≤ w'.heap.size
  block : ∀ k, k < w.heap.size → ¬ S k → w'.heap[k]? = w.heap[k]?

theorem Kept.refl (w : World) (S : Nat → Prop) : Kept w w S := ⟨rfl, rfl, rfl, Nat.le_refl _, fun _ _ _ => rfl⟩
theorem Kept.trans {w w' w'' : World} {S : Nat → Prop} (h : Kept w w' S) (k : Kept w' w'' S) : Kept w w'' S :=
  ⟨k.os.trans h.os, k.tape.trans h.tape, k.output.trans h.output, Nat.le_trans h.size k.size, fun i hi hs => (k.block i (Nat.lt_of_lt_of_le hi h.size) hs).trans (h.block i hi hs)⟩
theorem Kept.mono {w w' : World} {S T : Nat → Prop} (h : Kept w w' S) (hs : ∀ k, S k → T k) : Kept w w' T := ⟨h.os, h.tape, h.output, h.size, fun i hi ht => h.block i hi fun s => ht (hs i s)⟩
theorem Kept.of_below {w w' : World} {S : Nat → Prop} (h : Below w.heap.size w w') : Kept w w' S := ⟨h.os, h.tape, h.output, h.size, fun i hi _ => h.block i hi⟩
theorem Kept.set {w w' : World} {S : Nat → Prop} (h : Kept w w' S) {a : Addr} (ha : S a.block) (u : Value) : Kept w (w'.setCell a u) S :=
  h.trans ⟨rfl, rfl, rfl, by simp, fun k _ hk => Below.heap_setCell _ _ _ _ (fun e => hk (e ▸ ha))⟩
theorem Kept.below {B : Nat} {w0 w w' : World} {S : Nat → Prop} (h0 : Below B w0 w) (hB : B ≤ w.heap.size) (h : Kept w w' S) (hS : ∀ k, S k → B ≤ k) : Below B w0 w' :=
  h0.trans ⟨h.os, h.tape, h.output, h.size, fun k hk => h.block k (by omega) (fun s => by have := hS k s; omega)⟩
theorem Kept.blk {w w' : World} {S : Nat → Prop} (h : Kept w w' S) {b : Nat} {o : Obj} (hb : w.heap[b]? = some o) (hs : ¬ S b) : w'.heap[b]? = some o := (h.block b (blk_lt hb) hs).trans hb
theorem Kept.own {w w' : World} {S : Nat → Prop} (h : Kept w w' S) {base e size n : Nat} {v : Value} {xs : List Value} (ho : w.ownsRow base e size v n xs) (hs : ∀ g, v.ownBlock = some g → ¬ S g) : w'.ownsRow base e size v n xs := by
  refine ⟨ho.1, ?_⟩
  rcases ho.2 with h0 | ⟨g, cap, cur, rfl, hb, hg, rest⟩
  · exact .inl h0
  · exact .inr ⟨g, cap, cur, rfl, hb, h.blk hg (hs g rfl), rest⟩
theorem own_below {w w' : World} (h : Below w.heap.size w w') {base e size n : Nat} {v : Value} {xs : List Value} (ho : w.ownsRow base e size v n xs) : w'.ownsRow base e size v n xs :=
  (Kept.of_below (S := fun _ => False) h).own ho (fun _ _ h => h)

/-- Two owned rows of different element types lie in different blocks. -/
theorem own_apart {w : World} {b1 e1 s1 n1 b2 e2 s2 n2 : Nat} {v1 v2 : Value} {x1 x2 : List Value} (h1 : w.ownsRow b1 e1 s1 v1 n1 x1) (h2 : w.ownsRow b2 e2 s2 v2 n2 x2) (hne : e1 ≠ e2) : ∀ g, v1.ownBlock = some g → v2.ownBlock ≠ some g := by
  intro g hg1 hg2
  rcases h1.2 with ⟨rfl, _⟩ | ⟨g1, c1, r1, rfl, _, k1, _⟩
  · simp [Value.ownBlock] at hg1
  · rcases h2.2 with ⟨rfl, _⟩ | ⟨g2, c2, r2, rfl, _, k2, _⟩
    · simp [Value.ownBlock] at hg2
    · simp only [Value.ownBlock, Option.some.injEq] at hg1 hg2
      subst hg1
      subst hg2
      rw [k1] at k2
      simp at k2
      exact hne k2.2

/-- A row that is known whole, as an owned one. -/
theorem own_of_row {w : World} {g e n size base : Nat} {f : Nat → Value} (h : w.rowIs g e (n * size) f) (hb : base ≤ g) (hn : n ≤ maxLen) : w.ownsRow base e size (.slice (some ⟨g, 0, none⟩) n n) n ((List.range (n * size)).map f) := by
  obtain ⟨c, hg, hs, hc⟩ := h
  refine ⟨by simp, .inr ⟨g, n, c, rfl, hb, hg, Nat.le_refl _, hn, hs, ?_⟩⟩
  apply List.ext_getElem?
  intro i
  rw [List.getElem?_take]
  by_cases hi : i < n * size
  · rw [if_pos hi, List.getElem?_map, List.getElem?_range hi, Array.getElem?_toList, hc i hi]; rfl
  · rw [if_neg hi, List.getElem?_eq_none (by simpa using hi)]

theorem range_set {N j : Nat} {f : Nat → Value} {u : Value} : ((List.range N).map f).set j u = (List.range N).map (fun i => if i = j then u else f i) := by
  apply List.ext_getElem?
  intro i
  rw [List.getElem?_set, List.getElem?_map, List.getElem?_map, List.length_map, List.length_range]
  by_cases hi : i < N
  · rw [List.getElem?_range hi]
    by_cases e : j = i
    · subst e; simp [hi]
    · rw [if_neg e]; simp [show ¬ i = j from fun h => e h.symm]
  · rw [List.getElem?_eq_none (l := List.range N) (by simpa using hi)]
    by_cases e : j = i
    · subst e; simp [hi]
    · rw [if_neg e]; rfl
theorem own_store {w : World} {base e size g n cap N : Nat} {f : Nat → Value} (h : w.ownsRow base e size (.slice (some ⟨g, 0, none⟩) n cap) n ((List.range N).map f)) (j : Nat) (u : Value) :
    (w.setCell ⟨g, j, none⟩ u).ownsRow base e size (.slice (some ⟨g, 0, none⟩) n cap) n ((List.range N).map (fun i => if i = j then u else f i)) := by
  have := (h.stored j u).1
  rwa [range_set] at this
theorem own_congr {w : World} {base e size n N : Nat} {v : Value} {f f' : Nat → Value} (h : w.ownsRow base e size v n ((List.range N).map f)) (hf : ∀ i, i < N → f i = f' i) : w.ownsRow base e size v n ((List.range N).map f') := by
  have : (List.range N).map f = (List.range N).map f' := List.map_congr_left fun i hi => hf i (by simpa using hi)
  rwa [this] at h
theorem own_cell {w : World} {base e size g n cap N : Nat} {f : Nat → Value} (h : w.ownsRow base e size (.slice (some ⟨g, 0, none⟩) n cap) n ((List.range N).map f)) (j : Nat) (hj : j < n * size) (hN : N = n * size) : w.cell? ⟨g, j, none⟩ = some (f j) := by
  rw [h.cellAt j hj, List.getElem?_map, List.getElem?_range (by omega)]; rfl
/-- An owned row that is not empty, its address written out. -/
theorem own_addr {w : World} {base e size n c : Nat} {ao : Option Addr} {xs : List Value} (h : w.ownsRow base e size (.slice ao n c) n xs) (hn : 0 < n) : ∃ g, ao = some ⟨g, 0, none⟩ ∧ base ≤ g ∧ g < w.heap.size := by
  obtain ⟨g, cap, e, h1, h2⟩ := h.form hn
  simp only [Value.slice.injEq, true_and] at e
  exact ⟨g, e.1, h1, h2⟩

end Go.Proofs.Ytogbaoggebghdaa
