/-
  OWN TEXT: Kit2, MarkL0.
-/
import Derived.Test.YtdmkpflphjemoaaB00
import Derived.Test.YtdmkpflphjemoaaB02
namespace Go.Proofs.Ytdmkpflphjemoaa
open Go.RowKit

theorem blk_drew {w : World} {b : Nat} {o : Obj} (h : w.heap[b]? = some o) : w.drew.heap[b]? = some o := h

/-- w' is w with new blocks, and with writes to blocks of S alone. -/
structure Kept (w w' : World) (S : Nat → Prop) : Prop where
  os : w'.os = w.os
  tape : w'.tape = w.tape
  output : w'.output = w.output
  size : w.heap.size ≤ w'.heap.size
  block : ∀ k, k < w.heap.size → ¬ S k → w'.heap[k]? = w.heap[k]?

theorem Kept.refl (w : World) (S : Nat → Prop) : Kept w w S := ⟨rfl, rfl, rfl, Nat.le_refl _, fun _ _ _ => rfl⟩
theorem Kept.trans {w w' w'' : World} {S : Nat → Prop} (h : Kept w w' S) (k : Kept w' w'' S) : Kept w w'' S :=
  ⟨k.os.trans h.os, k.tape.trans h.tape, k.output.trans h.output, Nat.le_trans h.size k.size, fun i hi hs => (k.block i (Nat.lt_of_lt_of_le hi h.size) hs).trans (h.block i hi hs)⟩
theorem Kept.mono {w w' : World} {S T : Nat → Prop} (h : Kept w w' S) (hs : ∀ k, S k → T k) : Kept w w' T := ⟨h.os, h.tape, h.output, h.size, fun i hi ht => h.block i hi fun s => ht (hs i s)⟩
theorem Kept.of_below {w w' : World} {S : Nat → Prop} (h : Below w.heap.size w w') : Kept w w' S := ⟨h.os, h.tape, h.output, h.size, fun i hi _ => h.block i hi⟩
theorem Kept.set {w w' : World} {S : Nat → Prop} (h : Kept w w' S) {a : Addr} (ha : S a.block) (u : Value) : Kept w (w'.setCell a u) S :=
  h.trans ⟨rfl, rfl, rfl, by simp, fun k _ hk => Below.heap_setCell _ _ _ _ (fun e => hk (e ▸ ha))⟩
theorem Kept.below {B : Nat} {w0 w w' : World} {S : Nat → Prop} (h0 : Below B w0 w) (hB : B ≤ w.heap.size) (h : Kept w w' S) (hS : ∀ k, S k → B ≤ k) : Below B w0 w' :=
  h0.trans ⟨h.os, h.tape, h.output, h.size, fun k hk => h.block k (by omega) (fun s => by have := hS k s; omega)⟩
theorem Kept.blk {w w' : World} {S : Nat → Prop} (h : Kept w w' S) {b : Nat} {o : Obj} (hb : w.heap[b]? = some o) (hs : ¬ S b) : w'.heap[b]? = some o := (h.block b (blk_lt hb) hs).trans hb
theorem Kept.own {w w' : World} {S : Nat → Prop} (h : Kept w w' S) {base e size n : Nat} {v : Value} {xs : List Value} (ho : w.ownsRow base e size v n xs) (hs : ∀ g, v.ownBlock = some g → ¬ S g) : w'.ownsRow base e size v n xs := by
  refine ⟨ho.1, ?_⟩
  rcases ho.2 with h0 | ⟨g, cap, cur, rfl, hb, hg, rest⟩
  · exact .inl h0
  · exact .inr ⟨g, cap, cur, rfl, hb, h.blk hg (hs g rfl), rest⟩
theorem own_below {w w' : World} (h : Below w.heap.size w w') {base e size n : Nat} {v : Value} {xs : List Value} (ho : w.ownsRow base e size v n xs) : w'.ownsRow base e size v n xs :=
  (Kept.of_below (S := fun _ => False) h).own ho (fun _ _ h => h)

/-- Two owned rows of different element types lie in different blocks. -/
theorem own_apart {w : World} {b1 e1 s1 n1 b2 e2 s2 n2 : Nat} {v1 v2 : Value} {x1 x2 : List Value} (h1 : w.ownsRow b1 e1 s1 v1 n1 x1) (h2 : w.ownsRow b2 e2 s2 v2 n2 x2) (hne : e1 ≠ e2) : ∀ g, v1.ownBlock = some g → v2.ownBlock ≠ some g := by
  intro g hg1 hg2
  rcases h1.2 with ⟨rfl, _⟩ | ⟨g1, c1, r1, rfl, _, k1, _⟩
  · simp [Value.ownBlock] at hg1
  · rcases h2.2 with ⟨rfl, _⟩ | ⟨g2, c2, r2, rfl, _, k2, _⟩
    · simp [Value.ownBlock] at hg2
    · simp only [Value.ownBlock, Option.some.injEq] at hg1 hg2
      subst hg1
      subst hg2
      rw [k1] at k2
      simp at k2
      exact hne k2.2

/-- A row that is known whole, as an owned one. -/
theorem own_of_row {w : World} {g e n size base : Nat} {f : Nat → Value} (h : w.rowIs g e (n * size) f) (hb : base ≤ g) (hn : n ≤ maxLen) : w.ownsRow base e size (.slice (some ⟨g, 0, none⟩) n n) n ((List.range (n * size)).map f) := by
  obtain ⟨c, hg, hs, hc⟩ := h
  refine ⟨by simp, .inr ⟨g, n, c, rfl, hb, hg, Nat.le_refl _, hn, hs, ?_⟩⟩
  apply List.ext_getElem?
  intro i
  rw [List.getElem?_take]
  by_cases hi : i < n * size
  · rw [if_pos hi, List.getElem?_map, List.getElem?_range hi, Array.getElem?_toList, hc i hi]; rfl
  · rw [if_neg hi, List.getElem?_eq_none (by simpa using hi)]

theorem range_set {N j : Nat} {f : Nat → Value} {u : Value} : ((List.range N).map f).set j u = (List.range N).map (fun i => if i = j then u else f i) := by
  apply List.ext_getElem?
  intro i
  rw [List.getElem?_set, List.getElem?_map, List.getElem?_map, List.length_map, List.length_range]
  by_cases hi : i < N
  · rw [List.getElem?_range hi]
    by_cases e : j = i
    · subst e; simp [hi]
    · rw [if_neg e]; simp [show ¬ i = j from fun h => e h.symm]
  · rw [List.getElem?_eq_none (l := List.range N) (by simpa using hi)]
    by_cases e : j = i
    · subst e; simp [hi]
    · rw [if_neg e]; rfl
theorem own_store {w : World} {base e size g n cap N : Nat} {f : Nat → Value} (h : w.ownsRow base e size (.slice (some ⟨g, 0, none⟩) n cap) n ((List.range N).map f)) (j : Nat) (u : Value) :
    (w.setCell ⟨g, j, none⟩ u).ownsRow base e size (.slice (some ⟨g, 0, none⟩) n cap) n ((List.range N).map (fun i => if i = j then u else f i)) := by
  have := (h.stored j u).1
  rwa [range_set] at this
theorem own_congr {w : World} {base e size n N : Nat} {v : Value} {f f' : Nat → Value} (h : w.ownsRow base e size v n ((List.range N).map f)) (hf : ∀ i, i < N → f i = f' i) : w.ownsRow base e size v n ((List.range N).map f') := by
  have : (List.range N).map f = (List.range N).map f' := List.map_congr_left fun i hi => hf i (by simpa using hi)
  rwa [this] at h
theorem own_cell {w : World} {base e size g n cap N : Nat} {f : Nat → Value} (h : w.ownsRow base e size (.slice (some ⟨g, 0, none⟩) n cap) n ((List.range N).map f)) (j : Nat) (hj : j < n * size) (hN : N = n * size) : w.cell? ⟨g, j, none⟩ = some (f j) := by
  rw [h.cellAt j hj, List.getElem?_map, List.getElem?_range (by omega)]; rfl
/-- An owned row that is not empty, its address written out. -/
theorem own_addr {w : World} {base e size n c : Nat} {ao : Option Addr} {xs : List Value} (h : w.ownsRow base e size (.slice ao n c) n xs) (hn : 0 < n) : ∃ g, ao = some ⟨g, 0, none⟩ ∧ base ≤ g ∧ g < w.heap.size := by
  obtain ⟨g, cap, e, h1, h2⟩ := h.form hn
  simp only [Value.slice.injEq, true_and] at e
  exact ⟨g, e.1, h1, h2⟩

end Go.Proofs.Ytdmkpflphjemoaa

namespace Go.Proofs.Ytdmkpflphjemoaa
open Go.RowKit

/-- What markAskedS lays into place j. -/
def mkT (k0 : Int) (j : Nat) : Int := k0 + 2 * j
def mkS (k0 : Int) (j : Nat) : Bool := (k0 + 2 * j + 1) % 3 == 0
def markLine (n : Nat) (k0 : Int) : Line := ⟨n, mkT k0, mkS k0⟩
/-- f below t, g from t on. -/
def uponL {α : Type} (t : Nat) (f g : Nat → α) (i : Nat) : α := if i < t then f i else g i
theorem uponL_at {α : Type} (t : Nat) (f g : Nat → α) : uponL (t + 1) f g t = f t := if_pos (by omega)
theorem uponL_ne {α : Type} (t : Nat) (f g : Nat → α) (i : Nat) (h : i ≠ t) : uponL (t + 1) f g i = uponL t f g i := by
  unfold uponL; by_cases h2 : i < t
  · rw [if_pos h2, if_pos (by omega)]
  · rw [if_neg h2, if_neg (by omega)]
theorem uponL_lt {α : Type} {t i : Nat} (f g : Nat → α) (h : i < t) : uponL t f g i = f i := if_pos h
theorem uponL_ge {α : Type} {t i : Nat} (f g : Nat → α) (h : ¬ i < t) : uponL t f g i = g i := if_neg h
def lineUpon (t : Nat) (l l' : Line) : Line := ⟨l'.n, uponL t l.T l'.T, uponL t l.S l'.S⟩

/-- The cells of a line. -/
def askList (l : Line) : List Value := (List.range (l.n * 2)).map (askCell l)

/-- One that asks is stored into an owned row. -/
theorem own_ask {w : World} {base e g n cap N k : Nat} {l l' : Line} (h : w.ownsRow base e 2 (.slice (some ⟨g, 0, none⟩) n cap) n ((List.range N).map (askCell l)))
    (hT : ∀ i, i ≠ k → l'.T i = l.T i) (hS : ∀ i, i ≠ k → l'.S i = l.S i) :
    ((w.setCell ⟨g, k * 2, none⟩ (.int .i64 (l'.T k))).setCell ⟨g, k * 2 + 1, none⟩ (.bool (l'.S k))).ownsRow base e 2 (.slice (some ⟨g, 0, none⟩) n cap) n ((List.range N).map (askCell l')) := by
  refine own_congr (own_store (own_store h (k * 2) _) (k * 2 + 1) _) fun j _ => ?_
  by_cases h1 : j = k * 2 + 1
  · subst h1; rw [if_pos rfl, askCell_1]
  · rw [if_neg h1]
    by_cases h0 : j = k * 2
    · subst h0; rw [if_pos rfl, askCell_0]
    · rw [if_neg h0]
      have hk : j / 2 ≠ k := by omega
      unfold askCell
      rw [hT _ hk, hS _ hk]

/-- Locks in rows of their own: no two lie in one block. -/
structure LocksOwn (w : World) (base N : Nat) (v : Value) (K : Nat → Int) (H Q : Nat → Line) (hs qs : Nat → Value) : Prop where
  row : w.ownsRow base 60 3 v N ((List.range (N * 3)).map (lockCell K hs qs))
  held : ∀ i, i < N → w.ownsRow base 57 2 (hs i) (H i).n (askList (H i))
  queue : ∀ i, i < N → w.ownsRow base 57 2 (qs i) (Q i).n (askList (Q i))
  hh : ∀ i j, i < N → j < N → i ≠ j → ∀ b, (hs i).ownBlock = some b → (hs j).ownBlock ≠ some b
  hq : ∀ i j, i < N → j < N → ∀ b, (hs i).ownBlock = some b → (qs j).ownBlock ≠ some b
  qq : ∀ i j, i < N → j < N → i ≠ j → ∀ b, (qs i).ownBlock = some b → (qs j).ownBlock ≠ some b
/-- The blocks of such locks. -/
def LockBlocks (N : Nat) (v : Value) (hs qs : Nat → Value) (b : Nat) : Prop := v.ownBlock = some b ∨ ∃ i, i < N ∧ ((hs i).ownBlock = some b ∨ (qs i).ownBlock = some b)


theorem LocksOwn.setKey {w : World} {base N t g c : Nat} {K K' : Nat → Int} {H Q : Nat → Line} {hs qs : Nat → Value} (L : LocksOwn w base N (.slice (some ⟨g, 0, none⟩) N c) K H Q hs qs) (x : Int) (hx : K' t = x) (hK : ∀ i, i ≠ t → K' i = K i) :
    LocksOwn (w.setCell ⟨g, t * 3, none⟩ (.int .i64 x)) base N (.slice (some ⟨g, 0, none⟩) N c) K' H Q hs qs := by
  have hk : Kept w (w.setCell ⟨g, t * 3, none⟩ (.int .i64 x)) (fun b => b = g) := (Kept.refl w (fun b => b = g)).set (a := ⟨g, t * 3, none⟩) rfl _
  refine ⟨own_congr (own_store L.row (t * 3) _) (fun j _ => ?_), fun i hi => hk.own (L.held i hi) (fun b hb e => own_apart L.row (L.held i hi) (by decide) g rfl (e ▸ hb)), fun i hi => hk.own (L.queue i hi) (fun b hb e => own_apart L.row (L.queue i hi) (by decide) g rfl (e ▸ hb)), L.hh, L.hq, L.qq⟩
  by_cases e : j = t * 3
  · subst e; rw [if_pos rfl, lockCell_0, hx]
  · rw [if_neg e]
    unfold lockCell
    by_cases e0 : j % 3 = 0
    · rw [if_pos e0, if_pos e0, hK _ (by omega)]
    · rw [if_neg e0, if_neg e0]

theorem LocksOwn.setHeld {w w' : World} {base N t : Nat} {v : Value} {K : Nat → Int} {H H' Q : Nat → Line} {hs qs : Nat → Value} (L : LocksOwn w base N v K H Q hs qs) (ht : t < N) (hk : Kept w w' (fun b => (hs t).ownBlock = some b))
    (ho : w'.ownsRow base 57 2 (hs t) (H' t).n (askList (H' t))) (hH : ∀ i, i ≠ t → H' i = H i) : LocksOwn w' base N v K H' Q hs qs := by
  refine ⟨hk.own L.row (fun b hb e => own_apart L.row (L.held t ht) (by decide) b hb e), fun i hi => ?_, fun i hi => hk.own (L.queue i hi) (fun b hb e => L.hq t i ht hi b e hb), L.hh, L.hq, L.qq⟩
  by_cases e : i = t
  · subst e; exact ho
  · rw [hH i e]; exact hk.own (L.held i hi) (fun b hb e' => L.hh t i ht hi (fun h => e h.symm) b e' hb)
theorem LocksOwn.setQueue {w w' : World} {base N t : Nat} {v : Value} {K : Nat → Int} {H Q Q' : Nat → Line} {hs qs : Nat → Value} (L : LocksOwn w base N v K H Q hs qs) (ht : t < N) (hk : Kept w w' (fun b => (qs t).ownBlock = some b))
    (ho : w'.ownsRow base 57 2 (qs t) (Q' t).n (askList (Q' t))) (hQ : ∀ i, i ≠ t → Q' i = Q i) : LocksOwn w' base N v K H Q' hs qs := by
  refine ⟨hk.own L.row (fun b hb e => own_apart L.row (L.queue t ht) (by decide) b hb e), fun i hi => hk.own (L.held i hi) (fun b hb e => L.hq i t hi ht b hb e), fun i hi => ?_, L.hh, L.hq, L.qq⟩
  by_cases e : i = t
  · subst e; exact ho
  · rw [hQ i e]; exact hk.own (L.queue i hi) (fun b hb e' => L.qq t i ht hi (fun h => e h.symm) b e' hb)

/-- A copy that toLockS made, as locks in rows of their own. -/
theorem LocksTo.own {w : World} {lo g N : Nat} {K : Nat → Int} {H Q : Nat → Line} {h q : Nat → Nat} (r : LocksTo w 60 57 N lo g N K H Q h q) (hN : N ≤ 1048576) (hs : ShortTo N H Q 1048576) :
    LocksOwn w lo N (.slice (some ⟨g, 0, none⟩) N N) K H Q (fun i => whole (h i) (H i).n) (fun i => whole (q i) (Q i).n) := by
  have hrise : ∀ i j, i < j → j < N → h i < h j ∧ q i < q j ∧ q i < h j := fun i j hij hj => by
    have h1 := r.rise i j hij hj
    have h2 := (r.queue i (by omega)).1
    have h3 := (r.queue j hj).1
    exact ⟨by omega, by omega, h1⟩
  refine ⟨own_congr (own_of_row r.row r.lo (by unfold maxLen; omega)) (fun j hj => ?_), fun i hi => own_of_row (r.held i hi).2 (by have := (r.held i hi).1; have := r.lo; omega) (by have := (hs i hi).1; unfold maxLen; omega), fun i hi => own_of_row (r.queue i hi).2 (by have := (r.queue i hi).1; have := (r.held i hi).1; have := r.lo; omega) (by have := (hs i hi).2; unfold maxLen; omega), ?_, ?_, ?_⟩
  · unfold lockCell; rw [upto_lt _ _ (by omega), upto_lt _ _ (by omega), upto_lt _ _ (by omega)]
  · intro i j hi hj hne b e1 e2
    simp only [whole, Value.ownBlock, Option.some.injEq] at e1 e2
    rcases Nat.lt_or_gt_of_ne hne with hl | hl
    · have := hrise i j hl hj; omega
    · have := hrise j i hl hi; omega
  · intro i j hi hj b e1 e2
    simp only [whole, Value.ownBlock, Option.some.injEq] at e1 e2
    rcases Nat.lt_trichotomy i j with hl | hl | hl
    · have := hrise i j hl hj; have := (r.queue j hj).1; omega
    · subst hl; have := (r.queue i hi).1; omega
    · have := hrise j i hl hi; omega
  · intro i j hi hj hne b e1 e2
    simp only [whole, Value.ownBlock, Option.some.injEq] at e1 e2
    rcases Nat.lt_or_gt_of_ne hne with hl | hl
    · have := hrise i j hl hj; omega
    · have := hrise j i hl hi; omega
theorem LocksTo.blocks {w : World} {lo g N hi : Nat} {K : Nat → Int} {H Q : Nat → Line} {h q : Nat → Nat} (r : LocksTo w 60 57 N lo g N K H Q h q) (hh : w.heap.size ≤ hi) : ∀ b, LockBlocks N (.slice (some ⟨g, 0, none⟩) N N) (fun i => whole (h i) (H i).n) (fun i => whole (q i) (Q i).n) b → lo ≤ b ∧ b < hi := by
  rintro b (e | ⟨i, hi', e | e⟩)
  · simp only [Value.ownBlock, Option.some.injEq] at e
    have := r.lo; have := r.row.lt; omega
  · simp only [whole, Value.ownBlock, Option.some.injEq] at e
    have := r.lo; have := r.held i hi'; have := this.2.lt; omega
  · simp only [whole, Value.ownBlock, Option.some.injEq] at e
    have h1 := r.lo; have h2 := (r.held i hi').1; have h3 := r.queue i hi'; have := h3.2.lt; omega

end Go.Proofs.Ytdmkpflphjemoaa
