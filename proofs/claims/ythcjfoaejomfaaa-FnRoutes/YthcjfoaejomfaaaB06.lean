/-
  OWN TEXT: KitOwn, DrawX.
-/
import Derived.Test.YthcjfoaejomfaaaB05
import Derived.Test.YthcjfoaejomfaaaB04
namespace Go.Proofs.Ythcjfoaejomfaaa
open Go.RowKit

/-- The cells of pairs. -/
def pairRow (p : Pairs) : List Value := (List.range (p.n * 2)).map (pairCell p)
theorem pairRow_length (p : Pairs) : (pairRow p).length = p.n * 2 := by simp [pairRow]
theorem pairRow_get {p : Pairs} {j : Nat} {u : Value} (h : (pairRow p)[j]? = some u) : j < p.n * 2 ∧ u = pairCell p j := by
  unfold pairRow at h
  rw [List.getElem?_map] at h
  by_cases hj : j < p.n * 2
  · rw [List.getElem?_range hj] at h; simp at h; exact ⟨hj, h.symm⟩
  · rw [List.getElem?_eq_none (by simpa using hj)] at h; cases h
theorem pairRow_one (p : Pairs) : ∀ u ∈ pairRow p, u.oneCell' = true := by
  intro u hu
  unfold pairRow at hu
  obtain ⟨j, _, rfl⟩ := List.mem_map.1 hu
  unfold pairCell
  split <;> rfl
theorem pairs_cells {w : World} {ao : Option Addr} {p : Pairs} (h : PairsAt w ao p) : ∀ ad, ao = some ad → ∀ j u, (pairRow p)[j]? = some u → w.cell? (ad.add j) = some u := by
  intro ad e j u hu
  obtain ⟨hj, rfl⟩ := pairRow_get hu
  obtain ⟨b, off, e2, h0, h1⟩ := h (j / 2) (by omega)
  rw [e] at e2
  cases e2
  rw [Addr.add_lit]
  unfold pairCell
  by_cases c : j % 2 = 0
  · rw [if_pos c, ← h0, show off + j / 2 * 2 = off + j by omega]
  · rw [if_neg c, ← h1, show off + j / 2 * 2 + 1 = off + j by omega]
theorem pairs_of_own {w : World} {base t c : Nat} {ao : Option Addr} {p : Pairs} (h : w.ownsRow base t 2 (.slice ao p.n c) p.n (pairRow p)) : PairsAt w ao p := by
  intro k hk
  obtain ⟨g, rfl, _, _⟩ := own_addr h (by omega)
  refine ⟨g, 0, rfl, ?_, ?_⟩
  · rw [Nat.zero_add, own_cell h (k * 2) (by omega) rfl, pairCell_0]
  · rw [Nat.zero_add, own_cell h (k * 2 + 1) (by omega) rfl, pairCell_1]

/-- Sailings that lie in memory of their own, from base on. -/
structure OwnSails (w : World) (base : Nat) (v : Value) (N : Nat) (S : Nat → Sail) (L C : Nat → Value) : Prop where
  row : w.ownsRow base 33 8 v N ((List.range (N * 8)).map (sailCell S L C))
  la : ∀ i, i < N → w.ownsRow base 70 2 (L i) (S i).la.n (pairRow (S i).la)
  ca : ∀ i, i < N → w.ownsRow base 72 2 (C i) (S i).ca.n (pairRow (S i).ca)
  apart : ∀ i j, i < j → j < N → (∀ b, (L i).ownBlock = some b → (L j).ownBlock ≠ some b) ∧ (∀ b, (C i).ownBlock = some b → (C j).ownBlock ≠ some b)
theorem OwnSails.below {w w' : World} {base : Nat} {v : Value} {N : Nat} {S : Nat → Sail} {L C : Nat → Value} (h : OwnSails w base v N S L C) (hb : Below w.heap.size w w') : OwnSails w' base v N S L C :=
  ⟨own_below hb h.row, fun i hi => own_below hb (h.la i hi), fun i hi => own_below hb (h.ca i hi), h.apart⟩
theorem OwnSails.kept {w w' : World} {base : Nat} {v : Value} {N : Nat} {S : Nat → Sail} {L C : Nat → Value} {T : Nat → Prop} (h : OwnSails w base v N S L C) (hk : Kept w w' T) (hT : ∀ b, T b → b < base) : OwnSails w' base v N S L C :=
  ⟨hk.own h.row (fun g hg s => by have := (h.row.lt g hg).1; have := hT g s; omega), fun i hi => hk.own (h.la i hi) (fun g hg s => by have := ((h.la i hi).lt g hg).1; have := hT g s; omega),
    fun i hi => hk.own (h.ca i hi) (fun g hg s => by have := ((h.ca i hi).lt g hg).1; have := hT g s; omega), h.apart⟩
theorem OwnSails.base {w : World} {b1 b2 : Nat} {v : Value} {N : Nat} {S : Nat → Sail} {L C : Nat → Value} (h : OwnSails w b1 v N S L C) (hb : b2 ≤ b1) : OwnSails w b2 v N S L C :=
  ⟨own_base h.row hb, fun i hi => own_base (h.la i hi) hb, fun i hi => own_base (h.ca i hi) hb, h.apart⟩
theorem OwnSails.at {w : World} {base : Nat} {ao : Option Addr} {N c : Nat} {S : Nat → Sail} {L C : Nat → Value} (h : OwnSails w base (.slice ao N c) N S L C) : SailsAt w ao N S := by
  intro k hk
  obtain ⟨g, rfl, _, _⟩ := own_addr h.row (by omega)
  obtain ⟨la, lc, e1, l1, l2, l3⟩ := own_form (h.la k hk)
  obtain ⟨ca, cc, e2, c1, c2, c3⟩ := own_form (h.ca k hk)
  have o1 := h.la k hk
  have o2 := h.ca k hk
  rw [e1] at o1
  rw [e2] at o2
  refine ⟨g, 0, la, lc, ca, cc, rfl, ?_, ?_, ?_, ?_, ?_, ?_, ?_, ?_, pairs_of_own o1, pairs_of_own o2, ⟨l1, l2, l3⟩, ⟨c1, c2, c3⟩⟩
  · rw [Nat.zero_add, own_cell h.row (k * 8) (by omega) rfl, sailCell_0]
  · rw [Nat.zero_add, own_cell h.row (k * 8 + 1) (by omega) rfl, sailCell_1]
  · rw [Nat.zero_add, own_cell h.row (k * 8 + 2) (by omega) rfl, sailCell_2]
  · rw [Nat.zero_add, own_cell h.row (k * 8 + 3) (by omega) rfl, sailCell_3]
  · rw [Nat.zero_add, own_cell h.row (k * 8 + 4) (by omega) rfl, sailCell_4]
  · rw [Nat.zero_add, own_cell h.row (k * 8 + 5) (by omega) rfl, sailCell_5, e1]
  · rw [Nat.zero_add, own_cell h.row (k * 8 + 6) (by omega) rfl, sailCell_6, e2]
  · rw [Nat.zero_add, own_cell h.row (k * 8 + 7) (by omega) rfl, sailCell_7]
theorem OwnSails.nil (w : World) (base : Nat) (S : Nat → Sail) (L C : Nat → Value) : OwnSails w base (.slice none 0 0) 0 S L C :=
  ⟨⟨rfl, .inl ⟨rfl, rfl⟩⟩, fun i hi => by omega, fun i hi => by omega, fun i j hi hj => by omega⟩

end Go.Proofs.Ythcjfoaejomfaaa

namespace Go.Proofs.Ythcjfoaejomfaaa
open Go.RowKit

def CurX (w : World) (cb : Nat) (ao : Option Addr) (n c a : Nat) : Prop := ∃ p s, p ≤ a ∧ CurAt w cb ao n c p s
theorem CurX.more {w : World} {cb n c a b : Nat} {ao : Option Addr} (h : CurX w cb ao n c a) (hab : a ≤ b) : CurX w cb ao n c b := by
  obtain ⟨p, s, hp, hc⟩ := h
  exact ⟨p, s, by omega, hc⟩
theorem CurX.lt {w : World} {cb n c a : Nat} {ao : Option Addr} (h : CurX w cb ao n c a) : cb < w.heap.size := by
  obtain ⟨p, s, hp, hc⟩ := h
  exact blk_lt hc.box
theorem CurX.below {w w' : World} {cb n c a : Nat} {ao : Option Addr} (h : CurX w cb ao n c a) (hb : Below w.heap.size w w') : CurX w' cb ao n c a := by
  obtain ⟨p, s, hp, hc⟩ := h
  exact ⟨p, s, hp, hc.below hb⟩
theorem CurX.far {w w' : World} {cb n c a : Nat} {ao : Option Addr} {T : Nat → Prop} (h : CurX w cb ao n c a) (hk : Kept w w' T) (h1 : ¬ T cb) (h2 : ∀ k, k < n → ∀ b off, ao = some ⟨b, off, none⟩ → ¬ T b) : CurX w' cb ao n c a := by
  obtain ⟨p, s, hp, hc⟩ := h
  refine ⟨p, s, hp, hk.blk hc.box h1, fun k hk' => ?_⟩
  obtain ⟨b, off, v, e, hne, hcell, q1, q2⟩ := hc.code k hk'
  exact ⟨b, off, v, e, hne, hk.cellAt hcell (h2 k hk' b off e), q1, q2⟩
theorem CurX.low {w : World} {cb n c a : Nat} {ao : Option Addr} (h : CurX w cb ao n c a) : CodeLow w ao n := by
  obtain ⟨p, s, hp, hc⟩ := h
  intro k hk b off e
  obtain ⟨b', off', v, e', _, hcell, _⟩ := hc.code k hk
  rw [e] at e'
  cases e'
  exact World.block_lt_of_cell? w _ hcell
theorem kept_away' {w w1 w2 : World} {S T : Nat → Prop} (h : Kept w w1 S) (hk : Kept w1 w2 T) (hT : ∀ b, T b → w.heap.size ≤ b) : Kept w w2 S :=
  ⟨hk.os.trans h.os, hk.tape.trans h.tape, hk.output.trans h.output, Nat.le_trans h.size hk.size, fun i hi hs => (hk.block i (Nat.lt_of_lt_of_le hi h.size) (fun e => by have := hT i e; omega)).trans (h.block i hi hs)⟩

theorem pickC (cb : Nat) (ao : Option Addr) (n c a m : Nat) (w : World) (ha : a ≤ 900000000000000000) (hm : 2 ≤ m) (hm2 : m ≤ 200) (h : CurX w cb ao n c a) :
    Calls Try.prog 13 #[.pointer (some ⟨cb, 0, none⟩), .int .i64 m] w fun e w' => (∃ r : Nat, e = .returned (.int .i64 r) ∧ r < m) ∧ CurX w' cb ao n c (a + 1) ∧ Kept w w' (fun b => b = cb) := by
  obtain ⟨p, s, hp, hc⟩ := h
  refine (pickX cb ao n c p s m w (by omega) hm hm2 hc).mono ?_
  rintro e w1 ⟨r, s1, rfl, hr, _, hc1, hk1⟩
  exact ⟨⟨r, rfl, hr⟩, ⟨p + 1, s1, by omega, hc1⟩, hk1⟩
theorem oneC (cb : Nat) (ao : Option Addr) (n c a m : Nat) (w : World) (ha : a ≤ 900000000000000000) (hm : 2 ≤ m) (hm2 : m ≤ 200) (h : CurX w cb ao n c a) :
    Calls Try.prog 12 #[.pointer (some ⟨cb, 0, none⟩), .int .i64 m] w fun e w' => (∃ b : Bool, e = .returned (.bool b)) ∧ CurX w' cb ao n c (a + 1) ∧ Kept w w' (fun b => b = cb) := by
  obtain ⟨p, s, hp, hc⟩ := h
  refine (oneX cb ao n c p s m w (by omega) hm hm2 hc).mono ?_
  rintro e w1 ⟨b, s1, rfl, _, hc1, hk1⟩
  exact ⟨⟨b, rfl⟩, ⟨p + 1, s1, by omega, hc1⟩, hk1⟩
theorem portC (cb : Nat) (ao : Option Addr) (n c a : Nat) (w : World) (ha : a ≤ 900000000000000000) (h : CurX w cb ao n c a) :
    Calls Try.prog 11 #[.pointer (some ⟨cb, 0, none⟩)] w fun e w' => (∃ s : ByteArray, e = .returned (.string s) ∧ s.size ≤ 4) ∧ CurX w' cb ao n c (a + 1) ∧ Kept w w' (fun b => b = cb) := by
  obtain ⟨p, s, hp, hc⟩ := h
  refine (portX cb ao n c p s w (by omega) hc).mono ?_
  rintro e w1 ⟨i, s1, rfl, hi, _, hc1, hk1⟩
  refine ⟨⟨_, rfl, ?_⟩, ⟨p + 1, s1, by omega, hc1⟩, hk1⟩
  have h4 : i = 0 ∨ i = 1 ∨ i = 2 ∨ i = 3 := by omega
  rcases h4 with rfl | rfl | rfl | rfl <;> decide
theorem ofC (cb : Nat) (ao : Option Addr) (n c a m : Nat) (l : List ByteArray) (w : World) (hl : l.length = m) (ha : a ≤ 900000000000000000) (hm : 2 ≤ m) (hm2 : m ≤ 200) (h : CurX w cb ao n c a) (b : Nat) (hb : w.heap[b]? = some (.cells (l.map Value.string).toArray 9 (0, 0))) (hne : b ≠ cb) :
    Calls Try.prog 28 #[.pointer (some ⟨cb, 0, none⟩), .slice (some ⟨b, 0, none⟩) m m] w fun e w' => (∃ s, e = .returned (.string s) ∧ Hid (s ∈ l)) ∧ CurX w' cb ao n c (a + 1) ∧ Kept w w' (fun b => b = cb) := by
  obtain ⟨p, s, hp, hc⟩ := h
  refine (ofX cb ao n c p s b m (fun k => l.getD k ⟨#[]⟩) w (by omega) hm hm2 hc hne (fun k hk => ?_)).mono ?_
  · refine blk_cell hb k _ ?_
    simp only [List.getElem?_toArray, List.getElem?_map, List.getD_eq_getElem?_getD]
    rw [List.getElem?_eq_getElem (by omega)]
    rfl
  rintro e w1 ⟨r, s1, rfl, hr, _, hc1, hk1⟩
  refine ⟨⟨_, rfl, ?_⟩, ⟨p + 1, s1, by omega, hc1⟩, hk1⟩
  show l.getD r ⟨#[]⟩ ∈ l
  rw [List.getD_eq_getElem?_getD, List.getElem?_eq_getElem (by omega)]
  exact List.getElem_mem _
set_option maxHeartbeats 800000 in
theorem amongC (cb : Nat) (ao : Option Addr) (n c a m : Nat) (l : List Int) (w : World) (hl : l.length = m) (ha : a ≤ 900000000000000000) (hm : 2 ≤ m) (hm2 : m ≤ 200) (h : CurX w cb ao n c a) (b : Nat) (hb : w.heap[b]? = some (.cells (l.map (fun x => Value.int .i64 x)).toArray 3 (0, 0))) (hne : b ≠ cb) :
    Calls Try.prog 14 #[.pointer (some ⟨cb, 0, none⟩), .slice (some ⟨b, 0, none⟩) m m] w fun e w' => (∃ x : Int, e = .returned (.int .i64 x)) ∧ CurX w' cb ao n c (a + 1) ∧ Kept w w' (fun b => b = cb) := by
  have HB : Hid (w.heap[b]? = some (.cells (l.map (fun x => Value.int .i64 x)).toArray 3 (0, 0))) := hb
  clear hb
  go_enter Try.func14, Try.ntmps14
  go_wp2_with fail
  refine (pickC cb ao n c a m _ ha hm hm2 h).mono ?_
  rintro e w1 ⟨⟨r, rfl, hr⟩, hc1, hk1⟩
  have c1 : w1.cell? ⟨b, r, none⟩ = some (.int .i64 (l.getD r 0)) := blk_cell (hk1.blk HB.out hne) r _ (by simp only [List.getElem?_toArray, List.getElem?_map, List.getD_eq_getElem?_getD]; rw [List.getElem?_eq_getElem (by omega)]; rfl)
  have i1 : (r : Int) < (m : Int) := by omega
  go_wp2
  go_ret
  exact ⟨⟨_, rfl⟩, hc1, hk1⟩

end Go.Proofs.Ythcjfoaejomfaaa
