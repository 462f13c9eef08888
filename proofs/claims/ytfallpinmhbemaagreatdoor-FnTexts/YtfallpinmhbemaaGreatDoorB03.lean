/-
  OWN TEXT: KitOwn, DrawX, KitStay, KitRoom, KitSeat.
-/
import Derived.Test.YtfallpinmhbemaaGreatDoorB02
import Derived.Test.YtfallpinmhbemaaGreatDoorB00
namespace Go.Proofs.YtfallpinmhbemaaGreatDoor
open Go.RowKit

/-- The cells of pairs. -/
def pairRow (p : Pairs) : List Value := (List.range (p.n * 2)).map (pairCell p)
theorem pairRow_length (p : Pairs) : (pairRow p).length = p.n * 2 := by simp [pairRow]
theorem pairRow_get {p : Pairs} {j : Nat} {u : Value} (h : (pairRow p)[j]? = some u) : j < p.n * 2 ∧ u = pairCell p j := by
  unfold pairRow at h
  rw [List.getElem?_map] at h
  by_cases hj : j < p.n * 2
  · rw [List.getElem?_range hj] at h; simp at h; exact ⟨hj, h.symm⟩
  · rw [List.getElem?_eq_none (by simpa using hj)] at h; cases h
theorem pairRow_one (p : Pairs) : ∀ u ∈ pairRow p, u.oneCell' = true := by
  intro u hu
  unfold pairRow at hu
  obtain ⟨j, _, rfl⟩ := List.mem_map.1 hu
  unfold pairCell
  split <;> rfl
theorem pairs_cells {w : World} {ao : Option Addr} {p : Pairs} (h : PairsAt w ao p) : ∀ ad, ao = some ad → ∀ j u, (pairRow p)[j]? = some u → w.cell? (ad.add j) = some u := by
  intro ad e j u hu
  obtain ⟨hj, rfl⟩ := pairRow_get hu
  obtain ⟨b, off, e2, h0, h1⟩ := h (j / 2) (by omega)
  rw [e] at e2
  cases e2
  rw [Addr.add_lit]
  unfold pairCell
  by_cases c : j % 2 = 0
  · rw [if_pos c, ← h0, show off + j / 2 * 2 = off + j by omega]
  · rw [if_neg c, ← h1, show off + j / 2 * 2 + 1 = off + j by omega]
theorem pairs_of_own {w : World} {base t c : Nat} {ao : Option Addr} {p : Pairs} (h : w.ownsRow base t 2 (.slice ao p.n c) p.n (pairRow p)) : PairsAt w ao p := by
  intro k hk
  obtain ⟨g, rfl, _, _⟩ := own_addr h (by omega)
  refine ⟨g, 0, rfl, ?_, ?_⟩
  · rw [Nat.zero_add, own_cell h (k * 2) (by omega) rfl, pairCell_0]
  · rw [Nat.zero_add, own_cell h (k * 2 + 1) (by omega) rfl, pairCell_1]

/-- Sailings that lie in memory of their own, from base on. -/
structure OwnSails (w : World) (base : Nat) (v : Value) (N : Nat) (S : Nat → Sail) (L C : Nat → Value) : Prop where
  row : w.ownsRow base 37 8 v N ((List.range (N * 8)).map (sailCell S L C))
  la : ∀ i, i < N → w.ownsRow base 106 2 (L i) (S i).la.n (pairRow (S i).la)
  ca : ∀ i, i < N → w.ownsRow base 110 2 (C i) (S i).ca.n (pairRow (S i).ca)
  apart : ∀ i j, i < j → j < N → (∀ b, (L i).ownBlock = some b → (L j).ownBlock ≠ some b) ∧ (∀ b, (C i).ownBlock = some b → (C j).ownBlock ≠ some b)
theorem OwnSails.below {w w' : World} {base : Nat} {v : Value} {N : Nat} {S : Nat → Sail} {L C : Nat → Value} (h : OwnSails w base v N S L C) (hb : Below w.heap.size w w') : OwnSails w' base v N S L C :=
  ⟨own_below hb h.row, fun i hi => own_below hb (h.la i hi), fun i hi => own_below hb (h.ca i hi), h.apart⟩
theorem OwnSails.kept {w w' : World} {base : Nat} {v : Value} {N : Nat} {S : Nat → Sail} {L C : Nat → Value} {T : Nat → Prop} (h : OwnSails w base v N S L C) (hk : Kept w w' T) (hT : ∀ b, T b → b < base) : OwnSails w' base v N S L C :=
  ⟨hk.own h.row (fun g hg s => by have := (h.row.lt g hg).1; have := hT g s; omega), fun i hi => hk.own (h.la i hi) (fun g hg s => by have := ((h.la i hi).lt g hg).1; have := hT g s; omega),
    fun i hi => hk.own (h.ca i hi) (fun g hg s => by have := ((h.ca i hi).lt g hg).1; have := hT g s; omega), h.apart⟩
theorem OwnSails.base {w : World} {b1 b2 : Nat} {v : Value} {N : Nat} {S : Nat → Sail} {L C : Nat → Value} (h : OwnSails w b1 v N S L C) (hb : b2 ≤ b1) : OwnSails w b2 v N S L C :=
  ⟨own_base h.row hb, fun i hi => own_base (h.la i hi) hb, fun i hi => own_base (h.ca i hi) hb, h.apart⟩
theorem OwnSails.at {w : World} {base : Nat} {ao : Option Addr} {N c : Nat} {S : Nat → Sail} {L C : Nat → Value} (h : OwnSails w base (.slice ao N c) N S L C) : SailsAt w ao N S := by
  intro k hk
  obtain ⟨g, rfl, _, _⟩ := own_addr h.row (by omega)
  obtain ⟨la, lc, e1, l1, l2, l3⟩ := own_form (h.la k hk)
  obtain ⟨ca, cc, e2, c1, c2, c3⟩ := own_form (h.ca k hk)
  have o1 := h.la k hk
  have o2 := h.ca k hk
  rw [e1] at o1
  rw [e2] at o2
  refine ⟨g, 0, la, lc, ca, cc, rfl, ?_, ?_, ?_, ?_, ?_, ?_, ?_, ?_, pairs_of_own o1, pairs_of_own o2, ⟨l1, l2, l3⟩, ⟨c1, c2, c3⟩⟩
  · rw [Nat.zero_add, own_cell h.row (k * 8) (by omega) rfl, sailCell_0]
  · rw [Nat.zero_add, own_cell h.row (k * 8 + 1) (by omega) rfl, sailCell_1]
  · rw [Nat.zero_add, own_cell h.row (k * 8 + 2) (by omega) rfl, sailCell_2]
  · rw [Nat.zero_add, own_cell h.row (k * 8 + 3) (by omega) rfl, sailCell_3]
  · rw [Nat.zero_add, own_cell h.row (k * 8 + 4) (by omega) rfl, sailCell_4]
  · rw [Nat.zero_add, own_cell h.row (k * 8 + 5) (by omega) rfl, sailCell_5, e1]
  · rw [Nat.zero_add, own_cell h.row (k * 8 + 6) (by omega) rfl, sailCell_6, e2]
  · rw [Nat.zero_add, own_cell h.row (k * 8 + 7) (by omega) rfl, sailCell_7]
theorem OwnSails.nil (w : World) (base : Nat) (S : Nat → Sail) (L C : Nat → Value) : OwnSails w base (.slice none 0 0) 0 S L C :=
  ⟨⟨rfl, .inl ⟨rfl, rfl⟩⟩, fun i hi => by omega, fun i hi => by omega, fun i j hi hj => by omega⟩

end Go.Proofs.YtfallpinmhbemaaGreatDoor

namespace Go.Proofs.YtfallpinmhbemaaGreatDoor
open Go.RowKit

def CurX (w : World) (cb : Nat) (ao : Option Addr) (n c a : Nat) : Prop := ∃ p s, p ≤ a ∧ CurAt w cb ao n c p s
theorem CurX.more {w : World} {cb n c a b : Nat} {ao : Option Addr} (h : CurX w cb ao n c a) (hab : a ≤ b) : CurX w cb ao n c b := by
  obtain ⟨p, s, hp, hc⟩ := h
  exact ⟨p, s, by omega, hc⟩
theorem CurX.lt {w : World} {cb n c a : Nat} {ao : Option Addr} (h : CurX w cb ao n c a) : cb < w.heap.size := by
  obtain ⟨p, s, hp, hc⟩ := h
  exact blk_lt hc.box
theorem CurX.below {w w' : World} {cb n c a : Nat} {ao : Option Addr} (h : CurX w cb ao n c a) (hb : Below w.heap.size w w') : CurX w' cb ao n c a := by
  obtain ⟨p, s, hp, hc⟩ := h
  exact ⟨p, s, hp, hc.below hb⟩
theorem CurX.far {w w' : World} {cb n c a : Nat} {ao : Option Addr} {T : Nat → Prop} (h : CurX w cb ao n c a) (hk : Kept w w' T) (h1 : ¬ T cb) (h2 : ∀ k, k < n → ∀ b off, ao = some ⟨b, off, none⟩ → ¬ T b) : CurX w' cb ao n c a := by
  obtain ⟨p, s, hp, hc⟩ := h
  refine ⟨p, s, hp, hk.blk hc.box h1, fun k hk' => ?_⟩
  obtain ⟨b, off, v, e, hne, hcell, q1, q2⟩ := hc.code k hk'
  exact ⟨b, off, v, e, hne, hk.cellAt hcell (h2 k hk' b off e), q1, q2⟩
theorem CurX.low {w : World} {cb n c a : Nat} {ao : Option Addr} (h : CurX w cb ao n c a) : CodeLow w ao n := by
  obtain ⟨p, s, hp, hc⟩ := h
  intro k hk b off e
  obtain ⟨b', off', v, e', _, hcell, _⟩ := hc.code k hk
  rw [e] at e'
  cases e'
  exact World.block_lt_of_cell? w _ hcell
theorem kept_away' {w w1 w2 : World} {S T : Nat → Prop} (h : Kept w w1 S) (hk : Kept w1 w2 T) (hT : ∀ b, T b → w.heap.size ≤ b) : Kept w w2 S :=
  ⟨hk.os.trans h.os, hk.tape.trans h.tape, hk.output.trans h.output, Nat.le_trans h.size hk.size, fun i hi hs => (hk.block i (Nat.lt_of_lt_of_le hi h.size) (fun e => by have := hT i e; omega)).trans (h.block i hi hs)⟩

theorem pickC (cb : Nat) (ao : Option Addr) (n c a m : Nat) (w : World) (ha : a ≤ 900000000000000000) (hm : 2 ≤ m) (hm2 : m ≤ 200) (h : CurX w cb ao n c a) :
    Calls Tryz.prog 59 #[.pointer (some ⟨cb, 0, none⟩), .int .i64 m] w fun e w' => (∃ r : Nat, e = .returned (.int .i64 r) ∧ r < m) ∧ CurX w' cb ao n c (a + 1) ∧ Kept w w' (fun b => b = cb) := by
  obtain ⟨p, s, hp, hc⟩ := h
  refine (pickX cb ao n c p s m w (by omega) hm hm2 hc).mono ?_
  rintro e w1 ⟨r, s1, rfl, hr, _, hc1, hk1⟩
  exact ⟨⟨r, rfl, hr⟩, ⟨p + 1, s1, by omega, hc1⟩, hk1⟩
theorem oneC (cb : Nat) (ao : Option Addr) (n c a m : Nat) (w : World) (ha : a ≤ 900000000000000000) (hm : 2 ≤ m) (hm2 : m ≤ 200) (h : CurX w cb ao n c a) :
    Calls Tryz.prog 76 #[.pointer (some ⟨cb, 0, none⟩), .int .i64 m] w fun e w' => (∃ b : Bool, e = .returned (.bool b)) ∧ CurX w' cb ao n c (a + 1) ∧ Kept w w' (fun b => b = cb) := by
  obtain ⟨p, s, hp, hc⟩ := h
  refine (oneX cb ao n c p s m w (by omega) hm hm2 hc).mono ?_
  rintro e w1 ⟨b, s1, rfl, _, hc1, hk1⟩
  exact ⟨⟨b, rfl⟩, ⟨p + 1, s1, by omega, hc1⟩, hk1⟩
theorem portC (cb : Nat) (ao : Option Addr) (n c a : Nat) (w : World) (ha : a ≤ 900000000000000000) (h : CurX w cb ao n c a) :
    Calls Tryz.prog 95 #[.pointer (some ⟨cb, 0, none⟩)] w fun e w' => (∃ s : ByteArray, e = .returned (.string s) ∧ s.size ≤ 4) ∧ CurX w' cb ao n c (a + 1) ∧ Kept w w' (fun b => b = cb) := by
  obtain ⟨p, s, hp, hc⟩ := h
  refine (portX cb ao n c p s w (by omega) hc).mono ?_
  rintro e w1 ⟨i, s1, rfl, hi, _, hc1, hk1⟩
  refine ⟨⟨_, rfl, ?_⟩, ⟨p + 1, s1, by omega, hc1⟩, hk1⟩
  have h4 : i = 0 ∨ i = 1 ∨ i = 2 ∨ i = 3 := by omega
  rcases h4 with rfl | rfl | rfl | rfl <;> decide
theorem ofC (cb : Nat) (ao : Option Addr) (n c a m : Nat) (l : List ByteArray) (w : World) (hl : l.length = m) (ha : a ≤ 900000000000000000) (hm : 2 ≤ m) (hm2 : m ≤ 200) (h : CurX w cb ao n c a) (b : Nat) (hb : w.heap[b]? = some (.cells (l.map Value.string).toArray 9 (0, 0))) (hne : b ≠ cb) :
    Calls Tryz.prog 77 #[.pointer (some ⟨cb, 0, none⟩), .slice (some ⟨b, 0, none⟩) m m] w fun e w' => (∃ s, e = .returned (.string s) ∧ Hid (s ∈ l)) ∧ CurX w' cb ao n c (a + 1) ∧ Kept w w' (fun b => b = cb) := by
  obtain ⟨p, s, hp, hc⟩ := h
  refine (ofX cb ao n c p s b m (fun k => l.getD k ⟨#[]⟩) w (by omega) hm hm2 hc hne (fun k hk => ?_)).mono ?_
  · refine blk_cell hb k _ ?_
    simp only [List.getElem?_toArray, List.getElem?_map, List.getD_eq_getElem?_getD]
    rw [List.getElem?_eq_getElem (by omega)]
    rfl
  rintro e w1 ⟨r, s1, rfl, hr, _, hc1, hk1⟩
  refine ⟨⟨_, rfl, ?_⟩, ⟨p + 1, s1, by omega, hc1⟩, hk1⟩
  show l.getD r ⟨#[]⟩ ∈ l
  rw [List.getD_eq_getElem?_getD, List.getElem?_eq_getElem (by omega)]
  exact List.getElem_mem _
set_option maxHeartbeats 800000 in
theorem amongC (cb : Nat) (ao : Option Addr) (n c a m : Nat) (l : List Int) (w : World) (hl : l.length = m) (ha : a ≤ 900000000000000000) (hm : 2 ≤ m) (hm2 : m ≤ 200) (h : CurX w cb ao n c a) (b : Nat) (hb : w.heap[b]? = some (.cells (l.map (fun x => Value.int .i64 x)).toArray 3 (0, 0))) (hne : b ≠ cb) :
    Calls Tryz.prog 73 #[.pointer (some ⟨cb, 0, none⟩), .slice (some ⟨b, 0, none⟩) m m] w fun e w' => (∃ x : Int, e = .returned (.int .i64 x)) ∧ CurX w' cb ao n c (a + 1) ∧ Kept w w' (fun b => b = cb) := by
  have HB : Hid (w.heap[b]? = some (.cells (l.map (fun x => Value.int .i64 x)).toArray 3 (0, 0))) := hb
  clear hb
  go_enter Tryz.func73, Tryz.ntmps73
  go_wp2_with fail
  refine (pickC cb ao n c a m _ ha hm hm2 h).mono ?_
  rintro e w1 ⟨⟨r, rfl, hr⟩, hc1, hk1⟩
  have c1 : w1.cell? ⟨b, r, none⟩ = some (.int .i64 (l.getD r 0)) := blk_cell (hk1.blk HB.out hne) r _ (by simp only [List.getElem?_toArray, List.getElem?_map, List.getD_eq_getElem?_getD]; rw [List.getElem?_eq_getElem (by omega)]; rfl)
  have i1 : (r : Int) < (m : Int) := by omega
  go_wp2
  go_ret
  exact ⟨⟨_, rfl⟩, hc1, hk1⟩

end Go.Proofs.YtfallpinmhbemaaGreatDoor

namespace Go.Proofs.YtfallpinmhbemaaGreatDoor
open Go.RowKit

structure Stay where
  who : Int
  ln : Int
  len : Int
  hei : Int
def Stay.zero : Stay := ⟨0, 0, 0, 0⟩
instance : Inhabited Stay := ⟨Stay.zero⟩
/-- The record as a value. -/
def Stay.v (s : Stay) : Value := .agg #[.int .i64 s.who, .int .i64 s.ln, .int .i64 s.len, .int .i64 s.hei]
/-- The slice at ao reads as n records. -/
def StaysAt (w : World) (ao : Option Addr) (n : Nat) (S : Nat → Stay) : Prop :=
  ∀ k, k < n → ∃ b off, ao = some ⟨b, off, none⟩ ∧ w.cell? ⟨b, off + k * 4, none⟩ = some (.int .i64 (S k).who) ∧ w.cell? ⟨b, off + k * 4 + 1, none⟩ = some (.int .i64 (S k).ln) ∧ w.cell? ⟨b, off + k * 4 + 2, none⟩ = some (.int .i64 (S k).len) ∧ w.cell? ⟨b, off + k * 4 + 3, none⟩ = some (.int .i64 (S k).hei)
theorem StaysAt.below {w w' : World} {ao : Option Addr} {n : Nat} {S : Nat → Stay} (h : StaysAt w ao n S) (hb : Below w.heap.size w w') : StaysAt w' ao n S := by
  intro k hk
  obtain ⟨b, off, e, h0, h1, h2, h3⟩ := h k hk
  have hlt : b < w.heap.size := World.block_lt_of_cell? w _ h0
  exact ⟨b, off, e, (hb.cell hlt).trans h0, (hb.cell hlt).trans h1, (hb.cell hlt).trans h2, (hb.cell hlt).trans h3⟩
theorem StaysAt.upto {w : World} {ao : Option Addr} {n i : Nat} {S : Nat → Stay} (h : StaysAt w ao n S) (hi : i ≤ n) : StaysAt w ao i S := fun k hk => h k (by omega)
/-- The cell j of a row of records. -/
def stayCell (S : Nat → Stay) (j : Nat) : Value :=
  if j % 4 = 0 then .int .i64 (S (j / 4)).who else if j % 4 = 1 then .int .i64 (S (j / 4)).ln else if j % 4 = 2 then .int .i64 (S (j / 4)).len else .int .i64 (S (j / 4)).hei
theorem stayCell_0 (S : Nat → Stay) (k : Nat) : stayCell S (k * 4) = .int .i64 (S k).who := by
  unfold stayCell; rw [if_pos (by omega), show k * 4 / 4 = k by omega]
theorem stayCell_1 (S : Nat → Stay) (k : Nat) : stayCell S (k * 4 + 1) = .int .i64 (S k).ln := by
  unfold stayCell; rw [if_neg (by omega), if_pos (by omega), show (k * 4 + 1) / 4 = k by omega]
theorem stayCell_2 (S : Nat → Stay) (k : Nat) : stayCell S (k * 4 + 2) = .int .i64 (S k).len := by
  unfold stayCell; rw [if_neg (by omega), if_neg (by omega), if_pos (by omega), show (k * 4 + 2) / 4 = k by omega]
theorem stayCell_3 (S : Nat → Stay) (k : Nat) : stayCell S (k * 4 + 3) = .int .i64 (S k).hei := by
  unfold stayCell; rw [if_neg (by omega), if_neg (by omega), if_neg (by omega), show (k * 4 + 3) / 4 = k by omega]
theorem StaysAt.of_row {w : World} {g t n : Nat} {S : Nat → Stay} (h : w.rowIs g t (n * 4) (stayCell S)) : StaysAt w (some ⟨g, 0, none⟩) n S := by
  intro k hk
  refine ⟨g, 0, rfl, ?_, ?_, ?_, ?_⟩
  · rw [Nat.zero_add, h.cell (by omega), stayCell_0]
  · rw [Nat.zero_add, h.cell (by omega), stayCell_1]
  · rw [Nat.zero_add, h.cell (by omega), stayCell_2]
  · rw [Nat.zero_add, h.cell (by omega), stayCell_3]
theorem made_stays (n : Nat) (j : Nat) (hj : j < n * 4) : (madeCells (Value.agg #[.int .i64 0, .int .i64 0, .int .i64 0, .int .i64 0]).cells (n * 4)).toList.getD j (.bool false) = stayCell (fun _ => Stay.zero) j := by
  have hz : (Value.agg #[.int .i64 0, .int .i64 0, .int .i64 0, .int .i64 0]).cells = #[.int .i64 0, .int .i64 0, .int .i64 0, .int .i64 0] := rfl
  rw [hz]
  simp only [madeCells, Array.toList_map, List.getD_eq_getElem?_getD, List.getElem?_map, Array.toList_range, List.getElem?_range hj, Option.map_some, Option.getD_some]
  unfold stayCell
  have : j % 4 = 0 ∨ j % 4 = 1 ∨ j % 4 = 2 ∨ j % 4 = 3 := by omega
  rcases this with h | h | h | h <;> simp [h, Stay.zero]
/-- A record is stored into a row. -/
theorem stay_set {w : World} {g t n k : Nat} {S S' : Nat → Stay} (h : w.rowIs g t n (stayCell S)) (hS : ∀ i, i ≠ k → S' i = S i) :
    ((((w.setCell ⟨g, k * 4, none⟩ (.int .i64 (S' k).who)).setCell ⟨g, k * 4 + 1, none⟩ (.int .i64 (S' k).ln)).setCell ⟨g, k * 4 + 2, none⟩ (.int .i64 (S' k).len)).setCell ⟨g, k * 4 + 3, none⟩ (.int .i64 (S' k).hei)).rowIs g t n (stayCell S') := by
  refine ((((h.set (k * 4) _).set (k * 4 + 1) _).set (k * 4 + 2) _).set (k * 4 + 3) _).congr fun j _ => ?_
  by_cases h3 : j = k * 4 + 3
  · subst h3; rw [if_pos rfl, stayCell_3]
  rw [if_neg h3]
  by_cases h2 : j = k * 4 + 2
  · subst h2; rw [if_pos rfl, stayCell_2]
  rw [if_neg h2]
  by_cases h1 : j = k * 4 + 1
  · subst h1; rw [if_pos rfl, stayCell_1]
  rw [if_neg h1]
  by_cases h0 : j = k * 4
  · subst h0; rw [if_pos rfl, stayCell_0]
  rw [if_neg h0]
  have hk : j / 4 ≠ k := by omega
  unfold stayCell
  rw [hS _ hk]
/-- The cells of the first n records. -/
def stayList (S : Nat → Stay) (n : Nat) : List Value := (List.range (n * 4)).map (stayCell S)
theorem stayList_length (S : Nat → Stay) (n : Nat) : (stayList S n).length = n * 4 := by simp [stayList]
theorem stayList_get {S : Nat → Stay} {n j : Nat} {u : Value} (h : (stayList S n)[j]? = some u) : j < n * 4 ∧ u = stayCell S j := by
  unfold stayList at h
  rw [List.getElem?_map] at h
  by_cases hj : j < n * 4
  · rw [List.getElem?_range hj] at h; simp at h; exact ⟨hj, h.symm⟩
  · rw [List.getElem?_eq_none (by simpa using hj)] at h; cases h
theorem stayList_one (S : Nat → Stay) (n : Nat) : ∀ u ∈ stayList S n, u.oneCell' = true := by
  intro u hu
  unfold stayList at hu
  simp only [List.mem_map] at hu
  obtain ⟨j, _, rfl⟩ := hu
  unfold stayCell
  repeat' split
  all_goals rfl
theorem stayList_succ (S : Nat → Stay) (k : Nat) : stayList S (k + 1) = stayList S k ++ [.int .i64 (S k).who, .int .i64 (S k).ln, .int .i64 (S k).len, .int .i64 (S k).hei] := by
  unfold stayList
  rw [show (k + 1) * 4 = k * 4 + 1 + 1 + 1 + 1 by omega, List.range_succ, List.range_succ, List.range_succ, List.range_succ]
  simp only [List.map_append, List.map_cons, List.map_nil, List.append_assoc, List.cons_append, List.nil_append, stayCell_0, stayCell_1, stayCell_2, stayCell_3]
theorem stayList_congr {S S' : Nat → Stay} {n : Nat} (h : ∀ i, i < n → S i = S' i) : stayList S n = stayList S' n := by
  unfold stayList
  refine List.map_congr_left (fun j hj => ?_)
  have hj' : j < n * 4 := by simpa using hj
  unfold stayCell
  rw [h (j / 4) (by omega)]
/-- n records of S and then those of T. -/
def stayCat (S : Nat → Stay) (n : Nat) (T : Nat → Stay) (i : Nat) : Stay := if i < n then S i else T (i - n)
theorem stayList_cat (S T : Nat → Stay) (n j : Nat) : stayList (stayCat S n T) (n + j) = stayList S n ++ stayList T j := by
  induction j with
  | zero =>
    have : stayList T 0 = [] := by simp [stayList]
    rw [this, List.append_nil, Nat.add_zero]
    exact stayList_congr (fun i hi => if_pos hi)
  | succ j ih =>
    rw [show n + (j + 1) = n + j + 1 by omega, stayList_succ, stayList_succ, ih, List.append_assoc]
    have : stayCat S n T (n + j) = T j := by unfold stayCat; rw [if_neg (by omega), show n + j - n = j by omega]
    rw [this]
/-- The cells of a list, read at its address. -/
theorem stays_cells {w : World} {ao : Option Addr} {n : Nat} {S : Nat → Stay} (h : StaysAt w ao n S) : ∀ ad, ao = some ad → ∀ j u, (stayList S n)[j]? = some u → w.cell? (ad.add j) = some u := by
  intro ad e j u hu
  obtain ⟨hj, rfl⟩ := stayList_get hu
  obtain ⟨b, off, e', h0, h1, h2, h3⟩ := h (j / 4) (by omega)
  rw [e] at e'
  simp only [Option.some.injEq] at e'
  subst e'
  rw [Addr.add_lit]
  have hm : j % 4 = 0 ∨ j % 4 = 1 ∨ j % 4 = 2 ∨ j % 4 = 3 := by omega
  rcases hm with hm | hm | hm | hm
  · rw [show off + j = off + j / 4 * 4 by omega, h0]; unfold stayCell; simp [hm]
  · rw [show off + j = off + j / 4 * 4 + 1 by omega, h1]; unfold stayCell; simp [hm]
  · rw [show off + j = off + j / 4 * 4 + 2 by omega, h2]; unfold stayCell; simp [hm]
  · rw [show off + j = off + j / 4 * 4 + 3 by omega, h3]; unfold stayCell; simp [hm]
theorem stays_of_own {w : World} {base e n c : Nat} {ao : Option Addr} {S : Nat → Stay} (h : w.ownsRow base e 4 (.slice ao n c) n (stayList S n)) : StaysAt w ao n S := by
  intro k hk
  obtain ⟨g, rfl, _, _⟩ := own_addr h (by omega)
  have c0 := own_cell h (k * 4) (by omega) rfl
  rw [stayCell_0] at c0
  have c1 := own_cell h (k * 4 + 1) (by omega) rfl
  rw [stayCell_1] at c1
  have c2 := own_cell h (k * 4 + 2) (by omega) rfl
  rw [stayCell_2] at c2
  have c3 := own_cell h (k * 4 + 3) (by omega) rfl
  rw [stayCell_3] at c3
  exact ⟨g, 0, rfl, by rw [Nat.zero_add]; exact c0, by rw [Nat.zero_add]; exact c1, by rw [Nat.zero_add]; exact c2, by rw [Nat.zero_add]; exact c3⟩
/-- Records with their address written out. -/
theorem stays_in {w : World} {ao : Option Addr} {n : Nat} {S : Nat → Stay} (h : StaysAt w ao n S) : n = 0 ∨ ∃ b off, ao = some ⟨b, off, none⟩ ∧ b < w.heap.size := by
  by_cases h0 : n = 0
  · exact .inl h0
  · obtain ⟨b, off, rfl, h1, _⟩ := h 0 (by omega)
    exact .inr ⟨b, off, rfl, World.block_lt_of_cell? w _ h1⟩

end Go.Proofs.YtfallpinmhbemaaGreatDoor

namespace Go.Proofs.YtfallpinmhbemaaGreatDoor
open Go.RowKit

structure Room where
  who : Int
  cab : Int
  many : Int
  all : Bool
def Room.zero : Room := ⟨0, 0, 0, false⟩
instance : Inhabited Room := ⟨Room.zero⟩
/-- The record as a value. -/
def Room.v (s : Room) : Value := .agg #[.int .i64 s.who, .int .i64 s.cab, .int .i64 s.many, .bool s.all]
/-- The slice at ao reads as n records. -/
def RoomsAt (w : World) (ao : Option Addr) (n : Nat) (S : Nat → Room) : Prop :=
  ∀ k, k < n → ∃ b off, ao = some ⟨b, off, none⟩ ∧ w.cell? ⟨b, off + k * 4, none⟩ = some (.int .i64 (S k).who) ∧ w.cell? ⟨b, off + k * 4 + 1, none⟩ = some (.int .i64 (S k).cab) ∧ w.cell? ⟨b, off + k * 4 + 2, none⟩ = some (.int .i64 (S k).many) ∧ w.cell? ⟨b, off + k * 4 + 3, none⟩ = some (.bool (S k).all)
theorem RoomsAt.below {w w' : World} {ao : Option Addr} {n : Nat} {S : Nat → Room} (h : RoomsAt w ao n S) (hb : Below w.heap.size w w') : RoomsAt w' ao n S := by
  intro k hk
  obtain ⟨b, off, e, h0, h1, h2, h3⟩ := h k hk
  have hlt : b < w.heap.size := World.block_lt_of_cell? w _ h0
  exact ⟨b, off, e, (hb.cell hlt).trans h0, (hb.cell hlt).trans h1, (hb.cell hlt).trans h2, (hb.cell hlt).trans h3⟩
theorem RoomsAt.upto {w : World} {ao : Option Addr} {n i : Nat} {S : Nat → Room} (h : RoomsAt w ao n S) (hi : i ≤ n) : RoomsAt w ao i S := fun k hk => h k (by omega)
/-- The cell j of a row of records. -/
def roomCell (S : Nat → Room) (j : Nat) : Value :=
  if j % 4 = 0 then .int .i64 (S (j / 4)).who else if j % 4 = 1 then .int .i64 (S (j / 4)).cab else if j % 4 = 2 then .int .i64 (S (j / 4)).many else .bool (S (j / 4)).all
theorem roomCell_0 (S : Nat → Room) (k : Nat) : roomCell S (k * 4) = .int .i64 (S k).who := by
  unfold roomCell; rw [if_pos (by omega), show k * 4 / 4 = k by omega]
theorem roomCell_1 (S : Nat → Room) (k : Nat) : roomCell S (k * 4 + 1) = .int .i64 (S k).cab := by
  unfold roomCell; rw [if_neg (by omega), if_pos (by omega), show (k * 4 + 1) / 4 = k by omega]
theorem roomCell_2 (S : Nat → Room) (k : Nat) : roomCell S (k * 4 + 2) = .int .i64 (S k).many := by
  unfold roomCell; rw [if_neg (by omega), if_neg (by omega), if_pos (by omega), show (k * 4 + 2) / 4 = k by omega]
theorem roomCell_3 (S : Nat → Room) (k : Nat) : roomCell S (k * 4 + 3) = .bool (S k).all := by
  unfold roomCell; rw [if_neg (by omega), if_neg (by omega), if_neg (by omega), show (k * 4 + 3) / 4 = k by omega]
theorem RoomsAt.of_row {w : World} {g t n : Nat} {S : Nat → Room} (h : w.rowIs g t (n * 4) (roomCell S)) : RoomsAt w (some ⟨g, 0, none⟩) n S := by
  intro k hk
  refine ⟨g, 0, rfl, ?_, ?_, ?_, ?_⟩
  · rw [Nat.zero_add, h.cell (by omega), roomCell_0]
  · rw [Nat.zero_add, h.cell (by omega), roomCell_1]
  · rw [Nat.zero_add, h.cell (by omega), roomCell_2]
  · rw [Nat.zero_add, h.cell (by omega), roomCell_3]
theorem made_rooms (n : Nat) (j : Nat) (hj : j < n * 4) : (madeCells (Value.agg #[.int .i64 0, .int .i64 0, .int .i64 0, .bool false]).cells (n * 4)).toList.getD j (.bool false) = roomCell (fun _ => Room.zero) j := by
  have hz : (Value.agg #[.int .i64 0, .int .i64 0, .int .i64 0, .bool false]).cells = #[.int .i64 0, .int .i64 0, .int .i64 0, .bool false] := rfl
  rw [hz]
  simp only [madeCells, Array.toList_map, List.getD_eq_getElem?_getD, List.getElem?_map, Array.toList_range, List.getElem?_range hj, Option.map_some, Option.getD_some]
  unfold roomCell
  have : j % 4 = 0 ∨ j % 4 = 1 ∨ j % 4 = 2 ∨ j % 4 = 3 := by omega
  rcases this with h | h | h | h <;> simp [h, Room.zero]
/-- A record is stored into a row. -/
theorem room_set {w : World} {g t n k : Nat} {S S' : Nat → Room} (h : w.rowIs g t n (roomCell S)) (hS : ∀ i, i ≠ k → S' i = S i) :
    ((((w.setCell ⟨g, k * 4, none⟩ (.int .i64 (S' k).who)).setCell ⟨g, k * 4 + 1, none⟩ (.int .i64 (S' k).cab)).setCell ⟨g, k * 4 + 2, none⟩ (.int .i64 (S' k).many)).setCell ⟨g, k * 4 + 3, none⟩ (.bool (S' k).all)).rowIs g t n (roomCell S') := by
  refine ((((h.set (k * 4) _).set (k * 4 + 1) _).set (k * 4 + 2) _).set (k * 4 + 3) _).congr fun j _ => ?_
  by_cases h3 : j = k * 4 + 3
  · subst h3; rw [if_pos rfl, roomCell_3]
  rw [if_neg h3]
  by_cases h2 : j = k * 4 + 2
  · subst h2; rw [if_pos rfl, roomCell_2]
  rw [if_neg h2]
  by_cases h1 : j = k * 4 + 1
  · subst h1; rw [if_pos rfl, roomCell_1]
  rw [if_neg h1]
  by_cases h0 : j = k * 4
  · subst h0; rw [if_pos rfl, roomCell_0]
  rw [if_neg h0]
  have hk : j / 4 ≠ k := by omega
  unfold roomCell
  rw [hS _ hk]
/-- The cells of the first n records. -/
def roomList (S : Nat → Room) (n : Nat) : List Value := (List.range (n * 4)).map (roomCell S)
theorem roomList_length (S : Nat → Room) (n : Nat) : (roomList S n).length = n * 4 := by simp [roomList]
theorem roomList_get {S : Nat → Room} {n j : Nat} {u : Value} (h : (roomList S n)[j]? = some u) : j < n * 4 ∧ u = roomCell S j := by
  unfold roomList at h
  rw [List.getElem?_map] at h
  by_cases hj : j < n * 4
  · rw [List.getElem?_range hj] at h; simp at h; exact ⟨hj, h.symm⟩
  · rw [List.getElem?_eq_none (by simpa using hj)] at h; cases h
theorem roomList_one (S : Nat → Room) (n : Nat) : ∀ u ∈ roomList S n, u.oneCell' = true := by
  intro u hu
  unfold roomList at hu
  simp only [List.mem_map] at hu
  obtain ⟨j, _, rfl⟩ := hu
  unfold roomCell
  repeat' split
  all_goals rfl
theorem roomList_succ (S : Nat → Room) (k : Nat) : roomList S (k + 1) = roomList S k ++ [.int .i64 (S k).who, .int .i64 (S k).cab, .int .i64 (S k).many, .bool (S k).all] := by
  unfold roomList
  rw [show (k + 1) * 4 = k * 4 + 1 + 1 + 1 + 1 by omega, List.range_succ, List.range_succ, List.range_succ, List.range_succ]
  simp only [List.map_append, List.map_cons, List.map_nil, List.append_assoc, List.cons_append, List.nil_append, roomCell_0, roomCell_1, roomCell_2, roomCell_3]
theorem roomList_congr {S S' : Nat → Room} {n : Nat} (h : ∀ i, i < n → S i = S' i) : roomList S n = roomList S' n := by
  unfold roomList
  refine List.map_congr_left (fun j hj => ?_)
  have hj' : j < n * 4 := by simpa using hj
  unfold roomCell
  rw [h (j / 4) (by omega)]
/-- n records of S and then those of T. -/
def roomCat (S : Nat → Room) (n : Nat) (T : Nat → Room) (i : Nat) : Room := if i < n then S i else T (i - n)
theorem roomList_cat (S T : Nat → Room) (n j : Nat) : roomList (roomCat S n T) (n + j) = roomList S n ++ roomList T j := by
  induction j with
  | zero =>
    have : roomList T 0 = [] := by simp [roomList]
    rw [this, List.append_nil, Nat.add_zero]
    exact roomList_congr (fun i hi => if_pos hi)
  | succ j ih =>
    rw [show n + (j + 1) = n + j + 1 by omega, roomList_succ, roomList_succ, ih, List.append_assoc]
    have : roomCat S n T (n + j) = T j := by unfold roomCat; rw [if_neg (by omega), show n + j - n = j by omega]
    rw [this]
/-- The cells of a list, read at its address. -/
theorem rooms_cells {w : World} {ao : Option Addr} {n : Nat} {S : Nat → Room} (h : RoomsAt w ao n S) : ∀ ad, ao = some ad → ∀ j u, (roomList S n)[j]? = some u → w.cell? (ad.add j) = some u := by
  intro ad e j u hu
  obtain ⟨hj, rfl⟩ := roomList_get hu
  obtain ⟨b, off, e', h0, h1, h2, h3⟩ := h (j / 4) (by omega)
  rw [e] at e'
  simp only [Option.some.injEq] at e'
  subst e'
  rw [Addr.add_lit]
  have hm : j % 4 = 0 ∨ j % 4 = 1 ∨ j % 4 = 2 ∨ j % 4 = 3 := by omega
  rcases hm with hm | hm | hm | hm
  · rw [show off + j = off + j / 4 * 4 by omega, h0]; unfold roomCell; simp [hm]
  · rw [show off + j = off + j / 4 * 4 + 1 by omega, h1]; unfold roomCell; simp [hm]
  · rw [show off + j = off + j / 4 * 4 + 2 by omega, h2]; unfold roomCell; simp [hm]
  · rw [show off + j = off + j / 4 * 4 + 3 by omega, h3]; unfold roomCell; simp [hm]
theorem rooms_of_own {w : World} {base e n c : Nat} {ao : Option Addr} {S : Nat → Room} (h : w.ownsRow base e 4 (.slice ao n c) n (roomList S n)) : RoomsAt w ao n S := by
  intro k hk
  obtain ⟨g, rfl, _, _⟩ := own_addr h (by omega)
  have c0 := own_cell h (k * 4) (by omega) rfl
  rw [roomCell_0] at c0
  have c1 := own_cell h (k * 4 + 1) (by omega) rfl
  rw [roomCell_1] at c1
  have c2 := own_cell h (k * 4 + 2) (by omega) rfl
  rw [roomCell_2] at c2
  have c3 := own_cell h (k * 4 + 3) (by omega) rfl
  rw [roomCell_3] at c3
  exact ⟨g, 0, rfl, by rw [Nat.zero_add]; exact c0, by rw [Nat.zero_add]; exact c1, by rw [Nat.zero_add]; exact c2, by rw [Nat.zero_add]; exact c3⟩
/-- Records with their address written out. -/
theorem rooms_in {w : World} {ao : Option Addr} {n : Nat} {S : Nat → Room} (h : RoomsAt w ao n S) : n = 0 ∨ ∃ b off, ao = some ⟨b, off, none⟩ ∧ b < w.heap.size := by
  by_cases h0 : n = 0
  · exact .inl h0
  · obtain ⟨b, off, rfl, h1, _⟩ := h 0 (by omega)
    exact .inr ⟨b, off, rfl, World.block_lt_of_cell? w _ h1⟩

end Go.Proofs.YtfallpinmhbemaaGreatDoor

namespace Go.Proofs.YtfallpinmhbemaaGreatDoor
open Go.RowKit

structure Seat where
  who : Int
  many : Int
def Seat.zero : Seat := ⟨0, 0⟩
instance : Inhabited Seat := ⟨Seat.zero⟩
/-- The record as a value. -/
def Seat.v (s : Seat) : Value := .agg #[.int .i64 s.who, .int .i64 s.many]
/-- The slice at ao reads as n records. -/
def SeatsAt (w : World) (ao : Option Addr) (n : Nat) (S : Nat → Seat) : Prop :=
  ∀ k, k < n → ∃ b off, ao = some ⟨b, off, none⟩ ∧ w.cell? ⟨b, off + k * 2, none⟩ = some (.int .i64 (S k).who) ∧ w.cell? ⟨b, off + k * 2 + 1, none⟩ = some (.int .i64 (S k).many)
theorem SeatsAt.below {w w' : World} {ao : Option Addr} {n : Nat} {S : Nat → Seat} (h : SeatsAt w ao n S) (hb : Below w.heap.size w w') : SeatsAt w' ao n S := by
  intro k hk
  obtain ⟨b, off, e, h0, h1⟩ := h k hk
  have hlt : b < w.heap.size := World.block_lt_of_cell? w _ h0
  exact ⟨b, off, e, (hb.cell hlt).trans h0, (hb.cell hlt).trans h1⟩
theorem SeatsAt.upto {w : World} {ao : Option Addr} {n i : Nat} {S : Nat → Seat} (h : SeatsAt w ao n S) (hi : i ≤ n) : SeatsAt w ao i S := fun k hk => h k (by omega)
/-- The cell j of a row of records. -/
def seatCell (S : Nat → Seat) (j : Nat) : Value :=
  if j % 2 = 0 then .int .i64 (S (j / 2)).who else .int .i64 (S (j / 2)).many
theorem seatCell_0 (S : Nat → Seat) (k : Nat) : seatCell S (k * 2) = .int .i64 (S k).who := by
  unfold seatCell; rw [if_pos (by omega), show k * 2 / 2 = k by omega]
theorem seatCell_1 (S : Nat → Seat) (k : Nat) : seatCell S (k * 2 + 1) = .int .i64 (S k).many := by
  unfold seatCell; rw [if_neg (by omega), show (k * 2 + 1) / 2 = k by omega]
theorem SeatsAt.of_row {w : World} {g t n : Nat} {S : Nat → Seat} (h : w.rowIs g t (n * 2) (seatCell S)) : SeatsAt w (some ⟨g, 0, none⟩) n S := by
  intro k hk
  refine ⟨g, 0, rfl, ?_, ?_⟩
  · rw [Nat.zero_add, h.cell (by omega), seatCell_0]
  · rw [Nat.zero_add, h.cell (by omega), seatCell_1]
theorem made_seats (n : Nat) (j : Nat) (hj : j < n * 2) : (madeCells (Value.agg #[.int .i64 0, .int .i64 0]).cells (n * 2)).toList.getD j (.bool false) = seatCell (fun _ => Seat.zero) j := by
  have hz : (Value.agg #[.int .i64 0, .int .i64 0]).cells = #[.int .i64 0, .int .i64 0] := rfl
  rw [hz]
  simp only [madeCells, Array.toList_map, List.getD_eq_getElem?_getD, List.getElem?_map, Array.toList_range, List.getElem?_range hj, Option.map_some, Option.getD_some]
  unfold seatCell
  have : j % 2 = 0 ∨ j % 2 = 1 := by omega
  rcases this with h | h <;> simp [h, Seat.zero]
/-- A record is stored into a row. -/
theorem seat_set {w : World} {g t n k : Nat} {S S' : Nat → Seat} (h : w.rowIs g t n (seatCell S)) (hS : ∀ i, i ≠ k → S' i = S i) :
    ((w.setCell ⟨g, k * 2, none⟩ (.int .i64 (S' k).who)).setCell ⟨g, k * 2 + 1, none⟩ (.int .i64 (S' k).many)).rowIs g t n (seatCell S') := by
  refine ((h.set (k * 2) _).set (k * 2 + 1) _).congr fun j _ => ?_
  by_cases h1 : j = k * 2 + 1
  · subst h1; rw [if_pos rfl, seatCell_1]
  rw [if_neg h1]
  by_cases h0 : j = k * 2
  · subst h0; rw [if_pos rfl, seatCell_0]
  rw [if_neg h0]
  have hk : j / 2 ≠ k := by omega
  unfold seatCell
  rw [hS _ hk]
/-- The cells of the first n records. -/
def seatList (S : Nat → Seat) (n : Nat) : List Value := (List.range (n * 2)).map (seatCell S)
theorem seatList_length (S : Nat → Seat) (n : Nat) : (seatList S n).length = n * 2 := by simp [seatList]
theorem seatList_get {S : Nat → Seat} {n j : Nat} {u : Value} (h : (seatList S n)[j]? = some u) : j < n * 2 ∧ u = seatCell S j := by
  unfold seatList at h
  rw [List.getElem?_map] at h
  by_cases hj : j < n * 2
  · rw [List.getElem?_range hj] at h; simp at h; exact ⟨hj, h.symm⟩
  · rw [List.getElem?_eq_none (by simpa using hj)] at h; cases h
theorem seatList_one (S : Nat → Seat) (n : Nat) : ∀ u ∈ seatList S n, u.oneCell' = true := by
  intro u hu
  unfold seatList at hu
  simp only [List.mem_map] at hu
  obtain ⟨j, _, rfl⟩ := hu
  unfold seatCell
  repeat' split
  all_goals rfl
theorem seatList_succ (S : Nat → Seat) (k : Nat) : seatList S (k + 1) = seatList S k ++ [.int .i64 (S k).who, .int .i64 (S k).many] := by
  unfold seatList
  rw [show (k + 1) * 2 = k * 2 + 1 + 1 by omega, List.range_succ, List.range_succ]
  simp only [List.map_append, List.map_cons, List.map_nil, List.append_assoc, List.cons_append, List.nil_append, seatCell_0, seatCell_1]
theorem seatList_congr {S S' : Nat → Seat} {n : Nat} (h : ∀ i, i < n → S i = S' i) : seatList S n = seatList S' n := by
  unfold seatList
  refine List.map_congr_left (fun j hj => ?_)
  have hj' : j < n * 2 := by simpa using hj
  unfold seatCell
  rw [h (j / 2) (by omega)]
/-- n records of S and then those of T. -/
def seatCat (S : Nat → Seat) (n : Nat) (T : Nat → Seat) (i : Nat) : Seat := if i < n then S i else T (i - n)
theorem seatList_cat (S T : Nat → Seat) (n j : Nat) : seatList (seatCat S n T) (n + j) = seatList S n ++ seatList T j := by
  induction j with
  | zero =>
    have : seatList T 0 = [] := by simp [seatList]
    rw [this, List.append_nil, Nat.add_zero]
    exact seatList_congr (fun i hi => if_pos hi)
  | succ j ih =>
    rw [show n + (j + 1) = n + j + 1 by omega, seatList_succ, seatList_succ, ih, List.append_assoc]
    have : seatCat S n T (n + j) = T j := by unfold seatCat; rw [if_neg (by omega), show n + j - n = j by omega]
    rw [this]
/-- The cells of a list, read at its address. -/
theorem seats_cells {w : World} {ao : Option Addr} {n : Nat} {S : Nat → Seat} (h : SeatsAt w ao n S) : ∀ ad, ao = some ad → ∀ j u, (seatList S n)[j]? = some u → w.cell? (ad.add j) = some u := by
  intro ad e j u hu
  obtain ⟨hj, rfl⟩ := seatList_get hu
  obtain ⟨b, off, e', h0, h1⟩ := h (j / 2) (by omega)
  rw [e] at e'
  simp only [Option.some.injEq] at e'
  subst e'
  rw [Addr.add_lit]
  have hm : j % 2 = 0 ∨ j % 2 = 1 := by omega
  rcases hm with hm | hm
  · rw [show off + j = off + j / 2 * 2 by omega, h0]; unfold seatCell; simp [hm]
  · rw [show off + j = off + j / 2 * 2 + 1 by omega, h1]; unfold seatCell; simp [hm]
theorem seats_of_own {w : World} {base e n c : Nat} {ao : Option Addr} {S : Nat → Seat} (h : w.ownsRow base e 2 (.slice ao n c) n (seatList S n)) : SeatsAt w ao n S := by
  intro k hk
  obtain ⟨g, rfl, _, _⟩ := own_addr h (by omega)
  have c0 := own_cell h (k * 2) (by omega) rfl
  rw [seatCell_0] at c0
  have c1 := own_cell h (k * 2 + 1) (by omega) rfl
  rw [seatCell_1] at c1
  exact ⟨g, 0, rfl, by rw [Nat.zero_add]; exact c0, by rw [Nat.zero_add]; exact c1⟩
/-- Records with their address written out. -/
theorem seats_in {w : World} {ao : Option Addr} {n : Nat} {S : Nat → Seat} (h : SeatsAt w ao n S) : n = 0 ∨ ∃ b off, ao = some ⟨b, off, none⟩ ∧ b < w.heap.size := by
  by_cases h0 : n = 0
  · exact .inl h0
  · obtain ⟨b, off, rfl, h1, _⟩ := h 0 (by omega)
    exact .inr ⟨b, off, rfl, World.block_lt_of_cell? w _ h1⟩

end Go.Proofs.YtfallpinmhbemaaGreatDoor
