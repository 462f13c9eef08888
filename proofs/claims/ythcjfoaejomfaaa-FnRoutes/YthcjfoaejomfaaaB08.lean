/-
  OWN TEXT: KitTD, KitTt.
-/
import Derived.Test.YthcjfoaejomfaaaB07
namespace Go.Proofs.Ythcjfoaejomfaaa
open Go.RowKit

theorem eight (cs : Array Value) (h : cs.size = 8) : ∃ r0 r1 r2 r3 r4 r5 r6 r7, cs = #[r0, r1, r2, r3, r4, r5, r6, r7] := by
  refine ⟨cs[0], cs[1], cs[2], cs[3], cs[4], cs[5], cs[6], cs[7], ?_⟩
  apply Array.ext
  · simpa using h
  · intro i h1 h2
    have h3 : i = 0 ∨ i = 1 ∨ i = 2 ∨ i = 3 ∨ i = 4 ∨ i = 5 ∨ i = 6 ∨ i = 7 := by simp at h2; omega
    rcases h3 with rfl | rfl | rfl | rfl | rfl | rfl | rfl | rfl <;> rfl
theorem box_eight {w : World} {b t : Nat} {r0 r1 r2 r3 r4 r5 r6 r7 : Value} (h : w.heap[b]? = some (.cells #[r0, r1, r2, r3, r4, r5, r6, r7] t (0, 0))) (v0 v1 v2 v3 v4 v5 v6 v7 : Value) :
    ((((((((w.setCell ⟨b, 0, none⟩ v0).setCell ⟨b, 1, none⟩ v1).setCell ⟨b, 2, none⟩ v2).setCell ⟨b, 3, none⟩ v3).setCell ⟨b, 4, none⟩ v4).setCell ⟨b, 5, none⟩ v5).setCell ⟨b, 6, none⟩ v6).setCell ⟨b, 7, none⟩ v7).heap[b]? = some (.cells #[v0, v1, v2, v3, v4, v5, v6, v7] t (0, 0)) := by
  have h0 : (w.setCell ⟨b, 0, none⟩ v0).heap[b]? = some (.cells #[v0, r1, r2, r3, r4, r5, r6, r7] t (0, 0)) := by simpa using blk_set h 0 v0
  have h1 : (World.setCell (w.setCell ⟨b, 0, none⟩ v0) ⟨b, 1, none⟩ v1).heap[b]? = some (.cells #[v0, v1, r2, r3, r4, r5, r6, r7] t (0, 0)) := by simpa using blk_set h0 1 v1
  have h2 : (World.setCell (World.setCell (w.setCell ⟨b, 0, none⟩ v0) ⟨b, 1, none⟩ v1) ⟨b, 2, none⟩ v2).heap[b]? = some (.cells #[v0, v1, v2, r3, r4, r5, r6, r7] t (0, 0)) := by simpa using blk_set h1 2 v2
  have h3 : (World.setCell (World.setCell (World.setCell (w.setCell ⟨b, 0, none⟩ v0) ⟨b, 1, none⟩ v1) ⟨b, 2, none⟩ v2) ⟨b, 3, none⟩ v3).heap[b]? = some (.cells #[v0, v1, v2, v3, r4, r5, r6, r7] t (0, 0)) := by simpa using blk_set h2 3 v3
  have h4 : (World.setCell (World.setCell (World.setCell (World.setCell (w.setCell ⟨b, 0, none⟩ v0) ⟨b, 1, none⟩ v1) ⟨b, 2, none⟩ v2) ⟨b, 3, none⟩ v3) ⟨b, 4, none⟩ v4).heap[b]? = some (.cells #[v0, v1, v2, v3, v4, r5, r6, r7] t (0, 0)) := by simpa using blk_set h3 4 v4
  have h5 : (World.setCell (World.setCell (World.setCell (World.setCell (World.setCell (w.setCell ⟨b, 0, none⟩ v0) ⟨b, 1, none⟩ v1) ⟨b, 2, none⟩ v2) ⟨b, 3, none⟩ v3) ⟨b, 4, none⟩ v4) ⟨b, 5, none⟩ v5).heap[b]? = some (.cells #[v0, v1, v2, v3, v4, v5, r6, r7] t (0, 0)) := by simpa using blk_set h4 5 v5
  have h6 : (World.setCell (World.setCell (World.setCell (World.setCell (World.setCell (World.setCell (w.setCell ⟨b, 0, none⟩ v0) ⟨b, 1, none⟩ v1) ⟨b, 2, none⟩ v2) ⟨b, 3, none⟩ v3) ⟨b, 4, none⟩ v4) ⟨b, 5, none⟩ v5) ⟨b, 6, none⟩ v6).heap[b]? = some (.cells #[v0, v1, v2, v3, v4, v5, v6, r7] t (0, 0)) := by simpa using blk_set h5 6 v6
  have h7 : (World.setCell (World.setCell (World.setCell (World.setCell (World.setCell (World.setCell (World.setCell (w.setCell ⟨b, 0, none⟩ v0) ⟨b, 1, none⟩ v1) ⟨b, 2, none⟩ v2) ⟨b, 3, none⟩ v3) ⟨b, 4, none⟩ v4) ⟨b, 5, none⟩ v5) ⟨b, 6, none⟩ v6) ⟨b, 7, none⟩ v7).heap[b]? = some (.cells #[v0, v1, v2, v3, v4, v5, v6, v7] t (0, 0)) := by simpa using blk_set h6 7 v7
  exact h7
theorem TSit.done {w wr : World} {xb cb n c a : Nat} {ao : Option Addr} {x : Sail} {vl vc : Value} (h : TSit w wr xb cb ao n c a x vl vc) (hcb : cb < w.heap.size) (hl : CodeLow w ao n) (v0 v1 v2 v3 v4 v5 v6 v7 : Value) {z : World}
    (hz : z = ((((((((wr.setCell ⟨w.heap.size, 0, none⟩ v0).setCell ⟨w.heap.size, 1, none⟩ v1).setCell ⟨w.heap.size, 2, none⟩ v2).setCell ⟨w.heap.size, 3, none⟩ v3).setCell ⟨w.heap.size, 4, none⟩ v4).setCell ⟨w.heap.size, 5, none⟩ v5).setCell ⟨w.heap.size, 6, none⟩ v6).setCell ⟨w.heap.size, 7, none⟩ v7)) :
    CurX z cb ao n c a ∧ Kept w z (fun b => b = cb) ∧ z.ownsRow w.heap.size 70 2 vl x.la.n (pairRow x.la) ∧ z.ownsRow w.heap.size 72 2 vc x.ca.n (pairRow x.ca) := by
  have hk : Kept wr z (fun b => b = w.heap.size) := by
    rw [hz]
    exact ((((((((Kept.refl wr (fun b => b = w.heap.size)).set (a := ⟨w.heap.size, 0, none⟩) rfl v0).set (a := ⟨w.heap.size, 1, none⟩) rfl v1).set (a := ⟨w.heap.size, 2, none⟩) rfl v2).set (a := ⟨w.heap.size, 3, none⟩) rfl v3).set (a := ⟨w.heap.size, 4, none⟩) rfl v4).set (a := ⟨w.heap.size, 5, none⟩) rfl v5).set (a := ⟨w.heap.size, 6, none⟩) rfl v6).set (a := ⟨w.heap.size, 7, none⟩) rfl v7
  obtain ⟨cs, h3, h4⟩ := h.res
  exact ⟨h.cur.far hk (by show ¬ cb = w.heap.size; omega) (fun k hk' b off e1 e2 => by have e2 : b = w.heap.size := e2; have := hl k hk' b off e1; omega), kept_away' h.kept hk (fun b e => by have e : b = w.heap.size := e; omega),
    hk.own h.la (own_not h.la h4 (by decide)), hk.own h.ca (own_not h.ca h4 (by decide))⟩

end Go.Proofs.Ythcjfoaejomfaaa

namespace Go.Proofs.Ythcjfoaejomfaaa
open Go.RowKit

def atG {α : Type} (f : Nat → α) (k : Nat) (v : α) : Nat → α := fun i => if i = k then v else f i
theorem atG_at {α : Type} (f : Nat → α) (k : Nat) (v : α) : atG f k v k = v := if_pos rfl
theorem atG_ne {α : Type} (f : Nat → α) (k : Nat) (v : α) (i : Nat) (h : i ≠ k) : atG f k v i = f i := if_neg h

/-- Sailings in a row of its own, their lanes and cabins in memory from base on. -/
structure LieSails (w : World) (base : Nat) (v : Value) (N : Nat) (S : Nat → Sail) (L C : Nat → Value) : Prop where
  row : w.ownsRow base 33 8 v N ((List.range (N * 8)).map (sailCell S L C))
  la : ∀ i, i < N → w.ownsRow base 70 2 (L i) (S i).la.n (pairRow (S i).la)
  ca : ∀ i, i < N → w.ownsRow base 72 2 (C i) (S i).ca.n (pairRow (S i).ca)
section
variable {w w' : World} {base N : Nat} {v : Value} {S : Nat → Sail} {L C : Nat → Value}
theorem LieSails.below (h : LieSails w base v N S L C) (hb : Below w.heap.size w w') : LieSails w' base v N S L C :=
  ⟨own_below hb h.row, fun i hi => own_below hb (h.la i hi), fun i hi => own_below hb (h.ca i hi)⟩
theorem LieSails.kept {T : Nat → Prop} (h : LieSails w base v N S L C) (hk : Kept w w' T) (hT : ∀ b, T b → b < base) : LieSails w' base v N S L C :=
  ⟨hk.own h.row (fun g hg s => by have := (h.row.lt g hg).1; have := hT g s; omega), fun i hi => hk.own (h.la i hi) (fun g hg s => by have := ((h.la i hi).lt g hg).1; have := hT g s; omega),
    fun i hi => hk.own (h.ca i hi) (fun g hg s => by have := ((h.ca i hi).lt g hg).1; have := hT g s; omega)⟩
/-- A store into a box of a sailing that is not the row's. -/
theorem LieSails.box {b : Nat} {cs : Array Value} (h : LieSails w base v N S L C) (hb : w.heap[b]? = some (.cells cs 33 (0, 0))) (hne : ∀ g, v.ownBlock = some g → ¬ g = b) (hk : Kept w w' (fun k => k = b)) : LieSails w' base v N S L C :=
  ⟨hk.own h.row hne, fun i hi => hk.own (h.la i hi) (own_not (h.la i hi) hb (by decide)), fun i hi => hk.own (h.ca i hi) (own_not (h.ca i hi) hb (by decide))⟩
theorem LieSails.at {ao : Option Addr} {c : Nat} (h : LieSails w base (.slice ao N c) N S L C) : SailsAt w ao N S := by
  intro k hk
  obtain ⟨g, rfl, _, _⟩ := own_addr h.row (by omega)
  obtain ⟨la, lc, e1, l1, l2, l3⟩ := own_form (h.la k hk)
  obtain ⟨ca, cc, e2, c1, c2, c3⟩ := own_form (h.ca k hk)
  have o1 := h.la k hk
  have o2 := h.ca k hk
  rw [e1] at o1
  rw [e2] at o2
  refine ⟨g, 0, la, lc, ca, cc, rfl, ?_, ?_, ?_, ?_, ?_, ?_, ?_, ?_, pairs_of_own o1, pairs_of_own o2, ⟨l1, l2, l3⟩, ⟨c1, c2, c3⟩⟩
  · rw [Nat.zero_add, own_cell h.row (k * 8) (by omega) rfl, sailCell_0]
  · rw [Nat.zero_add, own_cell h.row (k * 8 + 1) (by omega) rfl, sailCell_1]
  · rw [Nat.zero_add, own_cell h.row (k * 8 + 2) (by omega) rfl, sailCell_2]
  · rw [Nat.zero_add, own_cell h.row (k * 8 + 3) (by omega) rfl, sailCell_3]
  · rw [Nat.zero_add, own_cell h.row (k * 8 + 4) (by omega) rfl, sailCell_4]
  · rw [Nat.zero_add, own_cell h.row (k * 8 + 5) (by omega) rfl, sailCell_5, e1]
  · rw [Nat.zero_add, own_cell h.row (k * 8 + 6) (by omega) rfl, sailCell_6, e2]
  · rw [Nat.zero_add, own_cell h.row (k * 8 + 7) (by omega) rfl, sailCell_7]
theorem LieSails.nil (w : World) (base : Nat) (S : Nat → Sail) (L C : Nat → Value) : LieSails w base (.slice none 0 0) 0 S L C :=
  ⟨⟨rfl, .inl ⟨rfl, rfl⟩⟩, fun i hi => by omega, fun i hi => by omega⟩
theorem sailRow_snoc (S : Nat → Sail) (L C : Nat → Value) (k : Nat) (x : Sail) (vl vc : Value) :
    (List.range ((k + 1) * 8)).map (sailCell (atG S k x) (atG L k vl) (atG C k vc)) = (List.range (k * 8)).map (sailCell S L C) ++ [.int .i64 x.id, .string x.fr, .string x.dst, .int .i64 x.dep, .int .i64 x.arr, vl, vc, .int .i64 x.most] := by
  rw [show (k + 1) * 8 = k * 8 + 1 + 1 + 1 + 1 + 1 + 1 + 1 + 1 by omega, List.range_succ, List.range_succ, List.range_succ, List.range_succ, List.range_succ, List.range_succ, List.range_succ, List.range_succ]
  simp only [List.map_append, List.map_cons, List.map_nil, List.append_assoc, List.cons_append, List.nil_append]
  rw [sailCell_0, sailCell_1, show k * 8 + 1 + 1 = k * 8 + 2 by omega, sailCell_2, show k * 8 + 2 + 1 = k * 8 + 3 by omega, sailCell_3, show k * 8 + 3 + 1 = k * 8 + 4 by omega, sailCell_4, show k * 8 + 4 + 1 = k * 8 + 5 by omega, sailCell_5, show k * 8 + 5 + 1 = k * 8 + 6 by omega, sailCell_6, show k * 8 + 6 + 1 = k * 8 + 7 by omega, sailCell_7, atG_at, atG_at, atG_at]
  congr 1
  refine List.map_congr_left fun j hj => ?_
  have hj' : j < k * 8 := by simpa using hj
  unfold sailCell
  rw [atG_ne _ _ _ _ (show j / 8 ≠ k by omega), atG_ne _ _ _ _ (show j / 8 ≠ k by omega), atG_ne _ _ _ _ (show j / 8 ≠ k by omega)]
/-- One sailing more behind the others. -/
theorem LieSails.snoc {x : Sail} {v' vl vc : Value} (h : LieSails w base v N S L C) (hl : w.ownsRow base 70 2 vl x.la.n (pairRow x.la)) (hc : w.ownsRow base 72 2 vc x.ca.n (pairRow x.ca)) (hg : w.grownBy w' v.ownBlock)
    (ho : w'.ownsRow base 33 8 v' (N + 1) ((List.range (N * 8)).map (sailCell S L C) ++ [.int .i64 x.id, .string x.fr, .string x.dst, .int .i64 x.dep, .int .i64 x.arr, vl, vc, .int .i64 x.most])) :
    LieSails w' base v' (N + 1) (atG S N x) (atG L N vl) (atG C N vc) := by
  have hk := kept_row hg
  refine ⟨by rw [sailRow_snoc]; exact ho, fun i hi => ?_, fun i hi => ?_⟩
  · by_cases e : i = N
    · subst e; rw [atG_at, atG_at]; exact hk.own hl (fun g hg1 hg2 => own_apart h.row hl (by decide) g hg2 hg1)
    · rw [atG_ne _ _ _ _ e, atG_ne _ _ _ _ e]; exact hk.own (h.la i (by omega)) (fun g hg1 hg2 => own_apart h.row (h.la i (by omega)) (by decide) g hg2 hg1)
  · by_cases e : i = N
    · subst e; rw [atG_at, atG_at]; exact hk.own hc (fun g hg1 hg2 => own_apart h.row hc (by decide) g hg2 hg1)
    · rw [atG_ne _ _ _ _ e, atG_ne _ _ _ _ e]; exact hk.own (h.ca i (by omega)) (fun g hg1 hg2 => own_apart h.row (h.ca i (by omega)) (by decide) g hg2 hg1)
end

/-- A timetable that is drawn: the cursor, the sailings so far. -/
structure LSit (w wr : World) (cb : Nat) (ao : Option Addr) (n c a : Nat) (v : Value) (N : Nat) (S : Nat → Sail) (L C : Nat → Value) : Prop where
  cur : CurX wr cb ao n c a
  kept : Kept w wr (fun b => b = cb)
  lie : LieSails wr w.heap.size v N S L C
  short : ShortAll N S 100
/-- And the sailing at hand in its box. -/
structure BSit (w wr : World) (xb cb : Nat) (ao : Option Addr) (n c a : Nat) (v : Value) (N : Nat) (S : Nat → Sail) (L C : Nat → Value) (x : Sail) (vl vc : Value) : Prop where
  l : LSit w wr cb ao n c a v N S L C
  lo : w.heap.size ≤ xb
  box : wr.heap[xb]? = some (.cells #[.int .i64 x.id, .string x.fr, .string x.dst, .int .i64 x.dep, .int .i64 x.arr, vl, vc, .int .i64 x.most] 33 (0, 0))
  ne : ∀ g, v.ownBlock = some g → ¬ g = xb
  la : wr.ownsRow w.heap.size 70 2 vl x.la.n (pairRow x.la)
  ca : wr.ownsRow w.heap.size 72 2 vc x.ca.n (pairRow x.ca)
  sx : ShortS x 100
section
variable {w wr w' : World} {xb cb n c a N : Nat} {ao : Option Addr} {v : Value} {S : Nat → Sail} {L C : Nat → Value} {x : Sail} {vl vc : Value}
theorem LSit.on {a' : Nat} (h : LSit w wr cb ao n c a v N S L C) (hcb : cb < w.heap.size) (hc : CurX w' cb ao n c a') (hk : Kept wr w' (fun b => b = cb)) : LSit w w' cb ao n c a' v N S L C :=
  ⟨hc, h.kept.trans hk, h.lie.kept hk (fun b e => by have e : b = cb := e; omega), h.short⟩
theorem LSit.below (h : LSit w wr cb ao n c a v N S L C) (hb : Below wr.heap.size wr w') : LSit w w' cb ao n c a v N S L C :=
  ⟨h.cur.below hb, h.kept.trans (Kept.of_below hb), h.lie.below hb, h.short⟩
theorem LSit.more {a' : Nat} (h : LSit w wr cb ao n c a v N S L C) (ha : a ≤ a') : LSit w wr cb ao n c a' v N S L C := ⟨h.cur.more ha, h.kept, h.lie, h.short⟩
theorem BSit.on {a' : Nat} (h : BSit w wr xb cb ao n c a v N S L C x vl vc) (hcb : cb < w.heap.size) (hc : CurX w' cb ao n c a') (hk : Kept wr w' (fun b => b = cb)) : BSit w w' xb cb ao n c a' v N S L C x vl vc := by
  have hlo := h.lo
  exact ⟨h.l.on hcb hc hk, h.lo, hk.blk h.box (by show ¬ xb = cb; omega), h.ne, hk.own h.la (fun g hg e => by have e : g = cb := e; have := (h.la.lt g hg).1; omega), hk.own h.ca (fun g hg e => by have e : g = cb := e; have := (h.ca.lt g hg).1; omega), h.sx⟩
theorem BSit.below (h : BSit w wr xb cb ao n c a v N S L C x vl vc) (hb : Below wr.heap.size wr w') : BSit w w' xb cb ao n c a v N S L C x vl vc :=
  ⟨h.l.below hb, h.lo, blk_below h.box hb, h.ne, own_below hb h.la, own_below hb h.ca, h.sx⟩
theorem BSit.more {a' : Nat} (h : BSit w wr xb cb ao n c a v N S L C x vl vc) (ha : a ≤ a') : BSit w wr xb cb ao n c a' v N S L C x vl vc := ⟨h.l.more ha, h.lo, h.box, h.ne, h.la, h.ca, h.sx⟩
/-- A store into the box. -/
theorem BSit.put (h : BSit w wr xb cb ao n c a v N S L C x vl vc) (hcb : cb < w.heap.size) (hl : CodeLow w ao n) {y : Sail} {wl wc : Value} (hk : Kept wr w' (fun b => b = xb))
    (hb : w'.heap[xb]? = some (.cells #[.int .i64 y.id, .string y.fr, .string y.dst, .int .i64 y.dep, .int .i64 y.arr, wl, wc, .int .i64 y.most] 33 (0, 0)))
    (h7 : wr.ownsRow w.heap.size 70 2 wl y.la.n (pairRow y.la)) (h8 : wr.ownsRow w.heap.size 72 2 wc y.ca.n (pairRow y.ca)) (h9 : ShortS y 100) : BSit w w' xb cb ao n c a v N S L C y wl wc := by
  have hlo := h.lo
  exact ⟨⟨h.l.cur.far hk (by show ¬ cb = xb; omega) (fun k hk' b off e1 e2 => by have e2 : b = xb := e2; have := hl k hk' b off e1; omega), kept_away' h.l.kept hk (fun b e => by have e : b = xb := e; omega), h.l.lie.box h.box h.ne hk, h.l.short⟩,
    hlo, hb, h.ne, hk.own h7 (own_not h7 h.box (by decide)), hk.own h8 (own_not h8 h.box (by decide)), h9⟩
theorem kept_set (w : World) (b i : Nat) (u : Value) : Kept w (w.setCell ⟨b, i, none⟩ u) (fun k => k = b) := (Kept.refl w (fun k => k = b)).set (a := ⟨b, i, none⟩) rfl u
theorem BSit.fr (h : BSit w wr xb cb ao n c a v N S L C x vl vc) (hcb : cb < w.heap.size) (hl : CodeLow w ao n) (s : ByteArray) (hs : s.size ≤ 100) : BSit w (wr.setCell ⟨xb, 1, none⟩ (.string s)) xb cb ao n c a v N S L C { x with fr := s } vl vc := h.put hcb hl (kept_set _ _ _ _) (by simpa using blk_set h.box 1 (.string s)) h.la h.ca ⟨hs, h.sx.2.1, h.sx.2.2.1, h.sx.2.2.2⟩
theorem BSit.to (h : BSit w wr xb cb ao n c a v N S L C x vl vc) (hcb : cb < w.heap.size) (hl : CodeLow w ao n) (s : ByteArray) (hs : s.size ≤ 100) : BSit w (wr.setCell ⟨xb, 2, none⟩ (.string s)) xb cb ao n c a v N S L C { x with dst := s } vl vc := h.put hcb hl (kept_set _ _ _ _) (by simpa using blk_set h.box 2 (.string s)) h.la h.ca ⟨h.sx.1, hs, h.sx.2.2.1, h.sx.2.2.2⟩
theorem BSit.dep (h : BSit w wr xb cb ao n c a v N S L C x vl vc) (hcb : cb < w.heap.size) (hl : CodeLow w ao n) (z : Int) : BSit w (wr.setCell ⟨xb, 3, none⟩ (.int .i64 z)) xb cb ao n c a v N S L C { x with dep := z } vl vc := h.put hcb hl (kept_set _ _ _ _) (by simpa using blk_set h.box 3 (.int .i64 z)) h.la h.ca h.sx
theorem BSit.arr (h : BSit w wr xb cb ao n c a v N S L C x vl vc) (hcb : cb < w.heap.size) (hl : CodeLow w ao n) (z : Int) : BSit w (wr.setCell ⟨xb, 4, none⟩ (.int .i64 z)) xb cb ao n c a v N S L C { x with arr := z } vl vc := h.put hcb hl (kept_set _ _ _ _) (by simpa using blk_set h.box 4 (.int .i64 z)) h.la h.ca h.sx
/-- Another sailing put in its place whole. -/
theorem BSit.whole (h : BSit w wr xb cb ao n c a v N S L C x vl vc) (hcb : cb < w.heap.size) (hl : CodeLow w ao n) {y : Sail} {wl wc : Value} {z : World}
    (hz : z = ((((((((wr.setCell ⟨xb, 0, none⟩ (.int .i64 y.id)).setCell ⟨xb, 1, none⟩ (.string y.fr)).setCell ⟨xb, 2, none⟩ (.string y.dst)).setCell ⟨xb, 3, none⟩ (.int .i64 y.dep)).setCell ⟨xb, 4, none⟩ (.int .i64 y.arr)).setCell ⟨xb, 5, none⟩ wl).setCell ⟨xb, 6, none⟩ wc).setCell ⟨xb, 7, none⟩ (.int .i64 y.most)))
    (h7 : wr.ownsRow w.heap.size 70 2 wl y.la.n (pairRow y.la)) (h8 : wr.ownsRow w.heap.size 72 2 wc y.ca.n (pairRow y.ca)) (h9 : ShortS y 100) : BSit w z xb cb ao n c a v N S L C y wl wc := by
  refine h.put hcb hl ?_ ?_ h7 h8 h9
  · rw [hz]
    exact ((((((((Kept.refl wr (fun b => b = xb)).set (a := ⟨xb, 0, none⟩) rfl _).set (a := ⟨xb, 1, none⟩) rfl _).set (a := ⟨xb, 2, none⟩) rfl _).set (a := ⟨xb, 3, none⟩) rfl _).set (a := ⟨xb, 4, none⟩) rfl _).set (a := ⟨xb, 5, none⟩) rfl _).set (a := ⟨xb, 6, none⟩) rfl _).set (a := ⟨xb, 7, none⟩) rfl _
  · rw [hz]
    exact box_eight h.box _ _ _ _ _ _ _ _
/-- The box joins the row. -/
theorem BSit.snoc {v' : Value} (h : BSit w wr xb cb ao n c a v N S L C x vl vc) (hcb : cb < w.heap.size) (hl : CodeLow w ao n) (hg : wr.grownBy w' v.ownBlock)
    (ho : w'.ownsRow w.heap.size 33 8 v' (N + 1) ((List.range (N * 8)).map (sailCell S L C) ++ [.int .i64 x.id, .string x.fr, .string x.dst, .int .i64 x.dep, .int .i64 x.arr, vl, vc, .int .i64 x.most])) :
    LSit w w' cb ao n c a v' (N + 1) (atG S N x) (atG L N vl) (atG C N vc) := by
  have hk := kept_row hg
  have hge : ∀ b, v.ownBlock = some b → w.heap.size ≤ b := fun b e => (h.l.lie.row.lt b e).1
  refine ⟨h.l.cur.far hk (fun e => by have := hge _ e; omega) (fun k hk' b off e1 e2 => by have := hge _ e2; have := hl k hk' b off e1; omega), kept_away' h.l.kept hk (fun b e => hge b e), h.l.lie.snoc h.la h.ca hg ho, fun i hi => ?_⟩
  by_cases e : i = N
  · subst e; rw [atG_at]; exact h.sx
  · rw [atG_ne _ _ _ _ e]; exact h.l.short i (by omega)
end

end Go.Proofs.Ythcjfoaejomfaaa
