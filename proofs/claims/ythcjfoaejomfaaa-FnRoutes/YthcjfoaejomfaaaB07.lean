/-
  OWN TEXT: KitAt, KitTS.
-/
import Derived.Test.YthcjfoaejomfaaaB00
import Derived.Test.YthcjfoaejomfaaaB06
namespace Go.Proofs.Ythcjfoaejomfaaa
open Go.RowKit

/-- f, with u at place q. -/
def atV (f : Nat → Value) (q : Nat) (u : Value) (i : Nat) : Value := if i = q then u else f i
theorem atV_at (f : Nat → Value) (q : Nat) (u : Value) : atV f q u q = u := if_pos rfl
theorem atV_ne (f : Nat → Value) (q : Nat) (u : Value) (i : Nat) (h : i ≠ q) : atV f q u i = f i := if_neg h
theorem kept_row {w w' : World} {row : Option Nat} (h : w.grownBy w' row) : Kept w w' (fun b => row = some b) := ⟨h.os, h.tape, h.output, h.size, fun i hi hn => h.block i hi (fun e => hn e.symm)⟩

end Go.Proofs.Ythcjfoaejomfaaa

namespace Go.Proofs.Ythcjfoaejomfaaa
open Go.RowKit

def addP (p : Pairs) (a b : Int) : Pairs := ⟨p.n + 1, fun i => if i < p.n then p.A i else a, fun i => if i < p.n then p.B i else b⟩
theorem pairRow_add (p : Pairs) (a b : Int) : pairRow (addP p a b) = pairRow p ++ [.int .i64 a, .int .i64 b] := by
  unfold pairRow
  rw [show (addP p a b).n * 2 = p.n * 2 + 1 + 1 by show (p.n + 1) * 2 = _; omega, List.range_succ, List.range_succ]
  simp only [List.map_append, List.map_cons, List.map_nil, List.append_assoc, List.cons_append, List.nil_append]
  rw [pairCell_0, pairCell_1]
  have e1 : (addP p a b).A p.n = a := if_neg (Nat.lt_irrefl _)
  have e2 : (addP p a b).B p.n = b := if_neg (Nat.lt_irrefl _)
  rw [e1, e2]
  congr 1
  refine List.map_congr_left fun j hj => ?_
  have hj' : j < p.n * 2 := by simpa using hj
  have h1 : (addP p a b).A (j / 2) = p.A (j / 2) := if_pos (by omega)
  have h2 : (addP p a b).B (j / 2) = p.B (j / 2) := if_pos (by omega)
  unfold pairCell
  rw [h1, h2]
def noP : Pairs := ⟨0, fun _ => 0, fun _ => 0⟩

theorem own_blk' {w : World} {base e size n : Nat} {v : Value} {xs : List Value} (h : w.ownsRow base e size v n xs) {g : Nat} (hg : v.ownBlock = some g) : ∃ cur, w.heap[g]? = some (.cells cur e (0, 0)) := by
  rcases h.2 with ⟨rfl, _⟩ | ⟨g', cap', cur, rfl, _, hg', _⟩
  · simp [Value.ownBlock] at hg
  · simp only [Value.ownBlock, Option.some.injEq] at hg
    subst hg
    exact ⟨cur, hg'⟩
theorem own_not {w : World} {base e size n : Nat} {v : Value} {xs : List Value} (h : w.ownsRow base e size v n xs) {b t : Nat} {cs : Array Value} (hb : w.heap[b]? = some (.cells cs t (0, 0))) (hne : e ≠ t) : ∀ g, v.ownBlock = some g → ¬ g = b := by
  rintro g hg rfl
  obtain ⟨cur, hc⟩ := own_blk' h hg
  rw [hc] at hb
  simp only [Option.some.injEq, Obj.cells.injEq] at hb
  exact hne hb.2.1

structure TSit (w wr : World) (xb cb : Nat) (ao : Option Addr) (n c a : Nat) (x : Sail) (vl vc : Value) : Prop where
  lo : w.heap.size < xb
  box : wr.heap[xb]? = some (.cells #[.int .i64 x.id, .string x.fr, .string x.dst, .int .i64 x.dep, .int .i64 x.arr, vl, vc, .int .i64 x.most] 33 (0, 0))
  res : ∃ cs : Array Value, cs.size = 8 ∧ wr.heap[w.heap.size]? = some (.cells cs 33 (0, 0))
  cur : CurX wr cb ao n c a
  kept : Kept w wr (fun b => b = cb)
  la : wr.ownsRow w.heap.size 70 2 vl x.la.n (pairRow x.la)
  ca : wr.ownsRow w.heap.size 72 2 vc x.ca.n (pairRow x.ca)
  sz : x.fr.size ≤ 13 ∧ x.dst.size ≤ 13
section
variable {w wr w' : World} {xb cb n c a : Nat} {ao : Option Addr} {x : Sail} {vl vc : Value}
theorem TSit.on {a' : Nat} (h : TSit w wr xb cb ao n c a x vl vc) (hcb : cb < w.heap.size) (hc : CurX w' cb ao n c a') (hk : Kept wr w' (fun b => b = cb)) : TSit w w' xb cb ao n c a' x vl vc := by
  obtain ⟨h1, h2, ⟨cs, h3, h4⟩, _, h6, h7, h8, h9⟩ := h
  exact ⟨h1, hk.blk h2 (by omega), ⟨cs, h3, hk.blk h4 (by omega)⟩, hc, h6.trans hk, hk.own h7 (fun g hg e => by have e : g = cb := e; have := (h7.lt g hg).1; omega), hk.own h8 (fun g hg e => by have e : g = cb := e; have := (h8.lt g hg).1; omega), h9⟩
theorem TSit.below (h : TSit w wr xb cb ao n c a x vl vc) (hb : Below wr.heap.size wr w') : TSit w w' xb cb ao n c a x vl vc := by
  obtain ⟨h1, h2, ⟨cs, h3, h4⟩, h5, h6, h7, h8, h9⟩ := h
  exact ⟨h1, blk_below h2 hb, ⟨cs, h3, blk_below h4 hb⟩, h5.below hb, h6.trans (Kept.of_below hb), own_below hb h7, own_below hb h8, h9⟩
theorem TSit.more {a' : Nat} (h : TSit w wr xb cb ao n c a x vl vc) (ha : a ≤ a') : TSit w wr xb cb ao n c a' x vl vc := ⟨h.lo, h.box, h.res, h.cur.more ha, h.kept, h.la, h.ca, h.sz⟩
/-- A store into the box: what else there is stays. -/
theorem TSit.put (h : TSit w wr xb cb ao n c a x vl vc) (hcb : cb < w.heap.size) (hl : CodeLow w ao n) (i : Nat) (u : Value) {y : Sail} {wl wc : Value}
    (hb : (wr.setCell ⟨xb, i, none⟩ u).heap[xb]? = some (.cells #[.int .i64 y.id, .string y.fr, .string y.dst, .int .i64 y.dep, .int .i64 y.arr, wl, wc, .int .i64 y.most] 33 (0, 0)))
    (h7 : wr.ownsRow w.heap.size 70 2 wl y.la.n (pairRow y.la)) (h8 : wr.ownsRow w.heap.size 72 2 wc y.ca.n (pairRow y.ca)) (h9 : y.fr.size ≤ 13 ∧ y.dst.size ≤ 13) : TSit w (wr.setCell ⟨xb, i, none⟩ u) xb cb ao n c a y wl wc := by
  have hk : Kept wr (wr.setCell ⟨xb, i, none⟩ u) (fun b => b = xb) := (Kept.refl wr (fun b => b = xb)).set (a := ⟨xb, i, none⟩) rfl u
  have hlo := h.lo
  obtain ⟨cs, h3, h4⟩ := h.res
  exact ⟨hlo, hb, ⟨cs, h3, hk.blk h4 (by omega)⟩, h.cur.far hk (by omega) (fun k hk' b off e1 e2 => by have e2 : b = xb := e2; have := hl k hk' b off e1; omega), kept_away' h.kept hk (fun b e => by have e : b = xb := e; omega),
    hk.own h7 (own_not h7 h.box (by decide)), hk.own h8 (own_not h8 h.box (by decide)), h9⟩
theorem TSit.arr (h : TSit w wr xb cb ao n c a x vl vc) (hcb : cb < w.heap.size) (hl : CodeLow w ao n) (z : Int) : TSit w (wr.setCell ⟨xb, 4, none⟩ (.int .i64 z)) xb cb ao n c a { x with arr := z } vl vc := h.put hcb hl 4 _ (by simpa using blk_set h.box 4 (.int .i64 z)) h.la h.ca h.sz
theorem TSit.most (h : TSit w wr xb cb ao n c a x vl vc) (hcb : cb < w.heap.size) (hl : CodeLow w ao n) (z : Int) : TSit w (wr.setCell ⟨xb, 7, none⟩ (.int .i64 z)) xb cb ao n c a { x with most := z } vl vc := h.put hcb hl 7 _ (by simpa using blk_set h.box 7 (.int .i64 z)) h.la h.ca h.sz
theorem TSit.ids (h : TSit w wr xb cb ao n c a x vl vc) (hcb : cb < w.heap.size) (hl : CodeLow w ao n) (z : Int) : TSit w (wr.setCell ⟨xb, 0, none⟩ (.int .i64 z)) xb cb ao n c a { x with id := z } vl vc := h.put hcb hl 0 _ (by simpa using blk_set h.box 0 (.int .i64 z)) h.la h.ca h.sz
theorem TSit.frs (h : TSit w wr xb cb ao n c a x vl vc) (hcb : cb < w.heap.size) (hl : CodeLow w ao n) (s : ByteArray) (hs : s.size ≤ 13) : TSit w (wr.setCell ⟨xb, 1, none⟩ (.string s)) xb cb ao n c a { x with fr := s } vl vc := h.put hcb hl 1 _ (by simpa using blk_set h.box 1 (.string s)) h.la h.ca ⟨hs, h.sz.2⟩
/-- One lane more. -/
theorem TSit.lane {g cap : Nat} (h : TSit w wr xb cb ao n c a x vl vc) (hcb : cb < w.heap.size) (hl : CodeLow w ao n) (p q : Int) (hg : wr.grownBy w' vl.ownBlock) (ho : w'.ownsRow w.heap.size 70 2 (.slice (some ⟨g, 0, none⟩) (x.la.n + 1) cap) (x.la.n + 1) (pairRow x.la ++ [.int .i64 p, .int .i64 q])) :
    TSit w (w'.setCell ⟨xb, 5, none⟩ (.slice (some ⟨g, 0, none⟩) (x.la.n + 1) cap)) xb cb ao n c a { x with la := addP x.la p q } (.slice (some ⟨g, 0, none⟩) (x.la.n + 1) cap) vc := by
  have hk := kept_row hg
  have hlo := h.lo
  obtain ⟨cs, h3, h4⟩ := h.res
  have hge : ∀ b, vl.ownBlock = some b → w.heap.size ≤ b := fun b e => (h.la.lt b e).1
  have hbox := hk.blk h.box (fun e => own_not h.la h.box (by decide) xb e rfl)
  have h4' := hk.blk h4 (fun e => own_not h.la h4 (by decide) _ e rfl)
  have hc := h.cur.far hk (fun e => by have := hge _ e; omega) (fun k hk' b off e1 e2 => by have := hge _ e2; have := hl k hk' b off e1; omega)
  have hkp := kept_away' h.kept hk hge
  have hca := hk.own h.ca (fun b hb e => own_apart h.ca h.la (by decide) b hb e)
  have hk2 : Kept w' (w'.setCell ⟨xb, 5, none⟩ (.slice (some ⟨g, 0, none⟩) (x.la.n + 1) cap)) (fun b => b = xb) := (Kept.refl w' (fun b => b = xb)).set (a := ⟨xb, 5, none⟩) rfl _
  have ho' : w'.ownsRow w.heap.size 70 2 (.slice (some ⟨g, 0, none⟩) (x.la.n + 1) cap) (x.la.n + 1) (pairRow (addP x.la p q)) := by rw [pairRow_add]; exact ho
  exact ⟨hlo, by simpa using blk_set hbox 5 (.slice (some ⟨g, 0, none⟩) (x.la.n + 1) cap), ⟨cs, h3, hk2.blk h4' (by omega)⟩, hc.far hk2 (by omega) (fun k hk' b off e1 e2 => by have e2 : b = xb := e2; have := hl k hk' b off e1; omega), kept_away' hkp hk2 (fun b e => by have e : b = xb := e; omega), hk2.own ho' (own_not ho' hbox (by decide)), hk2.own hca (own_not hca hbox (by decide)), h.sz⟩
/-- One cabin more. -/
theorem TSit.cab {g cap : Nat} (h : TSit w wr xb cb ao n c a x vl vc) (hcb : cb < w.heap.size) (hl : CodeLow w ao n) (p q : Int) (hg : wr.grownBy w' vc.ownBlock) (ho : w'.ownsRow w.heap.size 72 2 (.slice (some ⟨g, 0, none⟩) (x.ca.n + 1) cap) (x.ca.n + 1) (pairRow x.ca ++ [.int .i64 p, .int .i64 q])) :
    TSit w (w'.setCell ⟨xb, 6, none⟩ (.slice (some ⟨g, 0, none⟩) (x.ca.n + 1) cap)) xb cb ao n c a { x with ca := addP x.ca p q } vl (.slice (some ⟨g, 0, none⟩) (x.ca.n + 1) cap) := by
  have hk := kept_row hg
  have hlo := h.lo
  obtain ⟨cs, h3, h4⟩ := h.res
  have hge : ∀ b, vc.ownBlock = some b → w.heap.size ≤ b := fun b e => (h.ca.lt b e).1
  have hbox := hk.blk h.box (fun e => own_not h.ca h.box (by decide) xb e rfl)
  have h4' := hk.blk h4 (fun e => own_not h.ca h4 (by decide) _ e rfl)
  have hc := h.cur.far hk (fun e => by have := hge _ e; omega) (fun k hk' b off e1 e2 => by have := hge _ e2; have := hl k hk' b off e1; omega)
  have hkp := kept_away' h.kept hk hge
  have hla := hk.own h.la (fun b hb e => own_apart h.la h.ca (by decide) b hb e)
  have hk2 : Kept w' (w'.setCell ⟨xb, 6, none⟩ (.slice (some ⟨g, 0, none⟩) (x.ca.n + 1) cap)) (fun b => b = xb) := (Kept.refl w' (fun b => b = xb)).set (a := ⟨xb, 6, none⟩) rfl _
  have ho' : w'.ownsRow w.heap.size 72 2 (.slice (some ⟨g, 0, none⟩) (x.ca.n + 1) cap) (x.ca.n + 1) (pairRow (addP x.ca p q)) := by rw [pairRow_add]; exact ho
  exact ⟨hlo, by simpa using blk_set hbox 6 (.slice (some ⟨g, 0, none⟩) (x.ca.n + 1) cap), ⟨cs, h3, hk2.blk h4' (by omega)⟩, hc.far hk2 (by omega) (fun k hk' b off e1 e2 => by have e2 : b = xb := e2; have := hl k hk' b off e1; omega), kept_away' hkp hk2 (fun b e => by have e : b = xb := e; omega), hk2.own hla (own_not hla hbox (by decide)), hk2.own ho' (own_not ho' hbox (by decide)), h.sz⟩
end

end Go.Proofs.Ythcjfoaejomfaaa
