/-
  OWN TEXT: KitTS, KitTD, KitTt, DrawU, DrawV.
-/
import Derived.Deep.AppendLies
import Derived.Deep.RegionLawGrows
import Derived.Deep.DeepCutAuto
import Derived.Deep.DrawnRows
import Derived.Deep.CutBlock
import Derived.Test.YtfallpinmhbemaaGreatDoorB03
import Derived.Test.YtfallpinmhbemaaGreatDoorB04
import Derived.Test.YtfallpinmhbemaaGreatDoorB08
import Derived.Test.YtfallpinmhbemaaGreatDoorB05
namespace Go.Proofs.YtfallpinmhbemaaGreatDoor
open Go.RowKit

def addP (p : Pairs) (a b : Int) : Pairs := ⟨p.n + 1, fun i => if i < p.n then p.A i else a, fun i => if i < p.n then p.B i else b⟩
theorem pairRow_add (p : Pairs) (a b : Int) : pairRow (addP p a b) = pairRow p ++ [.int .i64 a, .int .i64 b] := by
  unfold pairRow
  rw [show (addP p a b).n * 2 = p.n * 2 + 1 + 1 by show (p.n + 1) * 2 = _; omega, List.range_succ, List.range_succ]
  simp only [List.map_append, List.map_cons, List.map_nil, List.append_assoc, List.cons_append, List.nil_append]
  rw [pairCell_0, pairCell_1]
  have e1 : (addP p a b).A p.n = a := if_neg (Nat.lt_irrefl _)
  have e2 : (addP p a b).B p.n = b := if_neg (Nat.lt_irrefl _)
  rw [e1, e2]
  congr 1
  refine List.map_congr_left fun j hj => ?_
  have hj' : j < p.n * 2 := by simpa using hj
  have h1 : (addP p a b).A (j / 2) = p.A (j / 2) := if_pos (by omega)
  have h2 : (addP p a b).B (j / 2) = p.B (j / 2) := if_pos (by omega)
  unfold pairCell
  rw [h1, h2]
def noP : Pairs := ⟨0, fun _ => 0, fun _ => 0⟩

theorem own_blk' {w : World} {base e size n : Nat} {v : Value} {xs : List Value} (h : w.ownsRow base e size v n xs) {g : Nat} (hg : v.ownBlock = some g) : ∃ cur, w.heap[g]? = some (.cells cur e (0, 0)) := by
  rcases h.2 with ⟨rfl, _⟩ | ⟨g', cap', cur, rfl, _, hg', _⟩
  · simp [Value.ownBlock] at hg
  · simp only [Value.ownBlock, Option.some.injEq] at hg
    subst hg
    exact ⟨cur, hg'⟩
theorem own_not {w : World} {base e size n : Nat} {v : Value} {xs : List Value} (h : w.ownsRow base e size v n xs) {b t : Nat} {cs : Array Value} (hb : w.heap[b]? = some (.cells cs t (0, 0))) (hne : e ≠ t) : ∀ g, v.ownBlock = some g → ¬ g = b := by
  rintro g hg rfl
  obtain ⟨cur, hc⟩ := own_blk' h hg
  rw [hc] at hb
  simp only [Option.some.injEq, Obj.cells.injEq] at hb
  exact hne hb.2.1

structure TSit (w wr : World) (xb cb : Nat) (ao : Option Addr) (n c a : Nat) (x : Sail) (vl vc : Value) : Prop where
  lo : w.heap.size < xb
  box : wr.heap[xb]? = some (.cells #[.int .i64 x.id, .string x.fr, .string x.dst, .int .i64 x.dep, .int .i64 x.arr, vl, vc, .int .i64 x.most] 37 (0, 0))
  res : ∃ cs : Array Value, cs.size = 8 ∧ wr.heap[w.heap.size]? = some (.cells cs 37 (0, 0))
  cur : CurX wr cb ao n c a
  kept : Kept w wr (fun b => b = cb)
  la : wr.ownsRow w.heap.size 106 2 vl x.la.n (pairRow x.la)
  ca : wr.ownsRow w.heap.size 110 2 vc x.ca.n (pairRow x.ca)
  sz : x.fr.size ≤ 13 ∧ x.dst.size ≤ 13
section
variable {w wr w' : World} {xb cb n c a : Nat} {ao : Option Addr} {x : Sail} {vl vc : Value}
theorem TSit.on {a' : Nat} (h : TSit w wr xb cb ao n c a x vl vc) (hcb : cb < w.heap.size) (hc : CurX w' cb ao n c a') (hk : Kept wr w' (fun b => b = cb)) : TSit w w' xb cb ao n c a' x vl vc := by
  obtain ⟨h1, h2, ⟨cs, h3, h4⟩, _, h6, h7, h8, h9⟩ := h
  exact ⟨h1, hk.blk h2 (by omega), ⟨cs, h3, hk.blk h4 (by omega)⟩, hc, h6.trans hk, hk.own h7 (fun g hg e => by have e : g = cb := e; have := (h7.lt g hg).1; omega), hk.own h8 (fun g hg e => by have e : g = cb := e; have := (h8.lt g hg).1; omega), h9⟩
theorem TSit.below (h : TSit w wr xb cb ao n c a x vl vc) (hb : Below wr.heap.size wr w') : TSit w w' xb cb ao n c a x vl vc := by
  obtain ⟨h1, h2, ⟨cs, h3, h4⟩, h5, h6, h7, h8, h9⟩ := h
  exact ⟨h1, blk_below h2 hb, ⟨cs, h3, blk_below h4 hb⟩, h5.below hb, h6.trans (Kept.of_below hb), own_below hb h7, own_below hb h8, h9⟩
theorem TSit.more {a' : Nat} (h : TSit w wr xb cb ao n c a x vl vc) (ha : a ≤ a') : TSit w wr xb cb ao n c a' x vl vc := ⟨h.lo, h.box, h.res, h.cur.more ha, h.kept, h.la, h.ca, h.sz⟩
/-- A store into the box: what else there is stays. -/
theorem TSit.put (h : TSit w wr xb cb ao n c a x vl vc) (hcb : cb < w.heap.size) (hl : CodeLow w ao n) (i : Nat) (u : Value) {y : Sail} {wl wc : Value}
    (hb : (wr.setCell ⟨xb, i, none⟩ u).heap[xb]? = some (.cells #[.int .i64 y.id, .string y.fr, .string y.dst, .int .i64 y.dep, .int .i64 y.arr, wl, wc, .int .i64 y.most] 37 (0, 0)))
    (h7 : wr.ownsRow w.heap.size 106 2 wl y.la.n (pairRow y.la)) (h8 : wr.ownsRow w.heap.size 110 2 wc y.ca.n (pairRow y.ca)) (h9 : y.fr.size ≤ 13 ∧ y.dst.size ≤ 13) : TSit w (wr.setCell ⟨xb, i, none⟩ u) xb cb ao n c a y wl wc := by
  have hk : Kept wr (wr.setCell ⟨xb, i, none⟩ u) (fun b => b = xb) := (Kept.refl wr (fun b => b = xb)).set (a := ⟨xb, i, none⟩) rfl u
  have hlo := h.lo
  obtain ⟨cs, h3, h4⟩ := h.res
  exact ⟨hlo, hb, ⟨cs, h3, hk.blk h4 (by omega)⟩, h.cur.far hk (by omega) (fun k hk' b off e1 e2 => by have e2 : b = xb := e2; have := hl k hk' b off e1; omega), kept_away' h.kept hk (fun b e => by have e : b = xb := e; omega),
    hk.own h7 (own_not h7 h.box (by decide)), hk.own h8 (own_not h8 h.box (by decide)), h9⟩
theorem TSit.arr (h : TSit w wr xb cb ao n c a x vl vc) (hcb : cb < w.heap.size) (hl : CodeLow w ao n) (z : Int) : TSit w (wr.setCell ⟨xb, 4, none⟩ (.int .i64 z)) xb cb ao n c a { x with arr := z } vl vc := h.put hcb hl 4 _ (by simpa using blk_set h.box 4 (.int .i64 z)) h.la h.ca h.sz
theorem TSit.most (h : TSit w wr xb cb ao n c a x vl vc) (hcb : cb < w.heap.size) (hl : CodeLow w ao n) (z : Int) : TSit w (wr.setCell ⟨xb, 7, none⟩ (.int .i64 z)) xb cb ao n c a { x with most := z } vl vc := h.put hcb hl 7 _ (by simpa using blk_set h.box 7 (.int .i64 z)) h.la h.ca h.sz
theorem TSit.ids (h : TSit w wr xb cb ao n c a x vl vc) (hcb : cb < w.heap.size) (hl : CodeLow w ao n) (z : Int) : TSit w (wr.setCell ⟨xb, 0, none⟩ (.int .i64 z)) xb cb ao n c a { x with id := z } vl vc := h.put hcb hl 0 _ (by simpa using blk_set h.box 0 (.int .i64 z)) h.la h.ca h.sz
theorem TSit.frs (h : TSit w wr xb cb ao n c a x vl vc) (hcb : cb < w.heap.size) (hl : CodeLow w ao n) (s : ByteArray) (hs : s.size ≤ 13) : TSit w (wr.setCell ⟨xb, 1, none⟩ (.string s)) xb cb ao n c a { x with fr := s } vl vc := h.put hcb hl 1 _ (by simpa using blk_set h.box 1 (.string s)) h.la h.ca ⟨hs, h.sz.2⟩
/-- One lane more. -/
theorem TSit.lane {g cap : Nat} (h : TSit w wr xb cb ao n c a x vl vc) (hcb : cb < w.heap.size) (hl : CodeLow w ao n) (p q : Int) (hg : wr.grownBy w' vl.ownBlock) (ho : w'.ownsRow w.heap.size 106 2 (.slice (some ⟨g, 0, none⟩) (x.la.n + 1) cap) (x.la.n + 1) (pairRow x.la ++ [.int .i64 p, .int .i64 q])) :
    TSit w (w'.setCell ⟨xb, 5, none⟩ (.slice (some ⟨g, 0, none⟩) (x.la.n + 1) cap)) xb cb ao n c a { x with la := addP x.la p q } (.slice (some ⟨g, 0, none⟩) (x.la.n + 1) cap) vc := by
  have hk := kept_row hg
  have hlo := h.lo
  obtain ⟨cs, h3, h4⟩ := h.res
  have hge : ∀ b, vl.ownBlock = some b → w.heap.size ≤ b := fun b e => (h.la.lt b e).1
  have hbox := hk.blk h.box (fun e => own_not h.la h.box (by decide) xb e rfl)
  have h4' := hk.blk h4 (fun e => own_not h.la h4 (by decide) _ e rfl)
  have hc := h.cur.far hk (fun e => by have := hge _ e; omega) (fun k hk' b off e1 e2 => by have := hge _ e2; have := hl k hk' b off e1; omega)
  have hkp := kept_away' h.kept hk hge
  have hca := hk.own h.ca (fun b hb e => own_apart h.ca h.la (by decide) b hb e)
  have hk2 : Kept w' (w'.setCell ⟨xb, 5, none⟩ (.slice (some ⟨g, 0, none⟩) (x.la.n + 1) cap)) (fun b => b = xb) := (Kept.refl w' (fun b => b = xb)).set (a := ⟨xb, 5, none⟩) rfl _
  have ho' : w'.ownsRow w.heap.size 106 2 (.slice (some ⟨g, 0, none⟩) (x.la.n + 1) cap) (x.la.n + 1) (pairRow (addP x.la p q)) := by rw [pairRow_add]; exact ho
  exact ⟨hlo, by simpa using blk_set hbox 5 (.slice (some ⟨g, 0, none⟩) (x.la.n + 1) cap), ⟨cs, h3, hk2.blk h4' (by omega)⟩, hc.far hk2 (by omega) (fun k hk' b off e1 e2 => by have e2 : b = xb := e2; have := hl k hk' b off e1; omega), kept_away' hkp hk2 (fun b e => by have e : b = xb := e; omega), hk2.own ho' (own_not ho' hbox (by decide)), hk2.own hca (own_not hca hbox (by decide)), h.sz⟩
/-- One cabin more. -/
theorem TSit.cab {g cap : Nat} (h : TSit w wr xb cb ao n c a x vl vc) (hcb : cb < w.heap.size) (hl : CodeLow w ao n) (p q : Int) (hg : wr.grownBy w' vc.ownBlock) (ho : w'.ownsRow w.heap.size 110 2 (.slice (some ⟨g, 0, none⟩) (x.ca.n + 1) cap) (x.ca.n + 1) (pairRow x.ca ++ [.int .i64 p, .int .i64 q])) :
    TSit w (w'.setCell ⟨xb, 6, none⟩ (.slice (some ⟨g, 0, none⟩) (x.ca.n + 1) cap)) xb cb ao n c a { x with ca := addP x.ca p q } vl (.slice (some ⟨g, 0, none⟩) (x.ca.n + 1) cap) := by
  have hk := kept_row hg
  have hlo := h.lo
  obtain ⟨cs, h3, h4⟩ := h.res
  have hge : ∀ b, vc.ownBlock = some b → w.heap.size ≤ b := fun b e => (h.ca.lt b e).1
  have hbox := hk.blk h.box (fun e => own_not h.ca h.box (by decide) xb e rfl)
  have h4' := hk.blk h4 (fun e => own_not h.ca h4 (by decide) _ e rfl)
  have hc := h.cur.far hk (fun e => by have := hge _ e; omega) (fun k hk' b off e1 e2 => by have := hge _ e2; have := hl k hk' b off e1; omega)
  have hkp := kept_away' h.kept hk hge
  have hla := hk.own h.la (fun b hb e => own_apart h.la h.ca (by decide) b hb e)
  have hk2 : Kept w' (w'.setCell ⟨xb, 6, none⟩ (.slice (some ⟨g, 0, none⟩) (x.ca.n + 1) cap)) (fun b => b = xb) := (Kept.refl w' (fun b => b = xb)).set (a := ⟨xb, 6, none⟩) rfl _
  have ho' : w'.ownsRow w.heap.size 110 2 (.slice (some ⟨g, 0, none⟩) (x.ca.n + 1) cap) (x.ca.n + 1) (pairRow (addP x.ca p q)) := by rw [pairRow_add]; exact ho
  exact ⟨hlo, by simpa using blk_set hbox 6 (.slice (some ⟨g, 0, none⟩) (x.ca.n + 1) cap), ⟨cs, h3, hk2.blk h4' (by omega)⟩, hc.far hk2 (by omega) (fun k hk' b off e1 e2 => by have e2 : b = xb := e2; have := hl k hk' b off e1; omega), kept_away' hkp hk2 (fun b e => by have e : b = xb := e; omega), hk2.own hla (own_not hla hbox (by decide)), hk2.own ho' (own_not ho' hbox (by decide)), h.sz⟩
end

end Go.Proofs.YtfallpinmhbemaaGreatDoor

namespace Go.Proofs.YtfallpinmhbemaaGreatDoor
open Go.RowKit

theorem eight (cs : Array Value) (h : cs.size = 8) : ∃ r0 r1 r2 r3 r4 r5 r6 r7, cs = #[r0, r1, r2, r3, r4, r5, r6, r7] := by
  refine ⟨cs[0], cs[1], cs[2], cs[3], cs[4], cs[5], cs[6], cs[7], ?_⟩
  apply Array.ext
  · simpa using h
  · intro i h1 h2
    have h3 : i = 0 ∨ i = 1 ∨ i = 2 ∨ i = 3 ∨ i = 4 ∨ i = 5 ∨ i = 6 ∨ i = 7 := by simp at h2; omega
    rcases h3 with rfl | rfl | rfl | rfl | rfl | rfl | rfl | rfl <;> rfl
theorem box_eight {w : World} {b t : Nat} {r0 r1 r2 r3 r4 r5 r6 r7 : Value} (h : w.heap[b]? = some (.cells #[r0, r1, r2, r3, r4, r5, r6, r7] t (0, 0))) (v0 v1 v2 v3 v4 v5 v6 v7 : Value) :
    ((((((((w.setCell ⟨b, 0, none⟩ v0).setCell ⟨b, 1, none⟩ v1).setCell ⟨b, 2, none⟩ v2).setCell ⟨b, 3, none⟩ v3).setCell ⟨b, 4, none⟩ v4).setCell ⟨b, 5, none⟩ v5).setCell ⟨b, 6, none⟩ v6).setCell ⟨b, 7, none⟩ v7).heap[b]? = some (.cells #[v0, v1, v2, v3, v4, v5, v6, v7] t (0, 0)) := by
  have h0 : (w.setCell ⟨b, 0, none⟩ v0).heap[b]? = some (.cells #[v0, r1, r2, r3, r4, r5, r6, r7] t (0, 0)) := by simpa using blk_set h 0 v0
  have h1 : (World.setCell (w.setCell ⟨b, 0, none⟩ v0) ⟨b, 1, none⟩ v1).heap[b]? = some (.cells #[v0, v1, r2, r3, r4, r5, r6, r7] t (0, 0)) := by simpa using blk_set h0 1 v1
  have h2 : (World.setCell (World.setCell (w.setCell ⟨b, 0, none⟩ v0) ⟨b, 1, none⟩ v1) ⟨b, 2, none⟩ v2).heap[b]? = some (.cells #[v0, v1, v2, r3, r4, r5, r6, r7] t (0, 0)) := by simpa using blk_set h1 2 v2
  have h3 : (World.setCell (World.setCell (World.setCell (w.setCell ⟨b, 0, none⟩ v0) ⟨b, 1, none⟩ v1) ⟨b, 2, none⟩ v2) ⟨b, 3, none⟩ v3).heap[b]? = some (.cells #[v0, v1, v2, v3, r4, r5, r6, r7] t (0, 0)) := by simpa using blk_set h2 3 v3
  have h4 : (World.setCell (World.setCell (World.setCell (World.setCell (w.setCell ⟨b, 0, none⟩ v0) ⟨b, 1, none⟩ v1) ⟨b, 2, none⟩ v2) ⟨b, 3, none⟩ v3) ⟨b, 4, none⟩ v4).heap[b]? = some (.cells #[v0, v1, v2, v3, v4, r5, r6, r7] t (0, 0)) := by simpa using blk_set h3 4 v4
  have h5 : (World.setCell (World.setCell (World.setCell (World.setCell (World.setCell (w.setCell ⟨b, 0, none⟩ v0) ⟨b, 1, none⟩ v1) ⟨b, 2, none⟩ v2) ⟨b, 3, none⟩ v3) ⟨b, 4, none⟩ v4) ⟨b, 5, none⟩ v5).heap[b]? = some (.cells #[v0, v1, v2, v3, v4, v5, r6, r7] t (0, 0)) := by simpa using blk_set h4 5 v5
  have h6 : (World.setCell (World.setCell (World.setCell (World.setCell (World.setCell (World.setCell (w.setCell ⟨b, 0, none⟩ v0) ⟨b, 1, none⟩ v1) ⟨b, 2, none⟩ v2) ⟨b, 3, none⟩ v3) ⟨b, 4, none⟩ v4) ⟨b, 5, none⟩ v5) ⟨b, 6, none⟩ v6).heap[b]? = some (.cells #[v0, v1, v2, v3, v4, v5, v6, r7] t (0, 0)) := by simpa using blk_set h5 6 v6
  have h7 : (World.setCell (World.setCell (World.setCell (World.setCell (World.setCell (World.setCell (World.setCell (w.setCell ⟨b, 0, none⟩ v0) ⟨b, 1, none⟩ v1) ⟨b, 2, none⟩ v2) ⟨b, 3, none⟩ v3) ⟨b, 4, none⟩ v4) ⟨b, 5, none⟩ v5) ⟨b, 6, none⟩ v6) ⟨b, 7, none⟩ v7).heap[b]? = some (.cells #[v0, v1, v2, v3, v4, v5, v6, v7] t (0, 0)) := by simpa using blk_set h6 7 v7
  exact h7
theorem TSit.done {w wr : World} {xb cb n c a : Nat} {ao : Option Addr} {x : Sail} {vl vc : Value} (h : TSit w wr xb cb ao n c a x vl vc) (hcb : cb < w.heap.size) (hl : CodeLow w ao n) (v0 v1 v2 v3 v4 v5 v6 v7 : Value) {z : World}
    (hz : z = ((((((((wr.setCell ⟨w.heap.size, 0, none⟩ v0).setCell ⟨w.heap.size, 1, none⟩ v1).setCell ⟨w.heap.size, 2, none⟩ v2).setCell ⟨w.heap.size, 3, none⟩ v3).setCell ⟨w.heap.size, 4, none⟩ v4).setCell ⟨w.heap.size, 5, none⟩ v5).setCell ⟨w.heap.size, 6, none⟩ v6).setCell ⟨w.heap.size, 7, none⟩ v7)) :
    CurX z cb ao n c a ∧ Kept w z (fun b => b = cb) ∧ z.ownsRow w.heap.size 106 2 vl x.la.n (pairRow x.la) ∧ z.ownsRow w.heap.size 110 2 vc x.ca.n (pairRow x.ca) := by
  have hk : Kept wr z (fun b => b = w.heap.size) := by
    rw [hz]
    exact ((((((((Kept.refl wr (fun b => b = w.heap.size)).set (a := ⟨w.heap.size, 0, none⟩) rfl v0).set (a := ⟨w.heap.size, 1, none⟩) rfl v1).set (a := ⟨w.heap.size, 2, none⟩) rfl v2).set (a := ⟨w.heap.size, 3, none⟩) rfl v3).set (a := ⟨w.heap.size, 4, none⟩) rfl v4).set (a := ⟨w.heap.size, 5, none⟩) rfl v5).set (a := ⟨w.heap.size, 6, none⟩) rfl v6).set (a := ⟨w.heap.size, 7, none⟩) rfl v7
  obtain ⟨cs, h3, h4⟩ := h.res
  exact ⟨h.cur.far hk (by show ¬ cb = w.heap.size; omega) (fun k hk' b off e1 e2 => by have e2 : b = w.heap.size := e2; have := hl k hk' b off e1; omega), kept_away' h.kept hk (fun b e => by have e : b = w.heap.size := e; omega),
    hk.own h.la (own_not h.la h4 (by decide)), hk.own h.ca (own_not h.ca h4 (by decide))⟩

end Go.Proofs.YtfallpinmhbemaaGreatDoor

namespace Go.Proofs.YtfallpinmhbemaaGreatDoor
open Go.RowKit

def atG {α : Type} (f : Nat → α) (k : Nat) (v : α) : Nat → α := fun i => if i = k then v else f i
theorem atG_at {α : Type} (f : Nat → α) (k : Nat) (v : α) : atG f k v k = v := if_pos rfl
theorem atG_ne {α : Type} (f : Nat → α) (k : Nat) (v : α) (i : Nat) (h : i ≠ k) : atG f k v i = f i := if_neg h

/-- Sailings in a row of its own, their lanes and cabins in memory from base on. -/
structure LieSails (w : World) (base : Nat) (v : Value) (N : Nat) (S : Nat → Sail) (L C : Nat → Value) : Prop where
  row : w.ownsRow base 37 8 v N ((List.range (N * 8)).map (sailCell S L C))
  la : ∀ i, i < N → w.ownsRow base 106 2 (L i) (S i).la.n (pairRow (S i).la)
  ca : ∀ i, i < N → w.ownsRow base 110 2 (C i) (S i).ca.n (pairRow (S i).ca)
section
variable {w w' : World} {base N : Nat} {v : Value} {S : Nat → Sail} {L C : Nat → Value}
theorem LieSails.below (h : LieSails w base v N S L C) (hb : Below w.heap.size w w') : LieSails w' base v N S L C :=
  ⟨own_below hb h.row, fun i hi => own_below hb (h.la i hi), fun i hi => own_below hb (h.ca i hi)⟩
theorem LieSails.kept {T : Nat → Prop} (h : LieSails w base v N S L C) (hk : Kept w w' T) (hT : ∀ b, T b → b < base) : LieSails w' base v N S L C :=
  ⟨hk.own h.row (fun g hg s => by have := (h.row.lt g hg).1; have := hT g s; omega), fun i hi => hk.own (h.la i hi) (fun g hg s => by have := ((h.la i hi).lt g hg).1; have := hT g s; omega),
    fun i hi => hk.own (h.ca i hi) (fun g hg s => by have := ((h.ca i hi).lt g hg).1; have := hT g s; omega)⟩
/-- A store into a box of a sailing that is not the row's. -/
theorem LieSails.box {b : Nat} {cs : Array Value} (h : LieSails w base v N S L C) (hb : w.heap[b]? = some (.cells cs 37 (0, 0))) (hne : ∀ g, v.ownBlock = some g → ¬ g = b) (hk : Kept w w' (fun k => k = b)) : LieSails w' base v N S L C :=
  ⟨hk.own h.row hne, fun i hi => hk.own (h.la i hi) (own_not (h.la i hi) hb (by decide)), fun i hi => hk.own (h.ca i hi) (own_not (h.ca i hi) hb (by decide))⟩
theorem LieSails.at {ao : Option Addr} {c : Nat} (h : LieSails w base (.slice ao N c) N S L C) : SailsAt w ao N S := by
  intro k hk
  obtain ⟨g, rfl, _, _⟩ := own_addr h.row (by omega)
  obtain ⟨la, lc, e1, l1, l2, l3⟩ := own_form (h.la k hk)
  obtain ⟨ca, cc, e2, c1, c2, c3⟩ := own_form (h.ca k hk)
  have o1 := h.la k hk
  have o2 := h.ca k hk
  rw [e1] at o1
  rw [e2] at o2
  refine ⟨g, 0, la, lc, ca, cc, rfl, ?_, ?_, ?_, ?_, ?_, ?_, ?_, ?_, pairs_of_own o1, pairs_of_own o2, ⟨l1, l2, l3⟩, ⟨c1, c2, c3⟩⟩
  · rw [Nat.zero_add, own_cell h.row (k * 8) (by omega) rfl, sailCell_0]
  · rw [Nat.zero_add, own_cell h.row (k * 8 + 1) (by omega) rfl, sailCell_1]
  · rw [Nat.zero_add, own_cell h.row (k * 8 + 2) (by omega) rfl, sailCell_2]
  · rw [Nat.zero_add, own_cell h.row (k * 8 + 3) (by omega) rfl, sailCell_3]
  · rw [Nat.zero_add, own_cell h.row (k * 8 + 4) (by omega) rfl, sailCell_4]
  · rw [Nat.zero_add, own_cell h.row (k * 8 + 5) (by omega) rfl, sailCell_5, e1]
  · rw [Nat.zero_add, own_cell h.row (k * 8 + 6) (by omega) rfl, sailCell_6, e2]
  · rw [Nat.zero_add, own_cell h.row (k * 8 + 7) (by omega) rfl, sailCell_7]
theorem LieSails.nil (w : World) (base : Nat) (S : Nat → Sail) (L C : Nat → Value) : LieSails w base (.slice none 0 0) 0 S L C :=
  ⟨⟨rfl, .inl ⟨rfl, rfl⟩⟩, fun i hi => by omega, fun i hi => by omega⟩
theorem sailRow_snocT (S : Nat → Sail) (L C : Nat → Value) (k : Nat) (x : Sail) (vl vc : Value) :
    (List.range ((k + 1) * 8)).map (sailCell (atG S k x) (atG L k vl) (atG C k vc)) = (List.range (k * 8)).map (sailCell S L C) ++ [.int .i64 x.id, .string x.fr, .string x.dst, .int .i64 x.dep, .int .i64 x.arr, vl, vc, .int .i64 x.most] := by
  rw [show (k + 1) * 8 = k * 8 + 1 + 1 + 1 + 1 + 1 + 1 + 1 + 1 by omega, List.range_succ, List.range_succ, List.range_succ, List.range_succ, List.range_succ, List.range_succ, List.range_succ, List.range_succ]
  simp only [List.map_append, List.map_cons, List.map_nil, List.append_assoc, List.cons_append, List.nil_append]
  rw [sailCell_0, sailCell_1, show k * 8 + 1 + 1 = k * 8 + 2 by omega, sailCell_2, show k * 8 + 2 + 1 = k * 8 + 3 by omega, sailCell_3, show k * 8 + 3 + 1 = k * 8 + 4 by omega, sailCell_4, show k * 8 + 4 + 1 = k * 8 + 5 by omega, sailCell_5, show k * 8 + 5 + 1 = k * 8 + 6 by omega, sailCell_6, show k * 8 + 6 + 1 = k * 8 + 7 by omega, sailCell_7, atG_at, atG_at, atG_at]
  congr 1
  refine List.map_congr_left fun j hj => ?_
  have hj' : j < k * 8 := by simpa using hj
  unfold sailCell
  rw [atG_ne _ _ _ _ (show j / 8 ≠ k by omega), atG_ne _ _ _ _ (show j / 8 ≠ k by omega), atG_ne _ _ _ _ (show j / 8 ≠ k by omega)]
/-- One sailing more behind the others. -/
theorem LieSails.snoc {x : Sail} {v' vl vc : Value} (h : LieSails w base v N S L C) (hl : w.ownsRow base 106 2 vl x.la.n (pairRow x.la)) (hc : w.ownsRow base 110 2 vc x.ca.n (pairRow x.ca)) (hg : w.grownBy w' v.ownBlock)
    (ho : w'.ownsRow base 37 8 v' (N + 1) ((List.range (N * 8)).map (sailCell S L C) ++ [.int .i64 x.id, .string x.fr, .string x.dst, .int .i64 x.dep, .int .i64 x.arr, vl, vc, .int .i64 x.most])) :
    LieSails w' base v' (N + 1) (atG S N x) (atG L N vl) (atG C N vc) := by
  have hk := kept_row hg
  refine ⟨by rw [sailRow_snocT]; exact ho, fun i hi => ?_, fun i hi => ?_⟩
  · by_cases e : i = N
    · subst e; rw [atG_at, atG_at]; exact hk.own hl (fun g hg1 hg2 => own_apart h.row hl (by decide) g hg2 hg1)
    · rw [atG_ne _ _ _ _ e, atG_ne _ _ _ _ e]; exact hk.own (h.la i (by omega)) (fun g hg1 hg2 => own_apart h.row (h.la i (by omega)) (by decide) g hg2 hg1)
  · by_cases e : i = N
    · subst e; rw [atG_at, atG_at]; exact hk.own hc (fun g hg1 hg2 => own_apart h.row hc (by decide) g hg2 hg1)
    · rw [atG_ne _ _ _ _ e, atG_ne _ _ _ _ e]; exact hk.own (h.ca i (by omega)) (fun g hg1 hg2 => own_apart h.row (h.ca i (by omega)) (by decide) g hg2 hg1)
end

/-- A timetable that is drawn: the cursor, the sailings so far. -/
structure LSit (w wr : World) (cb : Nat) (ao : Option Addr) (n c a : Nat) (v : Value) (N : Nat) (S : Nat → Sail) (L C : Nat → Value) : Prop where
  cur : CurX wr cb ao n c a
  kept : Kept w wr (fun b => b = cb)
  lie : LieSails wr w.heap.size v N S L C
  short : ShortAll N S 100
/-- And the sailing at hand in its box. -/
structure BSit (w wr : World) (xb cb : Nat) (ao : Option Addr) (n c a : Nat) (v : Value) (N : Nat) (S : Nat → Sail) (L C : Nat → Value) (x : Sail) (vl vc : Value) : Prop where
  l : LSit w wr cb ao n c a v N S L C
  lo : w.heap.size ≤ xb
  box : wr.heap[xb]? = some (.cells #[.int .i64 x.id, .string x.fr, .string x.dst, .int .i64 x.dep, .int .i64 x.arr, vl, vc, .int .i64 x.most] 37 (0, 0))
  ne : ∀ g, v.ownBlock = some g → ¬ g = xb
  la : wr.ownsRow w.heap.size 106 2 vl x.la.n (pairRow x.la)
  ca : wr.ownsRow w.heap.size 110 2 vc x.ca.n (pairRow x.ca)
  sx : ShortS x 100
section
variable {w wr w' : World} {xb cb n c a N : Nat} {ao : Option Addr} {v : Value} {S : Nat → Sail} {L C : Nat → Value} {x : Sail} {vl vc : Value}
theorem LSit.on {a' : Nat} (h : LSit w wr cb ao n c a v N S L C) (hcb : cb < w.heap.size) (hc : CurX w' cb ao n c a') (hk : Kept wr w' (fun b => b = cb)) : LSit w w' cb ao n c a' v N S L C :=
  ⟨hc, h.kept.trans hk, h.lie.kept hk (fun b e => by have e : b = cb := e; omega), h.short⟩
theorem LSit.below (h : LSit w wr cb ao n c a v N S L C) (hb : Below wr.heap.size wr w') : LSit w w' cb ao n c a v N S L C :=
  ⟨h.cur.below hb, h.kept.trans (Kept.of_below hb), h.lie.below hb, h.short⟩
theorem LSit.more {a' : Nat} (h : LSit w wr cb ao n c a v N S L C) (ha : a ≤ a') : LSit w wr cb ao n c a' v N S L C := ⟨h.cur.more ha, h.kept, h.lie, h.short⟩
theorem BSit.on {a' : Nat} (h : BSit w wr xb cb ao n c a v N S L C x vl vc) (hcb : cb < w.heap.size) (hc : CurX w' cb ao n c a') (hk : Kept wr w' (fun b => b = cb)) : BSit w w' xb cb ao n c a' v N S L C x vl vc := by
  have hlo := h.lo
  exact ⟨h.l.on hcb hc hk, h.lo, hk.blk h.box (by show ¬ xb = cb; omega), h.ne, hk.own h.la (fun g hg e => by have e : g = cb := e; have := (h.la.lt g hg).1; omega), hk.own h.ca (fun g hg e => by have e : g = cb := e; have := (h.ca.lt g hg).1; omega), h.sx⟩
theorem BSit.below (h : BSit w wr xb cb ao n c a v N S L C x vl vc) (hb : Below wr.heap.size wr w') : BSit w w' xb cb ao n c a v N S L C x vl vc :=
  ⟨h.l.below hb, h.lo, blk_below h.box hb, h.ne, own_below hb h.la, own_below hb h.ca, h.sx⟩
theorem BSit.more {a' : Nat} (h : BSit w wr xb cb ao n c a v N S L C x vl vc) (ha : a ≤ a') : BSit w wr xb cb ao n c a' v N S L C x vl vc := ⟨h.l.more ha, h.lo, h.box, h.ne, h.la, h.ca, h.sx⟩
/-- A store into the box. -/
theorem BSit.put (h : BSit w wr xb cb ao n c a v N S L C x vl vc) (hcb : cb < w.heap.size) (hl : CodeLow w ao n) {y : Sail} {wl wc : Value} (hk : Kept wr w' (fun b => b = xb))
    (hb : w'.heap[xb]? = some (.cells #[.int .i64 y.id, .string y.fr, .string y.dst, .int .i64 y.dep, .int .i64 y.arr, wl, wc, .int .i64 y.most] 37 (0, 0)))
    (h7 : wr.ownsRow w.heap.size 106 2 wl y.la.n (pairRow y.la)) (h8 : wr.ownsRow w.heap.size 110 2 wc y.ca.n (pairRow y.ca)) (h9 : ShortS y 100) : BSit w w' xb cb ao n c a v N S L C y wl wc := by
  have hlo := h.lo
  exact ⟨⟨h.l.cur.far hk (by show ¬ cb = xb; omega) (fun k hk' b off e1 e2 => by have e2 : b = xb := e2; have := hl k hk' b off e1; omega), kept_away' h.l.kept hk (fun b e => by have e : b = xb := e; omega), h.l.lie.box h.box h.ne hk, h.l.short⟩,
    hlo, hb, h.ne, hk.own h7 (own_not h7 h.box (by decide)), hk.own h8 (own_not h8 h.box (by decide)), h9⟩
theorem kept_set (w : World) (b i : Nat) (u : Value) : Kept w (w.setCell ⟨b, i, none⟩ u) (fun k => k = b) := (Kept.refl w (fun k => k = b)).set (a := ⟨b, i, none⟩) rfl u
theorem BSit.fr (h : BSit w wr xb cb ao n c a v N S L C x vl vc) (hcb : cb < w.heap.size) (hl : CodeLow w ao n) (s : ByteArray) (hs : s.size ≤ 100) : BSit w (wr.setCell ⟨xb, 1, none⟩ (.string s)) xb cb ao n c a v N S L C { x with fr := s } vl vc := h.put hcb hl (kept_set _ _ _ _) (by simpa using blk_set h.box 1 (.string s)) h.la h.ca ⟨hs, h.sx.2.1, h.sx.2.2.1, h.sx.2.2.2⟩
theorem BSit.to (h : BSit w wr xb cb ao n c a v N S L C x vl vc) (hcb : cb < w.heap.size) (hl : CodeLow w ao n) (s : ByteArray) (hs : s.size ≤ 100) : BSit w (wr.setCell ⟨xb, 2, none⟩ (.string s)) xb cb ao n c a v N S L C { x with dst := s } vl vc := h.put hcb hl (kept_set _ _ _ _) (by simpa using blk_set h.box 2 (.string s)) h.la h.ca ⟨h.sx.1, hs, h.sx.2.2.1, h.sx.2.2.2⟩
theorem BSit.dep (h : BSit w wr xb cb ao n c a v N S L C x vl vc) (hcb : cb < w.heap.size) (hl : CodeLow w ao n) (z : Int) : BSit w (wr.setCell ⟨xb, 3, none⟩ (.int .i64 z)) xb cb ao n c a v N S L C { x with dep := z } vl vc := h.put hcb hl (kept_set _ _ _ _) (by simpa using blk_set h.box 3 (.int .i64 z)) h.la h.ca h.sx
theorem BSit.arr (h : BSit w wr xb cb ao n c a v N S L C x vl vc) (hcb : cb < w.heap.size) (hl : CodeLow w ao n) (z : Int) : BSit w (wr.setCell ⟨xb, 4, none⟩ (.int .i64 z)) xb cb ao n c a v N S L C { x with arr := z } vl vc := h.put hcb hl (kept_set _ _ _ _) (by simpa using blk_set h.box 4 (.int .i64 z)) h.la h.ca h.sx
/-- Another sailing put in its place whole. -/
theorem BSit.whole (h : BSit w wr xb cb ao n c a v N S L C x vl vc) (hcb : cb < w.heap.size) (hl : CodeLow w ao n) {y : Sail} {wl wc : Value} {z : World}
    (hz : z = ((((((((wr.setCell ⟨xb, 0, none⟩ (.int .i64 y.id)).setCell ⟨xb, 1, none⟩ (.string y.fr)).setCell ⟨xb, 2, none⟩ (.string y.dst)).setCell ⟨xb, 3, none⟩ (.int .i64 y.dep)).setCell ⟨xb, 4, none⟩ (.int .i64 y.arr)).setCell ⟨xb, 5, none⟩ wl).setCell ⟨xb, 6, none⟩ wc).setCell ⟨xb, 7, none⟩ (.int .i64 y.most)))
    (h7 : wr.ownsRow w.heap.size 106 2 wl y.la.n (pairRow y.la)) (h8 : wr.ownsRow w.heap.size 110 2 wc y.ca.n (pairRow y.ca)) (h9 : ShortS y 100) : BSit w z xb cb ao n c a v N S L C y wl wc := by
  refine h.put hcb hl ?_ ?_ h7 h8 h9
  · rw [hz]
    exact ((((((((Kept.refl wr (fun b => b = xb)).set (a := ⟨xb, 0, none⟩) rfl _).set (a := ⟨xb, 1, none⟩) rfl _).set (a := ⟨xb, 2, none⟩) rfl _).set (a := ⟨xb, 3, none⟩) rfl _).set (a := ⟨xb, 4, none⟩) rfl _).set (a := ⟨xb, 5, none⟩) rfl _).set (a := ⟨xb, 6, none⟩) rfl _).set (a := ⟨xb, 7, none⟩) rfl _
  · rw [hz]
    exact box_eight h.box _ _ _ _ _ _ _ _
/-- The box joins the row. -/
theorem BSit.snoc {v' : Value} (h : BSit w wr xb cb ao n c a v N S L C x vl vc) (hcb : cb < w.heap.size) (hl : CodeLow w ao n) (hg : wr.grownBy w' v.ownBlock)
    (ho : w'.ownsRow w.heap.size 37 8 v' (N + 1) ((List.range (N * 8)).map (sailCell S L C) ++ [.int .i64 x.id, .string x.fr, .string x.dst, .int .i64 x.dep, .int .i64 x.arr, vl, vc, .int .i64 x.most])) :
    LSit w w' cb ao n c a v' (N + 1) (atG S N x) (atG L N vl) (atG C N vc) := by
  have hk := kept_row hg
  have hge : ∀ b, v.ownBlock = some b → w.heap.size ≤ b := fun b e => (h.l.lie.row.lt b e).1
  refine ⟨h.l.cur.far hk (fun e => by have := hge _ e; omega) (fun k hk' b off e1 e2 => by have := hge _ e2; have := hl k hk' b off e1; omega), kept_away' h.l.kept hk (fun b e => hge b e), h.l.lie.snoc h.la h.ca hg ho, fun i hi => ?_⟩
  by_cases e : i = N
  · subst e; rw [atG_at]; exact h.sx
  · rw [atG_ne _ _ _ _ e]; exact h.l.short i (by omega)
end

end Go.Proofs.YtfallpinmhbemaaGreatDoor

namespace Go.Proofs.YtfallpinmhbemaaGreatDoor
open Go.RowKit
attribute [local go_sem ↓] Go.wp_at_zero Go.wp_at_succ

theorem blk_drewn {w : World} {b : Nat} {o : Obj} (h : w.heap[b]? = some o) : w.drew.heap[b]? = some o := h
theorem second_new (w : World) (o p : Obj) : ((w.alloc o).alloc p).heap[w.heap.size + 1]? = some p := by simpa using heap_alloc_new (w.alloc o) p
theorem port_size {i : Nat} (hi : i < 4) : (portName i).size ≤ 13 := by
  have h4 : i = 0 ∨ i = 1 ∨ i = 2 ∨ i = 3 := by omega
  rcases h4 with rfl | rfl | rfl | rfl <;> decide

set_option maxHeartbeats 256000000 in
set_option maxRecDepth 100000 in
theorem sailing_any (cb : Nat) (ao : Option Addr) (n c p s : Nat) (id : Int) (w : World) (hp : p ≤ 100000000000000) (hn : n ≤ 1048576) (h : CurAt w cb ao n c p s) :
    Calls Tryz.prog 58 #[.pointer (some ⟨cb, 0, none⟩), .int .i64 id] w fun e w' => (∃ (x : Sail) (vl vc : Value), e = .returned (.agg #[.int .i64 x.id, .string x.fr, .string x.dst, .int .i64 x.dep, .int .i64 x.arr, vl, vc, .int .i64 x.most]) ∧ Hid (w'.ownsRow w.heap.size 106 2 vl x.la.n (pairRow x.la) ∧ w'.ownsRow w.heap.size 110 2 vc x.ca.n (pairRow x.ca) ∧ ShortS x 100)) ∧ CurX w' cb ao n c (p + 10000000000000) ∧ Kept w w' (fun b => b = cb) := by
  have hcb : cb < w.heap.size := blk_lt h.box
  have HCL : Hid (CodeLow w ao n) := fun k hk b off e => by
    obtain ⟨b', off', v, e', _, hc, _⟩ := h.code k hk
    rw [e] at e'
    cases e'
    exact World.block_lt_of_cell? w _ hc
  have hr0 := heap_alloc_new w (.cells #[.int .i64 0, .string ⟨#[]⟩, .string ⟨#[]⟩, .int .i64 0, .int .i64 0, .slice none 0 0, .slice none 0 0, .int .i64 0] 37)
  have hb0 : Below w.heap.size w (w.alloc (.cells #[.int .i64 0, .string ⟨#[]⟩, .string ⟨#[]⟩, .int .i64 0, .int .i64 0, .slice none 0 0, .slice none 0 0, .int .i64 0] 37)) := push (Below.refl _ _) _
  have h0 := h.below hb0
  go_enter Tryz.func58, Tryz.ntmps58
  go_upto_region 1 with fail
  generalize w.alloc (.cells #[.int .i64 0, .string ⟨#[]⟩, .string ⟨#[]⟩, .int .i64 0, .int .i64 0, .slice none 0 0, .slice none 0 0, .int .i64 0] 37) = w0 at hr0 hb0 h0 ⊢
  have hs0 : w.heap.size < w0.heap.size := blk_lt hr0
  go_wp2_with fail
  refine (portX cb ao n c p s _ (by omega) h0).mono ?_
  rintro e w1 ⟨i, s1, rfl, hi, _, hc1, hk1⟩
  go_wp2_with fail
  refine (portX cb ao n c (p + 1) s1 _ (by omega) hc1).mono ?_
  rintro e w2 ⟨j, s2, rfl, hj, _, hc2, hk2⟩
  go_wp2_with fail
  refine (pickX cb ao n c (p + 1 + 1) s2 60 _ (by omega) (by omega) (by omega) hc2).mono ?_
  rintro e w3 ⟨dep, s3, rfl, hdep, _, hc3, hk3⟩
  go_wp2_with fail
  refine (pickX cb ao n c (p + 1 + 1 + 1) s3 20 _ (by omega) (by omega) (by omega) hc3).mono ?_
  rintro e w4 ⟨mo, s4, rfl, hmo, _, hc4, hk4⟩
  have hk04 := ((hk1.trans hk2).trans hk3).trans hk4
  have hs4 := hk04.size
  have hr4 := hk04.blk hr0 (by omega)
  have hk4' : Kept w w4 (fun b => b = cb) := (Kept.of_below hb0).trans hk04
  have hbx := heap_alloc_new w4 (.cells #[.int .i64 id, .string (portName i), .string (portName j), .int .i64 (dep : Int), .int .i64 0, .slice none 0 0, .slice none 0 0, .int .i64 (2 + (mo : Int))] 37)
  have hpx : Below w4.heap.size w4 (w4.alloc (.cells #[.int .i64 id, .string (portName i), .string (portName j), .int .i64 (dep : Int), .int .i64 0, .slice none 0 0, .slice none 0 0, .int .i64 (2 + (mo : Int))] 37)) := push (Below.refl _ _) _
  have hwm : IntKind.i64.wrap (2 + (mo : Int)) = 2 + (mo : Int) := by rw [IntKind.wrap_i64]; omega
  go_upto_block 0 with fail
  have hS5 : SSit w (w4.alloc (.cells #[.int .i64 id, .string (portName i), .string (portName j), .int .i64 (dep : Int), .int .i64 0, .slice none 0 0, .slice none 0 0, .int .i64 (2 + (mo : Int))] 37)) w4.heap.size cb ao n c (p + 1 + 1 + 1 + 1) s4 id (portName i) (portName j) dep 0 (.slice none 0 0) (.slice none 0 0) (2 + (mo : Int)) := ⟨by omega, hbx, ⟨_, rfl, blk_below hr4 hpx⟩, hc4.below hpx, hk4'.trans (Kept.of_below hpx)⟩
  generalize w4.alloc (.cells #[.int .i64 id, .string (portName i), .string (portName j), .int .i64 (dep : Int), .int .i64 0, .slice none 0 0, .slice none 0 0, .int .i64 (2 + (mo : Int))] 37) = w5 at hS5 ⊢
  generalize w4.heap.size = xb at hS5 ⊢
  generalize hp4 : p + 1 + 1 + 1 + 1 = p4 at *
  clear hbx hpx hr4 hk04 hk4' hs4 h0 hc1 hc2 hc3 hc4 hk1 hk2 hk3 hk4 hwm h hr0 hb0 hs0
  have hB : p4 + (if j = i then 2 * leftOf n p4 i s4 + 2 else 0) ≤ p + 5000000000000 := by
    have := leftOf_le n p4 i s4
    split <;> omega
  go_cut [] (fun wx => ∃ p' s' j', j' < 4 ∧ p' ≤ p + 5000000000000 ∧ SSit w wx xb cb ao n c p' s' id (portName i) (portName j') dep 0 (.slice none 0 0) (.slice none 0 0) (2 + (mo : Int)))
  case first =>
    as_aux_lemma =>
      go_wp2_with fail
      go_loopw [] (fun wr => ∃ p' s' j', j' < 4 ∧ p' + (if j' = i then 2 * leftOf n p' i s' + 2 else 0) ≤ p + 5000000000000 ∧ SSit w wr xb cb ao n c p' s' id (portName i) (portName j') dep 0 (.slice none 0 0) (.slice none 0 0) (2 + (mo : Int))) (fun wr => stillLeft n i cb xb wr)
      case atStart => exact ⟨p4, s4, j, hj, hB, hS5⟩
      case round =>
        obtain ⟨p', s', j', hj', hB', hS⟩ := hrel
        clear hS5 hB
        have q1 := hS.c1
        have q2 := hS.c2
        by_cases hji : j' = i
        · subst hji
          rw [if_pos rfl] at hB'
          have HM : Hid (stillLeft n j' cb xb wr = leftOf n p' j' s' + 1) := by
            unfold Hid stillLeft
            rw [if_pos q2, curLeft_is hS.cur]
          go_wp2_with fail
          refine (oneX cb ao n c p' s' 20 _ (by omega) (by omega) (by omega) hS.cur).mono ?_
          rintro e w6 ⟨b, s6, rfl, hx6, hc6, hk6⟩
          have hS6 := hS.on hcb hc6 hk6
          clear q1 q2 hS hk6
          cases b with
          | true =>
            go_wp2
            go_meet
            exact ⟨_, _, _, hj', by omega, hS6⟩
          | false =>
            go_wp2_with fail
            refine (portX cb ao n c (p' + 1) s6 _ (by omega) hc6).mono ?_
            rintro e w7 ⟨k, s7, rfl, hk4, hx7, hc7, hk7⟩
            have hS7 := hS6.on hcb hc7 hk7
            have o0 := hS7.c2
            have f0 := blk_free hS7.box 2
            have hS8 := hS7.dst hcb HCL.out (portName k)
            have HS8 : Hid _ := hS8
            clear hS6 hS7 hc6 hc7 hk7
            go_wp2
            go_roundw
            case rel =>
              refine ⟨p' + 1 + 1, s7, k, hk4, ?_, HS8.out⟩
              by_cases e : k = j'
              · subst e
                rw [if_pos rfl]
                have := leftOf_less hx6 hx7
                omega
              · rw [if_neg e]; omega
            case measure =>
              rw [HM.out]
              unfold stillLeft
              by_cases e : k = j'
              · subst e
                rw [if_pos hS8.c2, curLeft_is hS8.cur]
                have := leftOf_less hx6 hx7
                omega
              · rw [if_neg (fun h => e (portName_ne hk4 hj' (by rw [hS8.c2] at h; simpa using h)))]
                omega
        · rw [if_neg hji] at hB'
          have e2 := portList_ne hj' hi hji
          go_wp2
          go_meet
          exact ⟨_, _, _, hj', by omega, hS⟩
  case rest =>
    obtain ⟨p', s', j', hj', hp', hS⟩ := hcut
    have hfs : (portName i).size ≤ 13 ∧ (portName j').size ≤ 13 := ⟨port_size hi, port_size hj'⟩
    obtain ⟨x, hx⟩ : ∃ x : Sail, x = ⟨id, portName i, portName j', (dep : Int), 0, noP, noP, 2 + (mo : Int)⟩ := ⟨_, rfl⟩
    have hT : TSit w wc xb cb ao n c (p + 5000000000000) x (.slice none 0 0) (.slice none 0 0) := by
      rw [hx]
      exact ⟨hS.lo, hS.box, hS.res, ⟨p', s', hp', hS.cur⟩, hS.kept, (show wc.ownsRow _ _ 2 _ 0 [] from World.ownsRow_nil _ _ _ _), (show wc.ownsRow _ _ 2 _ 0 [] from World.ownsRow_nil _ _ _ _), hfs⟩
    have HXN : Hid (x.la.n = 0 ∧ x.ca.n = 0) := by rw [hx]; exact ⟨rfl, rfl⟩
    have HT : Hid (TSit w wc xb cb ao n c (p + 5000000000000) x (.slice none 0 0) (.slice none 0 0)) := hT
    obtain ⟨A0, hA0⟩ : ∃ A0, A0 = p + 5000000000000 := ⟨_, rfl⟩
    rw [← hA0] at HT
    have hA1 : A0 ≤ 200000000000000 := by omega
    have hA2 : A0 + 100 ≤ p + 10000000000000 := by omega
    clear hS hT hx hfs hA0 hj' hp'
    have m3 := blk_cell HT.out.box 3 _ rfl
    have m4 := blk_cell HT.out.box 4 _ rfl
    have mf4 := blk_free HT.out.box 4
    have HPK : Hid (∀ Z, Below wc.heap.size wc Z → Calls Tryz.prog 59 #[.pointer (some ⟨cb, 0, none⟩), .int .i64 20] Z fun e w6 => ∃ r : Nat, e = .returned (.int .i64 r) ∧ Hid (TSit w w6 xb cb ao n c (A0 + 1) x (.slice none 0 0) (.slice none 0 0))) := fun Z hZ => (pickC cb ao n c A0 20 Z (by omega) (by omega) (by omega) (HT.out.cur.below hZ)).mono fun e w6 ⟨⟨r, h1, _⟩, h2, h3⟩ => ⟨r, h1, (HT.out.below hZ).on hcb h2 h3⟩
    go_upto_region 4 with fail
    go_cut [] (fun wx => ∃ y, Hid (TSit w wx xb cb ao n c (A0 + 1) y (.slice none 0 0) (.slice none 0 0) ∧ y.la.n = 0 ∧ y.ca.n = 0))
    case first =>
      go_region_law (first
        | (go_simp; go_at_call 59; (with_reducible refine Calls.mono (HPK.out _ ?_) ?_); (focus (repeat (first | exact Below.refl _ _ | refine Below.drew ?_ | refine push ?_ _))); rintro e w6 ⟨r6, rfl, HT6⟩; have k3 := blk_cell HT6.out.box 3 _ rfl; have k4 := blk_cell HT6.out.box 4 _ rfl; have kf4 := blk_free HT6.out.box 4; dsimp only))
      all_goals
        have HT7 := HT6.out.arr hcb HCL.out (IntKind.i64.wrap (IntKind.i64.wrap (x.dep + 1) + (r6 : Int)))
        go_wp2
        go_meet
        exact ⟨_, HT7, HXN.out.1, HXN.out.2⟩
    case rest =>
    obtain ⟨y0, HY⟩ := hcut
    clear HPK m3 m4 mf4 HT HXN
    go_wp2_with fail
    refine (pickC cb ao n c (A0 + 1) 4 _ (by omega) (by omega) (by omega) HY.out.1.cur).mono ?_
    rintro e w2 ⟨⟨k0, rfl, hk0⟩, hc2, hk2⟩
    have HY2 : Hid (TSit w w2 xb cb ao n c (A0 + 2) y0 (.slice none 0 0) (.slice none 0 0) ∧ y0.la.n = 0 ∧ y0.ca.n = 0) := ⟨HY.out.1.on hcb hc2 hk2, HY.out.2⟩
    clear hc2 hk2 HY
    go_wp2
    go_loopw [6] (fun kk wr => ∃ k : Nat, kk = .int .i64 k ∧ k ≤ 3 ∧ ∃ y vl, Hid (TSit w wr xb cb ao n c (A0 + 2 + 2 * (3 - k)) y vl (.slice none 0 0) ∧ y.la.n + k ≤ 3 ∧ y.ca.n = 0)) (fun kk _ => (intOf kk).toNat)
    case atStart => exact ⟨k0, rfl, by omega, y0, _, HY2.out.1.more (by omega), by have := HY2.out.2; omega, HY2.out.2.2⟩
    case round =>
      obtain ⟨k, rfl, hk3, y, vl, HYR⟩ := hrel
      obtain ⟨la, lc, rfl, _⟩ := own_form HYR.out.1.la
      have hyn := HYR.out.2
      by_cases hk0' : 0 < k
      · have dk : decide ((0 : Int) < (k : Int)) = true := by simp; omega
        obtain ⟨A, hA⟩ : ∃ A, A = A0 + 2 + 2 * (3 - k) := ⟨_, rfl⟩
        have HTR : Hid (TSit w wr xb cb ao n c A y (.slice la y.la.n lc) (.slice none 0 0)) := by rw [hA]; exact HYR.out.1
        have hAA : A ≤ 300000000000000 := by omega
        as_aux_lemma =>
          have HT0 : Hid (TSit w wr xb cb ao n c (A) y (.slice la y.la.n lc) (.slice none 0 0)) := HTR
          have h0_5 := blk_cell HT0.out.box 5 _ rfl
          have h0f_5 := blk_free HT0.out.box 5
          have h0a0 := blk_cell (blk_alloc HT0.out.box (.cells #[.int .i64 200, .int .i64 300, .int .i64 400] 3)) 5 _ rfl
          have HN0 : Hid (A + 0 ≤ 900000000000000000) := by show A + 0 ≤ 900000000000000000; omega
          have HN1 : Hid (A + 1 ≤ 900000000000000000) := by show A + 1 ≤ 900000000000000000; omega
          have HP0 : Hid (∀ V Z, Hid (TSit w V xb cb ao n c (A + 0) y (.slice la y.la.n lc) (.slice none 0 0)) → Below V.heap.size V Z → Calls Tryz.prog 59 #[.pointer (some ⟨cb, 0, none⟩), .int .i64 12] Z fun e w6 => ∃ r : Nat, e = .returned (.int .i64 r) ∧ r < 12 ∧ Hid (TSit w w6 xb cb ao n c (A + 1) y (.slice la y.la.n lc) (.slice none 0 0)) ∧ Kept Z w6 (fun b => b = cb)) := fun V Z hV hZ => (pickC cb ao n c (A + 0) 12 Z HN0.out (by omega) (by omega) (hV.out.cur.below hZ)).mono fun e w6 ⟨⟨r, h1, h2⟩, h3, h4⟩ => ⟨r, h1, h2, (hV.out.below hZ).on hcb h3 h4, h4⟩
          have HP1 : Hid (∀ V Z, Hid (TSit w V xb cb ao n c (A + 1) y (.slice la y.la.n lc) (.slice none 0 0)) → Below V.heap.size V Z → ∀ b, Z.heap[b]? = some (.cells #[.int .i64 200, .int .i64 300, .int .i64 400] 3 (0, 0)) → b ≠ cb → Calls Tryz.prog 73 #[.pointer (some ⟨cb, 0, none⟩), .slice (some ⟨b, 0, none⟩) 3 3] Z fun e w6 => ∃ r : Int, e = .returned (.int .i64 r) ∧ Hid (TSit w w6 xb cb ao n c (A + 2) y (.slice la y.la.n lc) (.slice none 0 0)) ∧ Kept Z w6 (fun b => b = cb)) := fun V Z hV hZ b hb hne => (amongC cb ao n c (A + 1) 3 [200, 300, 400] Z rfl HN1.out (by omega) (by omega) (hV.out.cur.below hZ) b hb hne).mono fun e w6 ⟨⟨r, h1⟩, h3, h4⟩ => ⟨r, h1, (hV.out.below hZ).on hcb h3 h4, h4⟩
          obtain ⟨j0, ji, jz0, jz1, jz2⟩ := info_parts Tryz.infoLane
          go_upto_region 8 with fail
          with_reducible skip
          focus
            go_region_law (first
              | (go_simp; go_at_call 73; (with_reducible refine Calls.mono (HP1.out _ _ HT1 ?_ _ ?_ ?_) ?_); (focus (repeat (first | exact Below.refl _ _ | refine Below.drew ?_ | refine push ?_ _))); (focus (repeat (first | with_reducible exact bI | with_reducible exact heap_alloc_new _ _ | with_reducible exact second_new _ _ _ | with_reducible refine blk_drewn ?_ | with_reducible refine blk_alloc ?_ _))); (focus (have h1 := hcb; have h2 := HT0.out.kept.size; (try have h3 := HT1.out.kept.size); omega)); rintro e u2 ⟨r2, rfl, HT2, hk2⟩; have h2_5 := blk_cell HT2.out.box 5 _ rfl; have h2n := blk_cell (blk_alloc HT2.out.box (.cells #[.int .i64 (500 + 100 * (r1 : Int)), .int .i64 r2] 106)) 5 _ rfl; clear hk2; dsimp only)
              | (go_simp; go_at_call 59; (with_reducible refine Calls.mono (HP0.out _ _ HT0 ?_) ?_); (focus (repeat (first | exact Below.refl _ _ | refine Below.drew ?_ | refine push ?_ _))); rintro e u1 ⟨r1, rfl, hr1, HT1, hk1⟩; (first | (refine (fun (bI : u1.heap[wr.heap.size]? = some (.cells #[.int .i64 200, .int .i64 300, .int .i64 400] 3 (0, 0))) => ?_) (hk1.blk ?_ ?_); rotate_left; (focus (repeat (first | with_reducible exact heap_alloc_new _ _ | with_reducible exact second_new _ _ _ | with_reducible refine blk_drewn ?_ | with_reducible refine blk_alloc ?_ _))); (focus (show ¬ _ = cb; have h1 := hcb; have h2 := HT0.out.kept.size; omega))) | (refine (fun (bI : u1.heap[wr.heap.size + 1]? = some (.cells #[.int .i64 200, .int .i64 300, .int .i64 400] 3 (0, 0))) => ?_) (hk1.blk ?_ ?_); rotate_left; (focus (repeat (first | with_reducible exact heap_alloc_new _ _ | with_reducible exact second_new _ _ _ | with_reducible refine blk_drewn ?_ | with_reducible refine blk_alloc ?_ _))); (focus (show ¬ _ = cb; have h1 := hcb; have h2 := HT0.out.kept.size; omega))) | skip); have h1_5 := blk_cell HT1.out.box 5 _ rfl; have h1a0 := blk_cell (blk_alloc HT1.out.box (.cells #[.int .i64 200, .int .i64 300, .int .i64 400] 3)) 5 _ rfl; have hwA : IntKind.i64.wrap (100 * (r1 : Int)) = 100 * (r1 : Int) := (by rw [IntKind.wrap_i64]; omega); have hwB : IntKind.i64.wrap (500 + 100 * (r1 : Int)) = 500 + 100 * (r1 : Int) := (by rw [IntKind.wrap_i64]; omega); clear hk1; dsimp only)
              | (refine step_append_lies _ (by rfl) (.tmp 46) (.tmp 55) 34 (by rfl) w.heap.size 106 j0 (.agg #[.int .i64 0, .int .i64 0]) 2 16 Tryz.underlying34 ji jz0 jz1 jz2 rfl (by decide) _ y.la.n (pairRow y.la) (by rfl) (own_below (push (Below.refl _ _) _) HT2.out.la) ⟨u2.heap.size, 0, none⟩ 1 1 [.int .i64 (500 + 100 * (r1 : Int)), .int .i64 r2] (by rfl) (by rfl) (World.news_of_block (heap_alloc_new u2 _)) (by intro u hu; simp only [List.mem_cons, List.not_mem_nil, or_false] at hu; rcases hu with rfl | rfl <;> rfl) (by decide) (by unfold maxLen; omega) (by omega) (by have h1 := HT2.out.kept.size; simp; omega) _ rfl ?_; intro g9 cap9 w9 ho9 hg9 _ _; have b9 := (kept_row hg9).blk (blk_alloc HT2.out.box (.cells #[.int .i64 (500 + 100 * (r1 : Int)), .int .i64 r2] 106)) (fun e => own_not HT2.out.la HT2.out.box (by decide) xb e rfl); have n9 := blk_cell b9 5 _ rfl; have f9 := blk_free b9 5; clear b9))
            all_goals
              have HT9 := (HT2.out.below (push (Below.refl _ _) (.cells #[.int .i64 (500 + 100 * (r1 : Int)), .int .i64 r2] 106))).lane hcb HCL.out (500 + 100 * (r1 : Int)) r2 hg9 ho9
              go_wp2
              go_roundw
              case rel => exact ⟨k - 1, by go_num, by omega, _, _, HT9.more (by omega), by show y.la.n + 1 + (k - 1) ≤ 3; omega, hyn.2⟩
              case measure => simp [intOf]; omega
      · obtain rfl : k = 0 := by omega
        obtain ⟨y1, hy1⟩ : ∃ y1, y1 = y := ⟨_, rfl⟩
        obtain ⟨B0, hB0⟩ : ∃ B0, B0 = A0 + 2 + 2 * 3 := ⟨_, rfl⟩
        have HZ : Hid (TSit w wr xb cb ao n c B0 y (.slice la y.la.n lc) (.slice none 0 0) ∧ y.la.n ≤ 3 ∧ y.ca.n = 0) := ⟨HYR.out.1.more (by omega), by omega, HYR.out.2.2⟩
        have hB1 : B0 ≤ 300000000000000 := by omega
        have hB2 : B0 + 50 ≤ p + 10000000000000 := by omega
        clear HYR HY2 hyn hy1 hB0 hA1 hA2
        go_wp2_with fail
        refine (pickC cb ao n c B0 4 _ (by omega) (by omega) (by omega) HZ.out.1.cur).mono ?_
        rintro e v2 ⟨⟨q0, rfl, hq0⟩, hc2, hk2⟩
        have HZ2 : Hid (TSit w v2 xb cb ao n c (B0 + 1) y (.slice la y.la.n lc) (.slice none 0 0) ∧ y.la.n ≤ 3 ∧ y.ca.n = 0) := ⟨HZ.out.1.on hcb hc2 hk2, HZ.out.2⟩
        clear hc2 hk2 HZ
        go_wp2
        go_loopw [7] (fun kk wr => ∃ k : Nat, kk = .int .i64 k ∧ k ≤ 3 ∧ ∃ y vc, Hid (TSit w wr xb cb ao n c (B0 + 1 + 2 * (3 - k)) y (.slice la y.la.n lc) vc ∧ y.la.n ≤ 3 ∧ y.ca.n + k ≤ 3)) (fun kk _ => (intOf kk).toNat)
        case atStart => exact ⟨q0, rfl, by omega, y, _, HZ2.out.1.more (by omega), HZ2.out.2.1, by have := HZ2.out.2; omega⟩
        case round =>
          clear HZ2
          obtain ⟨q, rfl, hq3, y, vc, HZR⟩ := hrel
          obtain ⟨ca, cc, rfl, _⟩ := own_form HZR.out.1.ca
          have hzn := HZR.out.2
          by_cases hq0' : 0 < q
          · have dk : decide ((0 : Int) < (q : Int)) = true := by simp; omega
            obtain ⟨A, hA⟩ : ∃ A, A = B0 + 1 + 2 * (3 - q) := ⟨_, rfl⟩
            have HTR : Hid (TSit w wr xb cb ao n c A y (.slice la y.la.n lc) (.slice ca y.ca.n cc)) := by rw [hA]; exact HZR.out.1
            have hAA : A ≤ 300000000000000 := by omega
            as_aux_lemma =>
              have HT0 : Hid (TSit w wr xb cb ao n c (A) y (.slice la y.la.n lc) (.slice ca y.ca.n cc)) := HTR
              have h0_6 := blk_cell HT0.out.box 6 _ rfl
              have h0f_6 := blk_free HT0.out.box 6
              have HN0 : Hid (A + 0 ≤ 900000000000000000) := by show A + 0 ≤ 900000000000000000; omega
              have HN1 : Hid (A + 1 ≤ 900000000000000000) := by show A + 1 ≤ 900000000000000000; omega
              have HP0 : Hid (∀ V Z, Hid (TSit w V xb cb ao n c (A + 0) y (.slice la y.la.n lc) (.slice ca y.ca.n cc)) → Below V.heap.size V Z → Calls Tryz.prog 59 #[.pointer (some ⟨cb, 0, none⟩), .int .i64 2] Z fun e w6 => ∃ r : Nat, e = .returned (.int .i64 r) ∧ r < 2 ∧ Hid (TSit w w6 xb cb ao n c (A + 1) y (.slice la y.la.n lc) (.slice ca y.ca.n cc)) ∧ Kept Z w6 (fun b => b = cb)) := fun V Z hV hZ => (pickC cb ao n c (A + 0) 2 Z HN0.out (by omega) (by omega) (hV.out.cur.below hZ)).mono fun e w6 ⟨⟨r, h1, h2⟩, h3, h4⟩ => ⟨r, h1, h2, (hV.out.below hZ).on hcb h3 h4, h4⟩
              have HP1 : Hid (∀ V Z, Hid (TSit w V xb cb ao n c (A + 1) y (.slice la y.la.n lc) (.slice ca y.ca.n cc)) → Below V.heap.size V Z → Calls Tryz.prog 59 #[.pointer (some ⟨cb, 0, none⟩), .int .i64 4] Z fun e w6 => ∃ r : Nat, e = .returned (.int .i64 r) ∧ r < 4 ∧ Hid (TSit w w6 xb cb ao n c (A + 2) y (.slice la y.la.n lc) (.slice ca y.ca.n cc)) ∧ Kept Z w6 (fun b => b = cb)) := fun V Z hV hZ => (pickC cb ao n c (A + 1) 4 Z HN1.out (by omega) (by omega) (hV.out.cur.below hZ)).mono fun e w6 ⟨⟨r, h1, h2⟩, h3, h4⟩ => ⟨r, h1, h2, (hV.out.below hZ).on hcb h3 h4, h4⟩
              obtain ⟨j0, ji, jz0, jz1, jz2⟩ := info_parts Tryz.infoCabin
              go_upto_region 12 with fail
              with_reducible skip
              focus
                go_region_law (first
                  | (go_simp; go_at_call 59; (with_reducible refine Calls.mono (HP1.out _ _ HT1 ?_) ?_); (focus (repeat (first | exact Below.refl _ _ | refine Below.drew ?_ | refine push ?_ _))); rintro e u2 ⟨r2, rfl, hr2, HT2, hk2⟩; have h2_6 := blk_cell HT2.out.box 6 _ rfl; have h2n := blk_cell (blk_alloc HT2.out.box (.cells #[.int .i64 (1 + (r1 : Int)), .int .i64 (1 + (r2 : Int))] 110)) 6 _ rfl; have hwB : IntKind.i64.wrap (1 + (r2 : Int)) = 1 + (r2 : Int) := (by rw [IntKind.wrap_i64]; omega); clear hk2; dsimp only)
                  | (go_simp; go_at_call 59; (with_reducible refine Calls.mono (HP0.out _ _ HT0 ?_) ?_); (focus (repeat (first | exact Below.refl _ _ | refine Below.drew ?_ | refine push ?_ _))); rintro e u1 ⟨r1, rfl, hr1, HT1, hk1⟩; have h1_6 := blk_cell HT1.out.box 6 _ rfl; have hwA : IntKind.i64.wrap (1 + (r1 : Int)) = 1 + (r1 : Int) := (by rw [IntKind.wrap_i64]; omega); clear hk1; dsimp only)
                  | (refine step_append_lies _ (by rfl) (.tmp 65) (.tmp 73) 35 (by rfl) w.heap.size 110 j0 (.agg #[.int .i64 0, .int .i64 0]) 2 16 Tryz.underlying35 ji jz0 jz1 jz2 rfl (by decide) _ y.ca.n (pairRow y.ca) (by rfl) (own_below (push (Below.refl _ _) _) HT2.out.ca) ⟨u2.heap.size, 0, none⟩ 1 1 [.int .i64 (1 + (r1 : Int)), .int .i64 (1 + (r2 : Int))] (by rfl) (by rfl) (World.news_of_block (heap_alloc_new u2 _)) (by intro u hu; simp only [List.mem_cons, List.not_mem_nil, or_false] at hu; rcases hu with rfl | rfl <;> rfl) (by decide) (by unfold maxLen; omega) (by omega) (by have h1 := HT2.out.kept.size; simp; omega) _ rfl ?_; intro g9 cap9 w9 ho9 hg9 _ _; have b9 := (kept_row hg9).blk (blk_alloc HT2.out.box (.cells #[.int .i64 (1 + (r1 : Int)), .int .i64 (1 + (r2 : Int))] 110)) (fun e => own_not HT2.out.ca HT2.out.box (by decide) xb e rfl); have n9 := blk_cell b9 6 _ rfl; have f9 := blk_free b9 6; clear b9))
                all_goals
                  have HT9 := (HT2.out.below (push (Below.refl _ _) (.cells #[.int .i64 (1 + (r1 : Int)), .int .i64 (1 + (r2 : Int))] 110))).cab hcb HCL.out (1 + (r1 : Int)) (1 + (r2 : Int)) hg9 ho9
                  go_wp2
                  go_roundw
                  case rel => exact ⟨q - 1, by go_num, by omega, _, _, HT9.more (by omega), hzn.1, by show y.ca.n + 1 + (q - 1) ≤ 3; omega⟩
                  case measure => simp [intOf]; omega
          · obtain rfl : q = 0 := by omega
            have HE : Hid (TSit w wr xb cb ao n c (B0 + 7) y (.slice la y.la.n lc) (.slice ca y.ca.n cc) ∧ y.la.n ≤ 3 ∧ y.ca.n ≤ 3) := ⟨HZR.out.1.more (by omega), by omega, by omega⟩
            clear HZR hzn
            go_wp2_with fail
            refine (pickC cb ao n c (B0 + 7) 60 _ (by omega) (by omega) (by omega) HE.out.1.cur).mono ?_
            rintro e v3 ⟨⟨zn, rfl, hz60⟩, hc3, hk3⟩
            have HE3 : Hid (TSit w v3 xb cb ao n c (B0 + 8) y (.slice la y.la.n lc) (.slice ca y.ca.n cc) ∧ y.la.n ≤ 3 ∧ y.ca.n ≤ 3) := ⟨HE.out.1.on hcb hc3 hk3, HE.out.2⟩
            clear hc3 hk3 HE
            go_upto_block 6 with fail
            go_cut [] (fun wx => ∃ y vl vc, Hid (TSit w wx xb cb ao n c (B0 + 12) y vl vc ∧ y.la.n ≤ 4 ∧ y.ca.n ≤ 4))
            case first =>
              clear w0 w1
              obtain ⟨wr, hwr⟩ : ∃ z, z = v3 := ⟨_, rfl⟩
              rw [← hwr] at HE3 ⊢
              clear hwr
              have hye := HE3.out.2
              obtain ⟨A, hA⟩ : ∃ A, A = B0 + 8 := ⟨_, rfl⟩
              have HTR : Hid (TSit w wr xb cb ao n c A y (.slice la y.la.n lc) (.slice ca y.ca.n cc)) := by rw [hA]; exact HE3.out.1
              have hAA : A ≤ 300000000000000 := by omega
              clear HE3
              have hzs : zn = 0 ∨ zn = 1 ∨ zn = 2 ∨ zn = 3 ∨ zn = 4 ∨ zn = 5 ∨ 6 ≤ zn := by omega
              clear hz60
              rcases hzs with hzs | hzs | hzs | hzs | hzs | hzs | hzs
              · skip
                as_aux_lemma =>
                  have D0 : ((zn : Int) == 0) = true := by rw [beq_iff_eq]; omega
                  clear hzs
                  -- 0
                  have m3 := blk_cell HTR.out.box 3 _ rfl
                  go_wp2_with fail
                  refine (amongC cb ao n c A 3 [y.dep, 10000, 10001] _ rfl (by omega) (by omega) (by omega) (HTR.out.cur.below (push (Below.refl _ _) _)) _ (heap_alloc_new _ _) (by have h1 := HTR.out.kept.size; omega)).mono ?_
                  rintro e v4 ⟨⟨r4, rfl⟩, hc4, hk4⟩
                  have HT4 : Hid (TSit w v4 xb cb ao n c (A + 1) y (.slice la y.la.n lc) (.slice ca y.ca.n cc)) := (HTR.out.below (push (Below.refl _ _) _)).on hcb hc4 hk4
                  have k4 := blk_cell HT4.out.box 4 _ rfl
                  have kf4 := blk_free HT4.out.box 4
                  clear hc4 hk4
                  have HT5 : Hid _ := HT4.out.arr hcb HCL.out r4
                  go_wp2
                  go_meet
                  exact ⟨_, _, _, HT5.out.more (by omega), by show y.la.n ≤ 4; omega, by show y.ca.n ≤ 4; omega⟩
              · skip
                as_aux_lemma =>
                  have D0 : ((zn : Int) == 0) = false := by rw [beq_eq_false_iff_ne]; omega
                  have D1 : ((zn : Int) == 1) = true := by rw [beq_iff_eq]; omega
                  clear hzs
                  have HT0 : Hid (TSit w wr xb cb ao n c (A) y (.slice la y.la.n lc) (.slice ca y.ca.n cc)) := HTR
                  have h0_5 := blk_cell HT0.out.box 5 _ rfl
                  have h0f_5 := blk_free HT0.out.box 5
                  have h0a0 := blk_cell (blk_alloc HT0.out.box (.cells #[.int .i64 0, .int .i64 5000, .int .i64 5001] 3)) 5 _ rfl
                  have h0a1 := blk_cell (blk_alloc HT0.out.box (.cells #[.int .i64 99, .int .i64 100, .int .i64 500, .int .i64 501] 3)) 5 _ rfl
                  have h0a2 := blk_cell (blk_alloc (blk_alloc HT0.out.box (.cells #[.int .i64 0, .int .i64 5000, .int .i64 5001] 3)) (.cells #[.int .i64 99, .int .i64 100, .int .i64 500, .int .i64 501] 3)) 5 _ rfl
                  have h0a3 := blk_cell (blk_alloc (blk_alloc HT0.out.box (.cells #[.int .i64 99, .int .i64 100, .int .i64 500, .int .i64 501] 3)) (.cells #[.int .i64 0, .int .i64 5000, .int .i64 5001] 3)) 5 _ rfl
                  have HN0 : Hid (A + 0 ≤ 900000000000000000) := by show A + 0 ≤ 900000000000000000; omega
                  have HN1 : Hid (A + 1 ≤ 900000000000000000) := by show A + 1 ≤ 900000000000000000; omega
                  have HP0 : Hid (∀ V Z, Hid (TSit w V xb cb ao n c (A + 0) y (.slice la y.la.n lc) (.slice ca y.ca.n cc)) → Below V.heap.size V Z → ∀ b, Z.heap[b]? = some (.cells #[.int .i64 0, .int .i64 5000, .int .i64 5001] 3 (0, 0)) → b ≠ cb → Calls Tryz.prog 73 #[.pointer (some ⟨cb, 0, none⟩), .slice (some ⟨b, 0, none⟩) 3 3] Z fun e w6 => ∃ r : Int, e = .returned (.int .i64 r) ∧ Hid (TSit w w6 xb cb ao n c (A + 1) y (.slice la y.la.n lc) (.slice ca y.ca.n cc)) ∧ Kept Z w6 (fun b => b = cb)) := fun V Z hV hZ b hb hne => (amongC cb ao n c (A + 0) 3 [0, 5000, 5001] Z rfl HN0.out (by omega) (by omega) (hV.out.cur.below hZ) b hb hne).mono fun e w6 ⟨⟨r, h1⟩, h3, h4⟩ => ⟨r, h1, (hV.out.below hZ).on hcb h3 h4, h4⟩
                  have HP1 : Hid (∀ V Z, Hid (TSit w V xb cb ao n c (A + 1) y (.slice la y.la.n lc) (.slice ca y.ca.n cc)) → Below V.heap.size V Z → ∀ b, Z.heap[b]? = some (.cells #[.int .i64 99, .int .i64 100, .int .i64 500, .int .i64 501] 3 (0, 0)) → b ≠ cb → Calls Tryz.prog 73 #[.pointer (some ⟨cb, 0, none⟩), .slice (some ⟨b, 0, none⟩) 4 4] Z fun e w6 => ∃ r : Int, e = .returned (.int .i64 r) ∧ Hid (TSit w w6 xb cb ao n c (A + 2) y (.slice la y.la.n lc) (.slice ca y.ca.n cc)) ∧ Kept Z w6 (fun b => b = cb)) := fun V Z hV hZ b hb hne => (amongC cb ao n c (A + 1) 4 [99, 100, 500, 501] Z rfl HN1.out (by omega) (by omega) (hV.out.cur.below hZ) b hb hne).mono fun e w6 ⟨⟨r, h1⟩, h3, h4⟩ => ⟨r, h1, (hV.out.below hZ).on hcb h3 h4, h4⟩
                  obtain ⟨j0, ji, jz0, jz1, jz2⟩ := info_parts Tryz.infoLane
                  go_upto_region 17 with fail
                  with_reducible skip
                  focus
                    go_region_law (first
                      | (go_simp; go_at_call 73; (with_reducible refine Calls.mono (HP1.out _ _ HT1 ?_ _ ?_ ?_) ?_); (focus (repeat (first | exact Below.refl _ _ | refine Below.drew ?_ | refine push ?_ _))); (focus (repeat (first | with_reducible exact bI | with_reducible exact heap_alloc_new _ _ | with_reducible exact second_new _ _ _ | with_reducible refine blk_drewn ?_ | with_reducible refine blk_alloc ?_ _))); (focus (have h1 := hcb; have h2 := HT0.out.kept.size; (try have h3 := HT1.out.kept.size); omega)); rintro e u2 ⟨r2, rfl, HT2, hk2⟩; have h2_5 := blk_cell HT2.out.box 5 _ rfl; have h2n := blk_cell (blk_alloc HT2.out.box (.cells #[.int .i64 r1, .int .i64 r2] 106)) 5 _ rfl; clear hk2; dsimp only)
                      | (go_simp; go_at_call 73; (with_reducible refine Calls.mono (HP0.out _ _ HT0 ?_ _ ?_ ?_) ?_); (focus (repeat (first | exact Below.refl _ _ | refine Below.drew ?_ | refine push ?_ _))); (focus (repeat (first | with_reducible exact bI | with_reducible exact heap_alloc_new _ _ | with_reducible exact second_new _ _ _ | with_reducible refine blk_drewn ?_ | with_reducible refine blk_alloc ?_ _))); (focus (have h1 := hcb; have h2 := HT0.out.kept.size; (try have h3 := HT0.out.kept.size); omega)); rintro e u1 ⟨r1, rfl, HT1, hk1⟩; (first | (refine (fun (bI : u1.heap[wr.heap.size]? = some (.cells #[.int .i64 99, .int .i64 100, .int .i64 500, .int .i64 501] 3 (0, 0))) => ?_) (hk1.blk ?_ ?_); rotate_left; (focus (repeat (first | with_reducible exact heap_alloc_new _ _ | with_reducible exact second_new _ _ _ | with_reducible refine blk_drewn ?_ | with_reducible refine blk_alloc ?_ _))); (focus (show ¬ _ = cb; have h1 := hcb; have h2 := HT0.out.kept.size; omega))) | (refine (fun (bI : u1.heap[wr.heap.size + 1]? = some (.cells #[.int .i64 99, .int .i64 100, .int .i64 500, .int .i64 501] 3 (0, 0))) => ?_) (hk1.blk ?_ ?_); rotate_left; (focus (repeat (first | with_reducible exact heap_alloc_new _ _ | with_reducible exact second_new _ _ _ | with_reducible refine blk_drewn ?_ | with_reducible refine blk_alloc ?_ _))); (focus (show ¬ _ = cb; have h1 := hcb; have h2 := HT0.out.kept.size; omega))) | skip); have h1_5 := blk_cell HT1.out.box 5 _ rfl; have h1a0 := blk_cell (blk_alloc HT1.out.box (.cells #[.int .i64 0, .int .i64 5000, .int .i64 5001] 3)) 5 _ rfl; have h1a1 := blk_cell (blk_alloc HT1.out.box (.cells #[.int .i64 99, .int .i64 100, .int .i64 500, .int .i64 501] 3)) 5 _ rfl; have h1a2 := blk_cell (blk_alloc (blk_alloc HT1.out.box (.cells #[.int .i64 0, .int .i64 5000, .int .i64 5001] 3)) (.cells #[.int .i64 99, .int .i64 100, .int .i64 500, .int .i64 501] 3)) 5 _ rfl; have h1a3 := blk_cell (blk_alloc (blk_alloc HT1.out.box (.cells #[.int .i64 99, .int .i64 100, .int .i64 500, .int .i64 501] 3)) (.cells #[.int .i64 0, .int .i64 5000, .int .i64 5001] 3)) 5 _ rfl; clear hk1; dsimp only)
                      | (refine step_append_lies _ (by rfl) (.tmp 89) (.tmp 97) 34 (by rfl) w.heap.size 106 j0 (.agg #[.int .i64 0, .int .i64 0]) 2 16 Tryz.underlying34 ji jz0 jz1 jz2 rfl (by decide) _ y.la.n (pairRow y.la) (by rfl) (own_below (push (Below.refl _ _) _) HT2.out.la) ⟨u2.heap.size, 0, none⟩ 1 1 [.int .i64 r1, .int .i64 r2] (by rfl) (by rfl) (World.news_of_block (heap_alloc_new u2 _)) (by intro u hu; simp only [List.mem_cons, List.not_mem_nil, or_false] at hu; rcases hu with rfl | rfl <;> rfl) (by decide) (by unfold maxLen; omega) (by omega) (by have h1 := HT2.out.kept.size; simp; omega) _ rfl ?_; intro g9 cap9 w9 ho9 hg9 _ _; have b9 := (kept_row hg9).blk (blk_alloc HT2.out.box (.cells #[.int .i64 r1, .int .i64 r2] 106)) (fun e => own_not HT2.out.la HT2.out.box (by decide) xb e rfl); have n9 := blk_cell b9 5 _ rfl; have f9 := blk_free b9 5; clear b9))
                    all_goals
                      have HT9 := (HT2.out.below (push (Below.refl _ _) (.cells #[.int .i64 r1, .int .i64 r2] 106))).lane hcb HCL.out r1 r2 hg9 ho9
                      go_wp2
                      go_meet
                      exact ⟨_, _, _, HT9.more (by omega), by show y.la.n + 1 ≤ 4; omega, by show y.ca.n ≤ 4; omega⟩
              · skip
                as_aux_lemma =>
                  have D0 : ((zn : Int) == 0) = false := by rw [beq_eq_false_iff_ne]; omega
                  have D1 : ((zn : Int) == 1) = false := by rw [beq_eq_false_iff_ne]; omega
                  have D2 : ((zn : Int) == 2) = true := by rw [beq_iff_eq]; omega
                  clear hzs
                  have HT0 : Hid (TSit w wr xb cb ao n c (A) y (.slice la y.la.n lc) (.slice ca y.ca.n cc)) := HTR
                  have h0_6 := blk_cell HT0.out.box 6 _ rfl
                  have h0f_6 := blk_free HT0.out.box 6
                  have HN0 : Hid (A + 0 ≤ 900000000000000000) := by show A + 0 ≤ 900000000000000000; omega
                  have HN1 : Hid (A + 1 ≤ 900000000000000000) := by show A + 1 ≤ 900000000000000000; omega
                  have HP0 : Hid (∀ V Z, Hid (TSit w V xb cb ao n c (A + 0) y (.slice la y.la.n lc) (.slice ca y.ca.n cc)) → Below V.heap.size V Z → Calls Tryz.prog 59 #[.pointer (some ⟨cb, 0, none⟩), .int .i64 5] Z fun e w6 => ∃ r : Nat, e = .returned (.int .i64 r) ∧ r < 5 ∧ Hid (TSit w w6 xb cb ao n c (A + 1) y (.slice la y.la.n lc) (.slice ca y.ca.n cc)) ∧ Kept Z w6 (fun b => b = cb)) := fun V Z hV hZ => (pickC cb ao n c (A + 0) 5 Z HN0.out (by omega) (by omega) (hV.out.cur.below hZ)).mono fun e w6 ⟨⟨r, h1, h2⟩, h3, h4⟩ => ⟨r, h1, h2, (hV.out.below hZ).on hcb h3 h4, h4⟩
                  have HP1 : Hid (∀ V Z, Hid (TSit w V xb cb ao n c (A + 1) y (.slice la y.la.n lc) (.slice ca y.ca.n cc)) → Below V.heap.size V Z → Calls Tryz.prog 59 #[.pointer (some ⟨cb, 0, none⟩), .int .i64 6] Z fun e w6 => ∃ r : Nat, e = .returned (.int .i64 r) ∧ r < 6 ∧ Hid (TSit w w6 xb cb ao n c (A + 2) y (.slice la y.la.n lc) (.slice ca y.ca.n cc)) ∧ Kept Z w6 (fun b => b = cb)) := fun V Z hV hZ => (pickC cb ao n c (A + 1) 6 Z HN1.out (by omega) (by omega) (hV.out.cur.below hZ)).mono fun e w6 ⟨⟨r, h1, h2⟩, h3, h4⟩ => ⟨r, h1, h2, (hV.out.below hZ).on hcb h3 h4, h4⟩
                  obtain ⟨j0, ji, jz0, jz1, jz2⟩ := info_parts Tryz.infoCabin
                  go_upto_region 19 with fail
                  with_reducible skip
                  focus
                    go_region_law (first
                      | (go_simp; go_at_call 59; (with_reducible refine Calls.mono (HP1.out _ _ HT1 ?_) ?_); (focus (repeat (first | exact Below.refl _ _ | refine Below.drew ?_ | refine push ?_ _))); rintro e u2 ⟨r2, rfl, hr2, HT2, hk2⟩; have h2_6 := blk_cell HT2.out.box 6 _ rfl; have h2n := blk_cell (blk_alloc HT2.out.box (.cells #[.int .i64 (r1 : Int), .int .i64 (r2 : Int)] 110)) 6 _ rfl; clear hk2; dsimp only)
                      | (go_simp; go_at_call 59; (with_reducible refine Calls.mono (HP0.out _ _ HT0 ?_) ?_); (focus (repeat (first | exact Below.refl _ _ | refine Below.drew ?_ | refine push ?_ _))); rintro e u1 ⟨r1, rfl, hr1, HT1, hk1⟩; have h1_6 := blk_cell HT1.out.box 6 _ rfl; clear hk1; dsimp only)
                      | (refine step_append_lies _ (by rfl) (.tmp 103) (.tmp 109) 35 (by rfl) w.heap.size 110 j0 (.agg #[.int .i64 0, .int .i64 0]) 2 16 Tryz.underlying35 ji jz0 jz1 jz2 rfl (by decide) _ y.ca.n (pairRow y.ca) (by rfl) (own_below (push (Below.refl _ _) _) HT2.out.ca) ⟨u2.heap.size, 0, none⟩ 1 1 [.int .i64 (r1 : Int), .int .i64 (r2 : Int)] (by rfl) (by rfl) (World.news_of_block (heap_alloc_new u2 _)) (by intro u hu; simp only [List.mem_cons, List.not_mem_nil, or_false] at hu; rcases hu with rfl | rfl <;> rfl) (by decide) (by unfold maxLen; omega) (by omega) (by have h1 := HT2.out.kept.size; simp; omega) _ rfl ?_; intro g9 cap9 w9 ho9 hg9 _ _; have b9 := (kept_row hg9).blk (blk_alloc HT2.out.box (.cells #[.int .i64 (r1 : Int), .int .i64 (r2 : Int)] 110)) (fun e => own_not HT2.out.ca HT2.out.box (by decide) xb e rfl); have n9 := blk_cell b9 6 _ rfl; have f9 := blk_free b9 6; clear b9))
                    all_goals
                      have HT9 := (HT2.out.below (push (Below.refl _ _) (.cells #[.int .i64 (r1 : Int), .int .i64 (r2 : Int)] 110))).cab hcb HCL.out (r1 : Int) (r2 : Int) hg9 ho9
                      go_wp2
                      go_meet
                      exact ⟨_, _, _, HT9.more (by omega), by show y.la.n ≤ 4; omega, by show y.ca.n + 1 ≤ 4; omega⟩
              · skip
                as_aux_lemma =>
                  have D0 : ((zn : Int) == 0) = false := by rw [beq_eq_false_iff_ne]; omega
                  have D1 : ((zn : Int) == 1) = false := by rw [beq_eq_false_iff_ne]; omega
                  have D2 : ((zn : Int) == 2) = false := by rw [beq_eq_false_iff_ne]; omega
                  have D3 : ((zn : Int) == 3) = true := by rw [beq_iff_eq]; omega
                  clear hzs
                  -- 3
                  have m3 := blk_cell HTR.out.box 3 _ rfl
                  go_wp2_with fail
                  refine (amongC cb ao n c A 3 [-1, 500, 501] _ rfl (by omega) (by omega) (by omega) (HTR.out.cur.below (push (Below.refl _ _) _)) _ (heap_alloc_new _ _) (by have h1 := HTR.out.kept.size; omega)).mono ?_
                  rintro e v4 ⟨⟨r4, rfl⟩, hc4, hk4⟩
                  have HT4 : Hid (TSit w v4 xb cb ao n c (A + 1) y (.slice la y.la.n lc) (.slice ca y.ca.n cc)) := (HTR.out.below (push (Below.refl _ _) _)).on hcb hc4 hk4
                  have k4 := blk_cell HT4.out.box 7 _ rfl
                  have kf4 := blk_free HT4.out.box 7
                  clear hc4 hk4
                  have HT5 : Hid _ := HT4.out.most hcb HCL.out r4
                  go_wp2
                  go_meet
                  exact ⟨_, _, _, HT5.out.more (by omega), by show y.la.n ≤ 4; omega, by show y.ca.n ≤ 4; omega⟩
              · skip
                as_aux_lemma =>
                  have D0 : ((zn : Int) == 0) = false := by rw [beq_eq_false_iff_ne]; omega
                  have D1 : ((zn : Int) == 1) = false := by rw [beq_eq_false_iff_ne]; omega
                  have D2 : ((zn : Int) == 2) = false := by rw [beq_eq_false_iff_ne]; omega
                  have D3 : ((zn : Int) == 3) = false := by rw [beq_eq_false_iff_ne]; omega
                  have D4 : ((zn : Int) == 4) = true := by rw [beq_iff_eq]; omega
                  clear hzs
                  -- 4
                  go_wp2_with fail
                  refine (ofC cb ao n c A 3 [⟨#[]⟩, ⟨#[65, 49]⟩, ⟨#[97, 98, 99, 100, 101, 102, 103, 104, 105, 106, 107, 108, 109]⟩] _ rfl (by omega) (by omega) (by omega) (HTR.out.cur.below (push (Below.refl _ _) _)) _ (heap_alloc_new _ _) (by have h1 := HTR.out.kept.size; omega)).mono ?_
                  rintro e v4 ⟨⟨r4, rfl, hr4⟩, hc4, hk4⟩
                  have HT4 : Hid (TSit w v4 xb cb ao n c (A + 1) y (.slice la y.la.n lc) (.slice ca y.ca.n cc)) := (HTR.out.below (push (Below.refl _ _) _)).on hcb hc4 hk4
                  have k4 := blk_cell HT4.out.box 1 _ rfl
                  have kf4 := blk_free HT4.out.box 1
                  clear hc4 hk4
                  have hs4 : r4.size ≤ 13 := by
                    have hr5 := hr4.out
                    simp only [List.mem_cons, List.not_mem_nil, or_false] at hr5
                    rcases hr5 with rfl | rfl | rfl <;> decide
                  have HT5 : Hid _ := HT4.out.frs hcb HCL.out r4 hs4
                  go_wp2
                  go_meet
                  exact ⟨_, _, _, HT5.out.more (by omega), by show y.la.n ≤ 4; omega, by show y.ca.n ≤ 4; omega⟩
              · skip
                as_aux_lemma =>
                  have D0 : ((zn : Int) == 0) = false := by rw [beq_eq_false_iff_ne]; omega
                  have D1 : ((zn : Int) == 1) = false := by rw [beq_eq_false_iff_ne]; omega
                  have D2 : ((zn : Int) == 2) = false := by rw [beq_eq_false_iff_ne]; omega
                  have D3 : ((zn : Int) == 3) = false := by rw [beq_eq_false_iff_ne]; omega
                  have D4 : ((zn : Int) == 4) = false := by rw [beq_eq_false_iff_ne]; omega
                  have D5 : ((zn : Int) == 5) = true := by rw [beq_iff_eq]; omega
                  clear hzs
                  -- 5
                  have m3 := blk_cell HTR.out.box 3 _ rfl
                  go_wp2_with fail
                  refine (amongC cb ao n c A 3 [0, 99, 100] _ rfl (by omega) (by omega) (by omega) (HTR.out.cur.below (push (Below.refl _ _) _)) _ (heap_alloc_new _ _) (by have h1 := HTR.out.kept.size; omega)).mono ?_
                  rintro e v4 ⟨⟨r4, rfl⟩, hc4, hk4⟩
                  have HT4 : Hid (TSit w v4 xb cb ao n c (A + 1) y (.slice la y.la.n lc) (.slice ca y.ca.n cc)) := (HTR.out.below (push (Below.refl _ _) _)).on hcb hc4 hk4
                  have k4 := blk_cell HT4.out.box 0 _ rfl
                  have kf4 := blk_free HT4.out.box 0
                  clear hc4 hk4
                  have HT5 : Hid _ := HT4.out.ids hcb HCL.out r4
                  go_wp2
                  go_meet
                  exact ⟨_, _, _, HT5.out.more (by omega), by show y.la.n ≤ 4; omega, by show y.ca.n ≤ 4; omega⟩
              · skip
                as_aux_lemma =>
                  have D0 : ((zn : Int) == 0) = false := by rw [beq_eq_false_iff_ne]; omega
                  have D1 : ((zn : Int) == 1) = false := by rw [beq_eq_false_iff_ne]; omega
                  have D2 : ((zn : Int) == 2) = false := by rw [beq_eq_false_iff_ne]; omega
                  have D3 : ((zn : Int) == 3) = false := by rw [beq_eq_false_iff_ne]; omega
                  have D4 : ((zn : Int) == 4) = false := by rw [beq_eq_false_iff_ne]; omega
                  have D5 : ((zn : Int) == 5) = false := by rw [beq_eq_false_iff_ne]; omega
                  clear hzs
                  go_wp2
                  go_meet
                  exact ⟨_, _, _, HTR.out.more (by omega), by omega, by omega⟩
            case rest =>
              obtain ⟨y, vl, vc, HT⟩ := hcut
              obtain ⟨la, lc, rfl, _⟩ := own_form HT.out.1.la
              obtain ⟨ca, cc, rfl, _⟩ := own_form HT.out.1.ca
              obtain ⟨cs, hcs, hres⟩ := HT.out.1.res
              obtain ⟨r0, r1, r2, r3, r4, r5, r6, r7, rfl⟩ := eight cs hcs
              have mb := HT.out.1.box
              have m0 := blk_cell mb 0 _ rfl
              have mf0 := blk_free mb 0
              have m1 := blk_cell mb 1 _ rfl
              have mf1 := blk_free mb 1
              have m2 := blk_cell mb 2 _ rfl
              have mf2 := blk_free mb 2
              have m3 := blk_cell mb 3 _ rfl
              have mf3 := blk_free mb 3
              have m4 := blk_cell mb 4 _ rfl
              have mf4 := blk_free mb 4
              have m5 := blk_cell mb 5 _ rfl
              have mf5 := blk_free mb 5
              have m6 := blk_cell mb 6 _ rfl
              have mf6 := blk_free mb 6
              have m7 := blk_cell mb 7 _ rfl
              have mf7 := blk_free mb 7
              clear mb
              have y0 := blk_cell hres 0 _ rfl
              have g0 := blk_free hres 0
              have y1 := blk_cell hres 1 _ rfl
              have g1 := blk_free hres 1
              have y2 := blk_cell hres 2 _ rfl
              have g2 := blk_free hres 2
              have y3 := blk_cell hres 3 _ rfl
              have g3 := blk_free hres 3
              have y4 := blk_cell hres 4 _ rfl
              have g4 := blk_free hres 4
              have y5 := blk_cell hres 5 _ rfl
              have g5 := blk_free hres 5
              have y6 := blk_cell hres 6 _ rfl
              have g6 := blk_free hres 6
              have y7 := blk_cell hres 7 _ rfl
              have g7 := blk_free hres 7
              have rF := box_eight hres (.int .i64 y.id) (.string y.fr) (.string y.dst) (.int .i64 y.dep) (.int .i64 y.arr) (.slice la y.la.n lc) (.slice ca y.ca.n cc) (.int .i64 y.most)
              have HF : Hid _ := TSit.done HT.out.1 hcb HCL.out (.int .i64 y.id) (.string y.fr) (.string y.dst) (.int .i64 y.dep) (.int .i64 y.arr) (.slice la y.la.n lc) (.slice ca y.ca.n cc) (.int .i64 y.most) rfl
              clear hcs hres
              go_wp2
              have z0 := blk_cell rF 0 _ rfl
              have z1 := blk_cell rF 1 _ rfl
              have z2 := blk_cell rF 2 _ rfl
              have z3 := blk_cell rF 3 _ rfl
              have z4 := blk_cell rF 4 _ rfl
              have z5 := blk_cell rF 5 _ rfl
              have z6 := blk_cell rF 6 _ rfl
              have z7 := blk_cell rF 7 _ rfl
              exact bodyPost_ret (v := .agg #[.int .i64 y.id, .string y.fr, .string y.dst, .int .i64 y.dep, .int .i64 y.arr, .slice la y.la.n lc, .slice ca y.ca.n cc, .int .i64 y.most]) (by simp [results, Tryz.results58, go_sem, z0, z1, z2, z3, z4, z5, z6, z7]) rfl ⟨⟨y, _, _, rfl, HF.out.2.2.1, HF.out.2.2.2, ⟨by have := HT.out.1.sz; omega, by have := HT.out.1.sz; omega, by have := HT.out.2; omega, by have := HT.out.2; omega⟩⟩, HF.out.1.more (by omega), HF.out.2.1⟩

end Go.Proofs.YtfallpinmhbemaaGreatDoor

namespace Go.Proofs.YtfallpinmhbemaaGreatDoor
open Go.RowKit

theorem oslo_short (id : Int) : ShortS ⟨id, ⟨#[79, 115, 108, 111]⟩, ⟨#[75, 105, 101, 108]⟩, 5, 9, noP, noP, 9⟩ 100 := ⟨by show (4 : Nat) ≤ 100; omega, by show (4 : Nat) ≤ 100; omega, by show (0 : Nat) ≤ 100; omega, by show (0 : Nat) ≤ 100; omega⟩
theorem sailingC (cb : Nat) (ao : Option Addr) (n c a : Nat) (id : Int) (w : World) (ha : a ≤ 100000000000000) (hn : n ≤ 1048576) (h : CurX w cb ao n c a) :
    Calls Tryz.prog 58 #[.pointer (some ⟨cb, 0, none⟩), .int .i64 id] w fun e w' => (∃ (x : Sail) (vl vc : Value), e = .returned (.agg #[.int .i64 x.id, .string x.fr, .string x.dst, .int .i64 x.dep, .int .i64 x.arr, vl, vc, .int .i64 x.most]) ∧ Hid (w'.ownsRow w.heap.size 106 2 vl x.la.n (pairRow x.la) ∧ w'.ownsRow w.heap.size 110 2 vc x.ca.n (pairRow x.ca) ∧ ShortS x 100)) ∧ CurX w' cb ao n c (a + 10000000000000) ∧ Kept w w' (fun b => b = cb) := by
  obtain ⟨p, s, hp, hc⟩ := h
  exact (sailing_any cb ao n c p s id w (by omega) hn hc).mono fun e w' ⟨h1, h2, h3⟩ => ⟨h1, h2.more (by omega), h3⟩

set_option maxHeartbeats 25600000 in
set_option maxRecDepth 100000 in
theorem timetable_any (cb : Nat) (ao : Option Addr) (n c a : Nat) (w : World) (ha : a ≤ 1000000000) (hn : n ≤ 1048576) (hcb : cb < w.heap.size) (HCL : Hid (CodeLow w ao n)) (h : CurX w cb ao n c a) :
    Calls Tryz.prog 79 #[.pointer (some ⟨cb, 0, none⟩)] w fun e w' => ∃ v N S L C, e = .returned v ∧ (0 < N ∧ N ≤ 7) ∧ Hid (LSit w w' cb ao n c 90000000000000 v N S L C) := by
  have h0 : LSit w w cb ao n c a (.slice none 0 0) 0 (fun _ => ⟨0, ⟨#[]⟩, ⟨#[]⟩, 0, 0, noP, noP, 0⟩) (fun _ => .slice none 0 0) (fun _ => .slice none 0 0) := ⟨h, Kept.refl _ _, LieSails.nil _ _ _ _ _, fun i hi => by omega⟩
  obtain ⟨S0, L0, C0, H0⟩ : ∃ S L C, Hid (LSit w w cb ao n c a (.slice none 0 0) 0 S L C) := ⟨_, _, _, h0⟩
  clear h0 h
  go_enter Tryz.func79, Tryz.ntmps79
  go_wp2_with fail
  refine (pickC cb ao n c a 5 _ (by omega) (by omega) (by omega) H0.out.cur).mono ?_
  rintro e w1 ⟨⟨n0, rfl, hn0⟩, hc1, hk1⟩
  have H1 : Hid _ := H0.out.on hcb hc1 hk1
  clear H0 hc1 hk1
  have hw0 : IntKind.i64.wrap (1 + (n0 : Int)) = ((1 + n0 : Nat) : Int) := by rw [IntKind.wrap_i64]; omega
  go_wp2_with fail
  refine (oneC cb ao n c (a + 1) 24 _ (by omega) (by omega) (by omega) H1.out.cur).mono ?_
  rintro e w2 ⟨⟨b, rfl⟩, hc2, hk2⟩
  have H2 : Hid _ := H1.out.on hcb hc2 hk2
  clear H1 hc2 hk2
  go_upto_if 11 with fail
  go_cut [5] (fun vn wx => ∃ m : Nat, vn = .int .i64 m ∧ (0 < m ∧ m ≤ 7) ∧ Hid (LSit w wx cb ao n c (a + 3) (.slice none 0 0) 0 S0 L0 C0))
  case first =>
    cases b with
    | true =>
      go_wp2_with fail
      refine (pickC cb ao n c (a + 1 + 1) 2 _ (by omega) (by omega) (by omega) H2.out.cur).mono ?_
      rintro e w3 ⟨⟨n1, rfl, hn1⟩, hc3, hk3⟩
      have H3 : Hid _ := H2.out.on hcb hc3 hk3
      have hw1 : IntKind.i64.wrap (6 + (n1 : Int)) = ((6 + n1 : Nat) : Int) := by rw [IntKind.wrap_i64]; omega
      clear H2 hc3 hk3
      go_wp2
      go_meet
      exact ⟨6 + n1, rfl, by omega, H3.out⟩
    | false =>
      go_wp2
      go_meet
      exact ⟨1 + n0, rfl, by omega, H2.out.more (by omega)⟩
  case rest =>
  obtain ⟨m0, rfl, hm0, H3⟩ := hcut
  clear H2 hw0
  obtain ⟨A0, hA0⟩ : ∃ A0, A0 = a + 3 := ⟨_, rfl⟩
  rw [← hA0] at H3
  have hA1 : A0 ≤ 2000000000 := by omega
  clear hA0
  go_wp2_with fail
  go_loopw [3, 4, 5] (fun vl vi vn wr => ∃ (k N : Nat) (idv : Int) (S : Nat → Sail) (L C : Nat → Value), vn = .int .i64 k ∧ vi = .int .i64 idv ∧ (0 < N + k ∧ N + k ≤ 7) ∧ Hid (LSit w wr cb ao n c (A0 + N * 10000000000100) vl N S L C)) (fun _ _ vn _ => (intOf vn).toNat)
  case atStart => exact ⟨m0, 0, 0, S0, L0, C0, rfl, rfl, by omega, H3.out.more (by omega)⟩
  case round =>
    clear H3
    clear S0 L0 C0
    obtain ⟨k, N, idv, S, L, C, rfl, rfl, hNk, HR⟩ := hrel
    obtain ⟨A, hA⟩ : ∃ A, A = A0 + N * 10000000000100 := ⟨_, rfl⟩
    rw [← hA] at HR
    have hA2 : A ≤ 80000000000000 := by omega
    obtain ⟨lo, lc, rfl, _⟩ := own_form HR.out.lie.row
    by_cases hk0 : 0 < k
    · have dk : decide ((0 : Int) < (k : Int)) = true := by simp; omega
      go_wp2_with fail
      refine (pickC cb ao n c A 3 _ (by omega) (by omega) (by omega) HR.out.cur).mono ?_
      rintro e w3 ⟨⟨r3, rfl, hr3⟩, hc3, hk3⟩
      have H3 : Hid _ := HR.out.on hcb hc3 hk3
      clear HR hc3 hk3
      go_wp2_with fail
      refine (sailingC cb ao n c (A + 1) _ _ (by omega) hn H3.out.cur).mono ?_
      rintro e w4 ⟨⟨x, vl, vc, rfl, HX⟩, hc4, hk4⟩
      obtain ⟨la, lac, rfl, _⟩ := own_form HX.out.1
      obtain ⟨ca, cac, rfl, _⟩ := own_form HX.out.2.1
      have H4 : Hid _ := H3.out.on hcb hc4 hk4
      have hs34 := H3.out.kept.size
      have HL4 : Hid (w4.ownsRow w.heap.size 106 2 (.slice la x.la.n lac) x.la.n (pairRow x.la) ∧ w4.ownsRow w.heap.size 110 2 (.slice ca x.ca.n cac) x.ca.n (pairRow x.ca) ∧ ShortS x 100) := ⟨own_base HX.out.1 hs34, own_base HX.out.2.1 hs34, HX.out.2.2⟩
      clear H3 hc4 hk4 HX hs34
      have hbx := heap_alloc_new w4 (.cells #[.int .i64 x.id, .string x.fr, .string x.dst, .int .i64 x.dep, .int .i64 x.arr, .slice la x.la.n lac, .slice ca x.ca.n cac, .int .i64 x.most] 37)
      have hpx : Below w4.heap.size w4 (w4.alloc (.cells #[.int .i64 x.id, .string x.fr, .string x.dst, .int .i64 x.dep, .int .i64 x.arr, .slice la x.la.n lac, .slice ca x.ca.n cac, .int .i64 x.most] 37)) := push (Below.refl _ _) _
      go_upto_region 10 with fail
      generalize w4.alloc (.cells #[.int .i64 x.id, .string x.fr, .string x.dst, .int .i64 x.dep, .int .i64 x.arr, .slice la x.la.n lac, .slice ca x.ca.n cac, .int .i64 x.most] 37) = w5 at hbx hpx ⊢
      have HB : Hid (BSit w w5 w4.heap.size cb ao n c (A + 1 + 10000000000000) (.slice lo N lc) N S L C x (.slice la x.la.n lac) (.slice ca x.ca.n cac)) := ⟨H4.out.below hpx, H4.out.kept.size, hbx, fun g hg => by have := (H4.out.lie.row.lt g hg).2; omega, own_below hpx HL4.out.1, own_below hpx HL4.out.2.1, HL4.out.2.2⟩
      clear H4 HL4 hbx hpx
      generalize w4.heap.size = xb at HB ⊢
      obtain ⟨B, hB⟩ : ∃ B, B = A + 1 + 10000000000000 := ⟨_, rfl⟩
      rw [← hB] at HB
      have hB2 : B ≤ 92000000000000 := by omega
      have hB3 : B = A0 + N * 10000000000100 + 10000000000001 := by omega
      clear hA2 hA hB
      have m0 := blk_cell HB.out.box 0 _ rfl
      have m1 := blk_cell HB.out.box 1 _ rfl
      have m2 := blk_cell HB.out.box 2 _ rfl
      have m3 := blk_cell HB.out.box 3 _ rfl
      have m4 := blk_cell HB.out.box 4 _ rfl
      have m5 := blk_cell HB.out.box 5 _ rfl
      have m6 := blk_cell HB.out.box 6 _ rfl
      have m7 := blk_cell HB.out.box 7 _ rfl
      go_cut [34] (fun v wx => ∃ b : Bool, v = .bool b ∧ Hid (BSit w wx xb cb ao n c (B + 1) (.slice lo N lc) N S L C x (.slice la x.la.n lac) (.slice ca x.ca.n cac)))
      case first =>
        go_wp2_with fail
        refine (specSailing_any _ _ _ _ _ _ _ _ _ _ _ _ x.la x.ca _ rfl rfl (by have := HB.out.sx.1; omega) (by have := HB.out.sx.2.1; omega) (by have := HB.out.sx.2.2.1; omega) (by have := HB.out.sx.2.2.2; omega) (pairs_of_own HB.out.la) (pairs_of_own HB.out.ca)).mono ?_
        rintro e w6 ⟨⟨g6, rfl, _⟩, hb6⟩
        have HB6 : Hid _ := HB.out.below hb6
        clear HB hb6 m0 m1 m2 m3 m4 m5 m6 m7
        cases g6 with
        | true =>
          go_wp2
          go_meet
          exact ⟨_, rfl, HB6.out.more (by omega)⟩
        | false =>
          go_wp2_with fail
          refine (oneC cb ao n c B 6 _ (by omega) (by omega) (by omega) HB6.out.l.cur).mono ?_
          rintro e w7 ⟨⟨b7, rfl⟩, hc7, hk7⟩
          have HB7 : Hid _ := HB6.out.on hcb hc7 hk7
          clear HB6 hc7 hk7
          go_wp2
          go_meet
          exact ⟨_, rfl, HB7.out⟩
      case rest =>
      obtain ⟨b8, rfl, HB8⟩ := hcut
      clear HB m0 m1 m2 m3 m4 m5 m6 m7
      go_upto_if 34 with fail
      go_cut [] (fun wx => ∃ y wl wc, Hid (BSit w wx xb cb ao n c (B + 1) (.slice lo N lc) N S L C y wl wc))
      case first =>
        cases b8 with
        | true =>
          have m0 := blk_cell HB8.out.box 0 _ rfl
          have m1 := blk_cell HB8.out.box 1 _ rfl
          have m2 := blk_cell HB8.out.box 2 _ rfl
          have m3 := blk_cell HB8.out.box 3 _ rfl
          have m4 := blk_cell HB8.out.box 4 _ rfl
          have m5 := blk_cell HB8.out.box 5 _ rfl
          have m6 := blk_cell HB8.out.box 6 _ rfl
          have m7 := blk_cell HB8.out.box 7 _ rfl
          have f0 := blk_free HB8.out.box 0
          have f1 := blk_free HB8.out.box 1
          have f2 := blk_free HB8.out.box 2
          have f3 := blk_free HB8.out.box 3
          have f4 := blk_free HB8.out.box 4
          have f5 := blk_free HB8.out.box 5
          have f6 := blk_free HB8.out.box 6
          have f7 := blk_free HB8.out.box 7
          go_wp2
          go_meet
          exact ⟨⟨_, ⟨#[79, 115, 108, 111]⟩, ⟨#[75, 105, 101, 108]⟩, 5, 9, noP, noP, 9⟩, _, _, HB8.out.whole hcb HCL.out rfl (show World.ownsRow _ _ _ 2 _ 0 [] from World.ownsRow_nil _ _ _ _) (show World.ownsRow _ _ _ 2 _ 0 [] from World.ownsRow_nil _ _ _ _) (oslo_short _)⟩
        | false =>
          go_wp2
          go_meet
          exact ⟨_, _, _, HB8.out⟩
      case rest =>
      obtain ⟨y, wl, wc', HY⟩ := hcut
      clear HB8
      go_upto_region 12 with fail
      go_cut [43] (fun v wx => ∃ b : Bool, v = .bool b ∧ (b = true → 0 < N) ∧ Hid (BSit w wx xb cb ao n c (B + 2) (.slice lo N lc) N S L C y wl wc'))
      case first =>
        by_cases hN0 : N = 0
        · have dN : decide ((0 : Int) < (N : Int)) = false := by simp; omega
          go_wp2
          go_meet
          exact ⟨false, rfl, fun e => (by cases e), HY.out.more (by omega)⟩
        · have dN : decide ((0 : Int) < (N : Int)) = true := by simp; omega
          go_wp2_with fail
          refine (oneC cb ao n c (B + 1) 2 _ (by omega) (by omega) (by omega) HY.out.l.cur).mono ?_
          rintro e w7 ⟨⟨b7, rfl⟩, hc7, hk7⟩
          have HB7 : Hid _ := HY.out.on hcb hc7 hk7
          clear HY hc7 hk7
          go_wp2
          go_meet
          exact ⟨_, rfl, fun _ => by omega, HB7.out⟩
      case rest =>
      obtain ⟨b9, rfl, hb9, HY9⟩ := hcut
      clear HY
      go_upto_if 43 with fail
      go_cut [] (fun wx => ∃ y wl wc, Hid (BSit w wx xb cb ao n c (B + 2) (.slice lo N lc) N S L C y wl wc))
      case first =>
        cases b9 with
        | false =>
          go_wp2
          go_meet
          exact ⟨_, _, _, HY9.out⟩
        | true =>
          obtain ⟨M, rfl⟩ : ∃ M, N = M + 1 := ⟨N - 1, by have := hb9 rfl; omega⟩
          obtain ⟨g, rfl, _, _⟩ := own_addr HY9.out.l.lie.row (by omega)
          have hwM : IntKind.i64.wrap ((((M + 1 : Nat)) : Int) - 1) = (M : Int) := by rw [IntKind.wrap_i64]; omega
          have hwM2 : IntKind.i64.wrap (M : Int) = (M : Int) := by rw [IntKind.wrap_i64]; omega
          have hwM3 : (0 : Int) ≤ (M : Int) := by omega
          have hwM4 : (M : Int) < (M : Int) + 1 := by omega
          have hsM := HY9.out.l.short M (by omega)
          clear hb9
          have m1 := blk_cell HY9.out.box 1 _ rfl
          have f1 := blk_free HY9.out.box 1
          have l2 := (own_cell HY9.out.l.lie.row (M * 8 + 2) (by omega) rfl).trans (congrArg some (sailCell_2 S L C M))
          have HY1 : Hid _ := HY9.out.fr hcb HCL.out (S M).dst hsM.2.1
          go_upto_region 14 with fail
          generalize World.setCell _ _ _ = v1 at HY1 ⊢
          obtain ⟨y1, hy1⟩ : ∃ z, z = { y with fr := (S M).dst } := ⟨_, rfl⟩
          rw [← hy1] at HY1
          clear HY9 hy1 m1 f1 l2
          have m3 := blk_cell HY1.out.box 3 _ rfl
          have f3 := blk_free HY1.out.box 3
          have l4 := (own_cell HY1.out.l.lie.row (M * 8 + 4) (by omega) rfl).trans (congrArg some (sailCell_4 S L C M))
          go_cut [] (fun wx => ∃ y wl wc, Hid (BSit w wx xb cb ao n c (B + 2) (.slice (some ⟨g, 0, none⟩) (M + 1) lc) (M + 1) S L C y wl wc))
          case first =>
            go_region
            all_goals
              go_wp2
              go_meet
              first | exact ⟨_, _, _, HY1.out.dep hcb HCL.out _⟩ | exact ⟨_, _, _, (HY1.out.dep hcb HCL.out _).below (Below.refl _ _).drew⟩
          case rest =>
          obtain ⟨y2, wl2, wc2, HY2⟩ := hcut
          clear HY1 m3 f3 l4
          have m4 := blk_cell HY2.out.box 4 _ rfl
          have f4 := blk_free HY2.out.box 4
          have l4 := (own_cell HY2.out.l.lie.row (M * 8 + 4) (by omega) rfl).trans (congrArg some (sailCell_4 S L C M))
          go_upto_region 15 with fail
          go_cut [] (fun wx => ∃ y wl wc, Hid (BSit w wx xb cb ao n c (B + 2) (.slice (some ⟨g, 0, none⟩) (M + 1) lc) (M + 1) S L C y wl wc))
          case first =>
            go_region
            all_goals
              go_wp2
              go_meet
              first | exact ⟨_, _, _, HY2.out.arr hcb HCL.out _⟩ | exact ⟨_, _, _, (HY2.out.arr hcb HCL.out _).below (Below.refl _ _).drew⟩
          case rest =>
          obtain ⟨y3, wl3, wc3, HY3⟩ := hcut
          clear HY2 m4 f4 l4
          have m1 := blk_cell HY3.out.box 1 _ rfl
          have f1 := blk_free HY3.out.box 1
          have m2 := blk_cell HY3.out.box 2 _ rfl
          have f2 := blk_free HY3.out.box 2
          have HY4 : Hid _ := HY3.out.to hcb HCL.out ⟨#[90, 117, 103]⟩ (by show (3 : Nat) ≤ 100; omega)
          go_wp2
          all_goals
            go_meet
            first | exact ⟨_, _, _, HY4.out⟩ | exact ⟨_, _, _, HY3.out⟩
      case rest =>
      obtain ⟨y9, wl9, wc9, HY9'⟩ := hcut
      clear HY9 hb9
      obtain ⟨wla, wlc, rfl, _⟩ := own_form HY9'.out.la
      obtain ⟨wca, wcc, rfl, _⟩ := own_form HY9'.out.ca
      have m0 := blk_cell HY9'.out.box 0 _ rfl
      have m1 := blk_cell HY9'.out.box 1 _ rfl
      have m2 := blk_cell HY9'.out.box 2 _ rfl
      have m3 := blk_cell HY9'.out.box 3 _ rfl
      have m4 := blk_cell HY9'.out.box 4 _ rfl
      have m5 := blk_cell HY9'.out.box 5 _ rfl
      have m6 := blk_cell HY9'.out.box 6 _ rfl
      have m7 := blk_cell HY9'.out.box 7 _ rfl
      obtain ⟨j0, ji, jz0, jz1, jz2⟩ := info_parts Tryz.infoSailing
      have HX : Hid (BSit w (wc.alloc (.cells #[.int .i64 y9.id, .string y9.fr, .string y9.dst, .int .i64 y9.dep, .int .i64 y9.arr, .slice wla y9.la.n wlc, .slice wca y9.ca.n wcc, .int .i64 y9.most] 37)) xb cb ao n c (B + 2) (.slice lo N lc) N S L C y9 (.slice wla y9.la.n wlc) (.slice wca y9.ca.n wcc)) := HY9'.out.below (push (Below.refl _ _) _)
      have hszX := HX.out.l.kept.size
      clear HY9'
      go_wp2_with (first | (at_builtin; refine wpList_append_any _ (by rfl) (.tmp 80) (.tmp 82) 62 (by rfl) w.heap.size 37 j0 (.agg #[.int .i64 0, .string ⟨#[]⟩, .string ⟨#[]⟩, .int .i64 0, .int .i64 0, .slice none 0 0, .slice none 0 0, .int .i64 0]) 8 112 Tryz.underlying62 ji jz0 jz1 jz2 rfl (by decide) _ N _ (by rfl) HX.out.l.lie.row (some ⟨wc.heap.size, 0, none⟩) 1 1 [.int .i64 y9.id, .string y9.fr, .string y9.dst, .int .i64 y9.dep, .int .i64 y9.arr, .slice wla y9.la.n wlc, .slice wca y9.ca.n wcc, .int .i64 y9.most] (by rfl) (fun h => by cases h) (by rfl) (fun ad h => by cases h; exact World.news_of_block (heap_alloc_new wc _)) (by intro u hu; simp only [List.mem_cons, List.not_mem_nil, or_false] at hu; rcases hu with rfl | rfl | rfl | rfl | rfl | rfl | rfl | rfl <;> rfl) (by unfold maxLen; omega) (by omega) hszX ?_; intro v9 w9 ho9 hg9; obtain ⟨a9, c9, rfl, _⟩ := own_form ho9))
      have HN : Hid _ := HX.out.snoc hcb HCL.out hg9 ho9
      go_roundw
      case rel => exact ⟨k - 1, N + 1, _, _, _, _, by go_num, rfl, by omega, HN.out.more (by omega)⟩
      case measure => simp [intOf]; omega
    · obtain rfl : k = 0 := by omega
      go_wp2
      exact bodyPost_ret (v := .slice lo N lc) (by simp [results, Tryz.results79, go_sem]) rfl ⟨_, N, S, L, C, rfl, by omega, HR.out.more (by omega)⟩

end Go.Proofs.YtfallpinmhbemaaGreatDoor
