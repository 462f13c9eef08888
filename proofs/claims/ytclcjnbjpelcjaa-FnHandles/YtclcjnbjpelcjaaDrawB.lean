/-
  OWN TEXT: the drawing of an arena, more words: what a drawn put leaves.
-/
import Derived.Test.YtclcjnbjpelcjaaDrawA
import Derived.Test.YtclcjnbjpelcjaaKitB
namespace Go.Proofs.Ytclcjnbjpelcjaa
open Go.RowKit

theorem Kept.far {w w' : World} {S : Nat → Prop} (h : Kept w w' S) {b i : Nat} (hb : w.heap.size ≤ b) (u : Value) : Kept w (w'.setCell ⟨b, i, none⟩ u) S :=
  ⟨h.os, h.tape, h.output, by have := h.size; simpa using this, fun k hk hs => (Below.heap_setCell w' ⟨b, i, none⟩ u k (by show k ≠ b; omega)).trans (h.block k hk hs)⟩
theorem Kept.more {w w' : World} {S : Nat → Prop} (h : Kept w w' S) (o : Obj) : Kept w (w'.alloc o) S := h.trans (Kept.of_below (push (Below.refl _ _) _))
theorem Kept.drewn {w w' : World} {S : Nat → Prop} (h : Kept w w' S) : Kept w w'.drew S := h.trans (Kept.of_below (Below.refl _ _).drew)
theorem new2 (w : World) (o p : Obj) : ((w.alloc o).alloc p).heap[w.heap.size + 1]? = some p := by simpa using heap_alloc_new (w.alloc o) p
theorem two_set {w : World} {g t : Nat} {u0 u1 : Value} (h : w.heap[g]? = some (.cells #[u0, u1] t (0, 0))) (v0 v1 : Value) : ((w.setCell ⟨g, 0, none⟩ v0).setCell ⟨g, 1, none⟩ v1).heap[g]? = some (.cells #[v0, v1] t (0, 0)) := by
  simpa using blk_set (blk_set h 0 v0) 1 v1
/-- What a drawn put leaves: a box with an arena, a box with a handle, and the code. -/
def CutP (w wx : World) (cb : Nat) (ao : Option Addr) (n c a : Nat) (vl : Value) (k : Nat) (s9 s10 s11 : Value) : Prop :=
  ASit w wx cb ao n c a vl k ∧ ∃ (xb yb : Nat) (s' t' : Value) (x y code : Int), s9 = .pointer (some ⟨xb, 0, none⟩) ∧ s10 = .pointer (some ⟨yb, 0, none⟩) ∧ s11 = .int .i64 code ∧ wx.heap[xb]? = some (.cells #[s', t'] 26 (0, 0)) ∧ wx.heap[yb]? = some (.cells #[.int .i64 x, .int .i64 y] 30 (0, 0)) ∧ w.heap.size + 2 ≤ xb ∧ w.heap.size + 2 ≤ yb ∧ (code = 0 → ArnIs wx (w.heap.size + 2) 20 s' t')
theorem LooseRow.apart {w w' : World} {base e size n b2 e2 s2 n2 : Nat} {v v2 : Value} {xs x2 : List Value} (h : LooseRow w base e size v n xs) (h2 : w.ownsRow b2 e2 s2 v2 n2 x2) (hne : e ≠ e2) (hk : Kept w w' (fun b => v2.ownBlock = some b)) : LooseRow w' base e size v n xs := by
  rcases h with h | h
  · exact .inl h
  · exact .inr (hk.own h (fun g hg e' => own_apart h h2 hne g hg e'))
/-- A handle more behind the others. -/
theorem ASit.app {w wr w9 : World} {cb n c a k : Nat} {ao : Option Addr} {vl v' : Value} {f' : Nat → Int × Int} {f : Nat → Int × Int} (h : ASit w wr cb ao n c a vl k) (hl : Low w cb ao n) (hown : wr.ownsRow (w.heap.size + 2) 30 2 vl k (handList f k)) (hg : wr.grownBy w9 vl.ownBlock) (ho : w9.ownsRow (w.heap.size + 2) 30 2 v' (k + 1) (handList f' (k + 1))) : ASit w w9 cb ao n c a v' (k + 1) := by
  have hk : Kept wr w9 (fun b => vl.ownBlock = some b) := ⟨hg.os, hg.tape, hg.output, hg.size, fun i hi hn => hg.block i hi (fun e => hn e.symm)⟩
  obtain ⟨⟨s, t, h1, h2⟩, h3, h4, _, h6⟩ := h
  obtain ⟨ao', bo', n', m', d1, d2, A, U, V, F, rfl, rfl, g1, g2, g3, g4⟩ := h2
  refine ⟨⟨_, _, hk.blk h1 (row_no_box hown h1 (by decide)), ao', bo', n', m', d1, d2, A, U, V, F, rfl, rfl, g1, g2, g3.apart hown (by decide) hk, g4.apart hown (by decide) hk⟩, hk.blk h3 (row_no_box hown h3 (by decide)), h4.apart hl hk (fun b e => by have := (hown.lt b e).1; omega), ⟨f', ho⟩, ?_⟩
  exact ⟨hk.os.trans h6.os, hk.tape.trans h6.tape, hk.output.trans h6.output, Nat.le_trans h6.size hk.size, fun i hi hn => (hk.block i (Nat.lt_of_lt_of_le hi h6.size) (fun e => by have := (hown.lt i e).1; omega)).trans (h6.block i hi hn)⟩

theorem blk_ne {w : World} {a b t1 t2 : Nat} {c1 c2 : Array Value} (h1 : w.heap[a]? = some (.cells c1 t1 (0, 0))) (h2 : w.heap[b]? = some (.cells c2 t2 (0, 0))) (hne : t1 ≠ t2) : ¬ a = b := by
  intro e
  subst e
  rw [h1] at h2
  simp at h2
  exact hne h2.2
theorem arn_end {w3 wx : World} {cz base : Nat} {s t : Value} {P : Prop} (h : P → ArnIs w3 cz 20 s t) (hk : Kept w3 wx (fun b => b < cz)) (hb : base ≤ cz) : P → ArnIs wx base 20 s t := fun e => ((h e).kept hk (fun _ h => h)).base hb
theorem Kept.setS {w w' : World} {S : Nat → Prop} (h : Kept w w' S) {b i : Nat} (hb : S b) (u : Value) : Kept w (w'.setCell ⟨b, i, none⟩ u) S := h.set (a := ⟨b, i, none⟩) hb u
theorem cur_end {w w2 wx : World} {B cb n c a : Nat} {ao : Option Addr} (h : CurIs w2 cb ao n c a) (hl : Low w cb ao n) (hk : Kept w2 wx (fun b => B ≤ b)) (hB : w.heap.size ≤ B) : CurIs wx cb ao n c a := h.apart hl hk (fun _ h => Nat.le_trans hB h)

theorem ArnIs.boxT {w w' : World} {base z xb tt : Nat} {s t : Value} {cs : Array Value} (h : ArnIs w base z s t) (hx : w.heap[xb]? = some (.cells cs tt (0, 0))) (h1 : 106 ≠ tt) (h2 : 3 ≠ tt) (hk : Kept w w' (fun b => b = xb)) : ArnIs w' base z s t := by
  obtain ⟨ao, bo, n, m, d1, d2, A, U, V, F, rfl, rfl, g1, g2, g3, g4⟩ := h
  exact ⟨ao, bo, n, m, d1, d2, A, U, V, F, rfl, rfl, g1, g2, g3.box hx h1 hk, g4.box hx h2 hk⟩
theorem kept_two (w : World) (b : Nat) (u v : Value) : Kept w ((w.setCell ⟨b, 0, none⟩ u).setCell ⟨b, 1, none⟩ v) (fun x => x = b) := ((Kept.refl w (fun x => x = b)).setS rfl u).setS rfl v
/-- Where the put was made: the world ahead of the region, the cursor's, and the one behind the put. -/
structure PutAt (w W w2 w3 : World) (cb : Nat) (ao : Option Addr) (n c a a' : Nat) (vl : Value) (k : Nat) (code : Int) (s t : Value) : Prop where
  sit : ASit w W cb ao n c a vl k
  low : Low w cb ao n
  cur : CurIs w2 cb ao n c a'
  kept : Kept W w2 (fun b => b = cb)
  bel : Below w2.heap.size w2 w3
  arn : code = 0 → ArnIs w3 (w.heap.size + 2) 20 s t
theorem PutAt.size {w W w2 w3 : World} {cb n c a a' k : Nat} {ao : Option Addr} {vl s t : Value} {code : Int} (p : PutAt w W w2 w3 cb ao n c a a' vl k code s t) : w.heap.size + 2 ≤ W.heap.size ∧ W.heap.size ≤ w2.heap.size ∧ w2.heap.size ≤ w3.heap.size := by
  obtain ⟨s', t', h1, _⟩ := p.sit.ex
  have := blk_lt h1
  exact ⟨by omega, p.kept.size, p.bel.size⟩
theorem cutP_mk {w W w2 w3 wx : World} {cb n c a a' k xa ya : Nat} {ao : Option Addr} {vl s t : Value} {code x y : Int} (p : PutAt w W w2 w3 cb ao n c a a' vl k code s t) (hx2 : Kept w2 wx (fun b => W.heap.size ≤ b)) (hxW : Kept W wx (fun b => b = cb))
    (bA : wx.heap[xa]? = some (.cells #[s, t] 26 (0, 0))) (bH : wx.heap[ya]? = some (.cells #[.int .i64 x, .int .i64 y] 30 (0, 0))) (ha : W.heap.size ≤ xa) (hh : W.heap.size ≤ ya) (hr : code = 0 → ArnIs wx (w.heap.size + 2) 20 s t) :
    CutP w wx cb ao n c a' vl k (.pointer (some ⟨xa, 0, none⟩)) (.pointer (some ⟨ya, 0, none⟩)) (.int .i64 code) := by
  have := p.size
  exact ⟨p.sit.on p.low (cur_end p.cur p.low hx2 (by omega)) hxW, xa, ya, s, t, x, y, code, rfl, rfl, rfl, bA, bH, by omega, by omega, hr⟩
theorem cutP_1 {w W w2 w3 : World} {cb n c a a' k : Nat} {ao : Option Addr} {vl s t : Value} {code x y : Int} (p : PutAt w W w2 w3 cb ao n c a a' vl k code s t) :
    CutP w ((w3.alloc (.cells #[s, t] 26)).alloc (.cells #[.int .i64 x, .int .i64 y] 30)) cb ao n c a' vl k (.pointer (some ⟨w3.heap.size, 0, none⟩)) (.pointer (some ⟨w3.heap.size + 1, 0, none⟩)) (.int .i64 code) := by
  have := p.size
  exact cutP_mk p (((Kept.of_below p.bel).more _).more _) (((p.kept.trans (Kept.of_below p.bel)).more _).more _) (blk_alloc (heap_alloc_new w3 _) _) (new2 w3 _ _) (by omega) (by omega) (fun e => (p.arn e).below (push (push (Below.refl _ _) _) _))
theorem cutP_2 {w W w2 w3 : World} {cb n c a a' k : Nat} {ao : Option Addr} {vl s t : Value} {code x y : Int} (p : PutAt w W w2 w3 cb ao n c a a' vl k code s t) :
    CutP w ((w3.alloc (.cells #[.int .i64 x, .int .i64 y] 30)).alloc (.cells #[s, t] 26)) cb ao n c a' vl k (.pointer (some ⟨w3.heap.size + 1, 0, none⟩)) (.pointer (some ⟨w3.heap.size, 0, none⟩)) (.int .i64 code) := by
  have := p.size
  exact cutP_mk p (((Kept.of_below p.bel).more _).more _) (((p.kept.trans (Kept.of_below p.bel)).more _).more _) (new2 w3 _ _) (blk_alloc (heap_alloc_new w3 _) _) (by omega) (by omega) (fun e => (p.arn e).below (push (push (Below.refl _ _) _) _))
theorem cutP_3 {w W w2 w3 : World} {cb n c a a' k xa : Nat} {ao : Option Addr} {vl s t z1 z2 : Value} {code x y : Int} (p : PutAt w W w2 w3 cb ao n c a a' vl k code s t) (hA : w3.heap[xa]? = some (.cells #[z1, z2] 26 (0, 0))) (ha : W.heap.size ≤ xa) :
    CutP w (((((w3.alloc (.cells #[.int .i64 0, .int .i64 0] 30)).setCell ⟨xa, 0, none⟩ s).setCell ⟨xa, 1, none⟩ t).setCell ⟨w3.heap.size, 0, none⟩ (.int .i64 x)).setCell ⟨w3.heap.size, 1, none⟩ (.int .i64 y)) cb ao n c a' vl k (.pointer (some ⟨xa, 0, none⟩)) (.pointer (some ⟨w3.heap.size, 0, none⟩)) (.int .i64 code) := by
  have := p.size
  have hlt := blk_lt hA
  have b1 := two_set (blk_alloc hA (.cells #[.int .i64 0, .int .i64 0] 30)) s t
  have b2 := blk_set_other (blk_set_other (heap_alloc_new w3 (.cells #[.int .i64 0, .int .i64 0] 30)) 0 s (show w3.heap.size ≠ xa by omega)) 1 t (show w3.heap.size ≠ xa by omega)
  exact cutP_mk p (((((Kept.of_below p.bel).more _).setS ha _).setS ha _).setS (by omega) _ |>.setS (by omega) _) (((((p.kept.trans (Kept.of_below p.bel)).more _).far ha _).far ha _).far (by omega) _ |>.far (by omega) _)
    (blk_set_other (blk_set_other b1 _ _ (by omega)) _ _ (by omega)) (two_set b2 _ _) ha (by omega)
    (fun e => (((p.arn e).below (push (Below.refl _ _) _)).boxT (blk_alloc hA _) (by decide) (by decide) (kept_two _ _ _ _)).boxT b2 (by decide) (by decide) (kept_two _ _ _ _))
theorem cutP_4 {w W w2 w3 : World} {cb n c a a' k xa ya : Nat} {ao : Option Addr} {vl s t z1 z2 z3 z4 : Value} {code x y : Int} (p : PutAt w W w2 w3 cb ao n c a a' vl k code s t) (hA : w3.heap[xa]? = some (.cells #[z1, z2] 26 (0, 0))) (ha : W.heap.size ≤ xa) (hH : w3.heap[ya]? = some (.cells #[z3, z4] 30 (0, 0))) (hh : W.heap.size ≤ ya) :
    CutP w ((((w3.setCell ⟨xa, 0, none⟩ s).setCell ⟨xa, 1, none⟩ t).setCell ⟨ya, 0, none⟩ (.int .i64 x)).setCell ⟨ya, 1, none⟩ (.int .i64 y)) cb ao n c a' vl k (.pointer (some ⟨xa, 0, none⟩)) (.pointer (some ⟨ya, 0, none⟩)) (.int .i64 code) := by
  have := p.size
  have hne := blk_ne hA hH (by decide)
  have b1 := two_set hA s t
  have b2 := blk_set_other (blk_set_other hH 0 s (show ya ≠ xa by omega)) 1 t (show ya ≠ xa by omega)
  exact cutP_mk p (((((Kept.of_below p.bel).setS ha _).setS ha _).setS hh _).setS hh _) (((((p.kept.trans (Kept.of_below p.bel)).far ha _).far ha _).far hh _).far hh _)
    (blk_set_other (blk_set_other b1 _ _ (by omega)) _ _ (by omega)) (two_set b2 _ _) ha hh
    (fun e => ((p.arn e).boxT hA (by decide) (by decide) (kept_two _ _ _ _)).boxT b2 (by decide) (by decide) (kept_two _ _ _ _))
theorem cutP_5 {w W w2 w3 : World} {cb n c a a' k ya : Nat} {ao : Option Addr} {vl s t z3 z4 : Value} {code x y : Int} (p : PutAt w W w2 w3 cb ao n c a a' vl k code s t) (hH : w3.heap[ya]? = some (.cells #[z3, z4] 30 (0, 0))) (hh : W.heap.size ≤ ya) :
    CutP w (((w3.alloc (.cells #[s, t] 26)).setCell ⟨ya, 0, none⟩ (.int .i64 x)).setCell ⟨ya, 1, none⟩ (.int .i64 y)) cb ao n c a' vl k (.pointer (some ⟨w3.heap.size, 0, none⟩)) (.pointer (some ⟨ya, 0, none⟩)) (.int .i64 code) := by
  have := p.size
  have hlt := blk_lt hH
  exact cutP_mk p ((((Kept.of_below p.bel).more _).setS hh _).setS hh _) ((((p.kept.trans (Kept.of_below p.bel)).more _).far hh _).far hh _)
    (blk_set_other (blk_set_other (heap_alloc_new w3 _) _ _ (by omega)) _ _ (by omega)) (two_set (blk_alloc hH _) _ _) (by omega) hh
    (fun e => ((p.arn e).below (push (Below.refl _ _) _)).boxT (blk_alloc hH _) (by decide) (by decide) (kept_two _ _ _ _))

end Go.Proofs.Ytclcjnbjpelcjaa
