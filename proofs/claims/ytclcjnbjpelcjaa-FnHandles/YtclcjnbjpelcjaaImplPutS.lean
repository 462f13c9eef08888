/-
  OWN TEXT: the contract of store.put.
-/
import Derived.Test.YtclcjnbjpelcjaaImplTake
namespace Go.Proofs.Ytclcjnbjpelcjaa
open Go.RowKit

/-- A box is no head of a row of another element type. -/
theorem box_apart {w : World} {G t base e size n c : Nat} {cs : Array Value} {ao : Option Addr} {xs : List Value} (hG : w.heap[G]? = some (.cells cs t (0, 0))) (h : w.ownsRow base e size (.slice ao n c) n xs) (hne : e ≠ t) : ¬ headOf ao G := by
  rintro ⟨g, rfl, rfl⟩
  rcases h.2 with ⟨h0, _⟩ | ⟨g', cap, cur, h0, _, hg, _⟩
  · cases h0
  · simp only [Value.slice.injEq, Option.some.injEq, Addr.mk.injEq, and_true, true_and] at h0
    obtain ⟨rfl, rfl⟩ := h0
    rw [hG] at hg
    simp at hg
    exact hne hg.2.symm
theorem kept_fresh {w w' : World} {S : Nat → Prop} (h : Kept w w' S) {a : Addr} (ha : w.heap.size ≤ a.block) (u : Value) : Kept w (w'.setCell a u) S :=
  ⟨h.os, h.tape, h.output, by simpa using h.size, fun k hk hs => (Below.heap_setCell _ _ _ _ (by omega)).trans (h.block k hk hs)⟩
/-- The end of store.put: the handle is moved into its box. -/
theorem store_end {sb base : Nat} {ao bo ao1 bo1 : Option Addr} {d1 d2 : Nat} {o : Out} {w W : World} {x1 x2 : Value} (v1 v2 : Value) (hR : W.heap[w.heap.size]? = some (.cells #[x1, x2] 30 (0, 0))) (hsl : sb < w.heap.size)
    (hS : W.heap[sb]? = some (.cells #[.slice ao1 o.n d1, .slice bo1 o.m d2] 97 (0, 0))) (o1 : W.ownsRow base 184 3 (.slice ao1 o.n d1) o.n (slotList o.A o.U o.V o.n)) (o2 : W.ownsRow base 3 1 (.slice bo1 o.m d2) o.m (intList o.F o.m)) (hk : Kept w W (fun b => b = sb ∨ headsOf ao bo b)) (hap : ¬ headsOf ao1 bo1 sb) (hin : ∀ b, headsOf ao1 bo1 b → b < w.heap.size → headsOf ao bo b) (Fw : World) (hF : (W.setCell ⟨w.heap.size, 0, none⟩ v1).setCell ⟨w.heap.size, 1, none⟩ v2 = Fw) :
    Fw.cell? ⟨w.heap.size, 0, none⟩ = some v1 ∧ Fw.cell? ⟨w.heap.size, 1, none⟩ = some v2 ∧ StoreDone sb base ao bo o w Fw := by
  subst hF
  have rF := blk_set (blk_set hR 0 v1) 1 v2
  have hk2 := ((Kept.refl W (fun b => b = w.heap.size)).set (a := ⟨w.heap.size, 0, none⟩) rfl v1).set (a := ⟨w.heap.size, 1, none⟩) rfl v2
  exact ⟨blk_cell rF 0 _ rfl, blk_cell rF 1 _ rfl, ao1, bo1, d1, d2, hk2.blk hS (by omega), hk2.own o1 (fun b hb e => box_apart hR o1 (by decide) (e ▸ own_head rfl o1 hb)), hk2.own o2 (fun b hb e => box_apart hR o2 (by decide) (e ▸ own_head rfl o2 hb)), kept_fresh (kept_fresh hk (by show w.heap.size ≤ w.heap.size; omega) _) (by show w.heap.size ≤ w.heap.size; omega) _, hap, hin⟩

set_option maxHeartbeats 1600000 in
set_option maxRecDepth 100000 in
theorem put_any (sb base : Nat) (ao bo : Option Addr) (n m c1 c2 : Nat) (A : Nat → Int) (U : Nat → Bool) (V F : Nat → Int) (u : Int) (w : World) (hgood : Good n m A U V F)
    (hS : w.heap[sb]? = some (.cells #[.slice ao n c1, .slice bo m c2] 97 (0, 0))) (ho : w.ownsRow base 184 3 (.slice ao n c1) n (slotList A U V n)) (ho' : w.ownsRow base 3 1 (.slice bo m c2) m (intList F m)) (hbase : base ≤ w.heap.size) (hap : ¬ headsOf ao bo sb) :
    Calls Try.prog 48 #[.pointer (some ⟨sb, 0, none⟩), .int .i64 u] w fun e w' => e = .returned (.tuple #[.agg #[.int .i64 (putOut n m A U V F u).2.1, .int .i64 (putOut n m A U V F u).2.2], .int .i64 (putOut n m A U V F u).1.c]) ∧ StoreDone sb base ao bo (putOut n m A U V F u).1 w w' := by
  have hR0 := heap_alloc_new w (.cells #[.int .i64 0, .int .i64 0] 30)
  have hsl := blk_lt hS
  have HG : Hid (Good n m A U V F) := hgood
  have hfw := take_few hgood
  clear hgood
  go_enter Try.func48, Try.ntmps48
  go_wp2_with fail
  refine (takeFree_any sb base ao bo n m c1 c2 A U V F _ HG.out (blk_alloc hS _) (ho.alloc _) (ho'.alloc _) (by simp; omega) hap).mono ?_
  obtain ⟨⟨t, x, ok⟩, ht⟩ : ∃ t, takeOut n m A U V F = t := ⟨_, rfl⟩
  rw [ht] at hfw ⊢
  rintro e w1 ⟨rfl, ao1, bo1, d1, d2, hS1, o1, o2, hk1, hap1, hin1⟩
  dsimp only at hS1 o1 o2 hfw
  have HT : Hid (takeOut n m A U V F = (t, x, ok)) := ht
  have HK : Hid (∀ b, headsOf ao1 bo1 b → b < w.heap.size → headsOf ao bo b) := fun b h hb => hin1 b h (by simp; omega)
  have HB : Hid (∀ b, headsOf ao bo b → b < w.heap.size) := fun b h => by rcases h with h | h; exact (head_ge ho b h).2; exact (head_ge ho' b h).2
  have hR1 := hk1.blk hR0 (by rintro (h | h); omega; have := HB.out _ h; omega)
  have hkw : Kept w w1 (fun b => b = sb ∨ headsOf ao bo b) := (Kept.of_below (push (Below.refl _ w) _)).trans hk1
  clear ht hin1 hk1 hR0 hS ho ho' hap
  cases ok with
  | false =>
    have HO : Hid (putOut n m A U V F u = (⟨t.n, t.m, t.A, t.U, t.V, t.F, 2⟩, 0, 0)) := put_of_none HT.out
    have y0 := blk_cell hR1 0 _ rfl
    have y1 := blk_cell hR1 1 _ rfl
    have y2 := blk_free hR1 0
    have y3 := blk_free hR1 1
    go_wp2
    rw [HO.out]
    generalize hFw : (w1.setCell ⟨w.heap.size, 0, none⟩ (.int .i64 0)).setCell ⟨w.heap.size, 1, none⟩ (.int .i64 0) = Fw
    obtain ⟨z0, z1, hd⟩ := store_end (o := ⟨t.n, t.m, t.A, t.U, t.V, t.F, 2⟩) (.int .i64 0) (.int .i64 0) hR1 hsl hS1 o1 o2 hkw hap1 HK.out Fw hFw
    exact bodyPost_ret (v := .tuple #[.agg #[.int .i64 0, .int .i64 0], .int .i64 2]) (by simp [results, Try.results48, go_sem, z0, z1]) rfl ⟨rfl, hd⟩
  | true =>
    obtain ⟨q, rfl, hq, hout⟩ := put_of_take (u := u) HG.out HT.out
    have HO : Hid (putOut n m A U V F u = (⟨t.n, t.m, t.A, put t.U q true, put t.V q u, t.F, 0⟩, (q : Int), t.A q)) := hout
    clear hout
    obtain ⟨g, rfl, hg1, hg2⟩ := own_addr o1 (by omega)
    have y0 := blk_cell hS1 0 _ rfl
    have s1 := own_cell o1 (q * 3 + 1) (by omega) rfl
    have s2 := own_cell o1 (q * 3 + 2) (by omega) rfl
    have sf1 := o1.frozenAt (q * 3 + 1)
    have sf2 := o1.frozenAt (q * 3 + 2)
    have n1 : ¬ (sb = g) := fun e => hap1 (.inl ⟨g, rfl, e⟩)
    have hqn : (q : Int) < (t.n : Int) := by omega
    have hq0 : (0 : Int) ≤ (q : Int) := by omega
    have y1 := blk_cell hS1 1 _ rfl
    go_wp2_with fail
    have o3 := own_used (q := q) (u := u) o1
    have hk3 := ((Kept.refl w1 (headOf (some ⟨g, 0, none⟩))).set (a := ⟨g, q * 3 + 1, none⟩) ⟨g, rfl, rfl⟩ (.bool true)).set (a := ⟨g, q * 3 + 2, none⟩) ⟨g, rfl, rfl⟩ (.int .i64 u)
    have o4 := hk3.own o2 (fun b hb hs => heads_apart o1 o2 (by decide) b hs (own_head rfl o2 hb))
    have hS3 := hk3.blk hS1 (fun h => hap1 (.inl h))
    have hR3 := hk3.blk hR1 (box_apart hR1 o1 (by decide))
    have hkw3 : Kept w _ (fun b => b = sb ∨ headsOf ao bo b) := ⟨hk3.os.trans hkw.os, hk3.tape.trans hkw.tape, hk3.output.trans hkw.output, Nat.le_trans hkw.size hk3.size, fun k hk hs => (hk3.block k (Nat.lt_of_lt_of_le hk hkw.size) (fun h => hs (.inr (HK.out k (.inl h) hk)))).trans (hkw.block k hk hs)⟩
    refine (handleOf_is _ bo1 t.n t.m d1 d2 q t.A _ _ _ hq (own_slots o3)).mono ?_
    rintro e w4 ⟨rfl, hb4⟩
    have o5 := own_below hb4 o3
    have o6 := own_below hb4 o4
    have hS4 := blk_below hS3 hb4
    have hR4 := blk_below hR3 hb4
    have hkw4 := hkw3.trans (Kept.of_below hb4)
    clear o1 o2 o3 o4 hk3 hS1 hS3 hR1 hR3 hkw hkw3 hb4 y0 y1 s1 s2 sf1 sf2
    have y0 := blk_cell hR4 0 _ rfl
    have y1 := blk_cell hR4 1 _ rfl
    have y2 := blk_free hR4 0
    have y3 := blk_free hR4 1
    go_wp2
    rw [HO.out]
    generalize hFw : (w4.setCell ⟨w.heap.size, 0, none⟩ (.int .i64 (q : Int))).setCell ⟨w.heap.size, 1, none⟩ (.int .i64 (t.A q)) = Fw
    obtain ⟨z0, z1, hd⟩ := store_end (o := ⟨t.n, t.m, t.A, put t.U q true, put t.V q u, t.F, 0⟩) (.int .i64 (q : Int)) (.int .i64 (t.A q)) hR4 hsl hS4 o5 o6 hkw4 hap1 HK.out Fw hFw
    exact bodyPost_ret (v := .tuple #[.agg #[.int .i64 (q : Int), .int .i64 (t.A q)], .int .i64 0]) (by simp [results, Try.results48, go_sem, z0, z1]) rfl ⟨rfl, hd⟩

end Go.Proofs.Ytclcjnbjpelcjaa
