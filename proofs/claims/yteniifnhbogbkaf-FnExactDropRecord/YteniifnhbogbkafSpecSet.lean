/-
  OWN TEXT: the contract of spec.SetRecord.
-/
import Derived.Test.YteniifnhbogbkafGet
import Derived.Test.YteniifnhbogbkafOwn1
import Derived.Test.YteniifnhbogbkafPlain4
namespace Go.Proofs.Yteniifnhbogbkaf
open Go.RowKit

/-- The lists of an answer, as a reader may read them. -/
def OutRows (w : World) (base : Nat) (v1 v2 : Value) (o : Out) : Prop :=
  SpecRow w base 52 3 v1 o.n (slotList o.A o.U o.V o.n) ∧ SpecRow w base 3 1 v2 o.m (intList o.F o.m)

theorem spec_value {w : World} {base e n c g q : Nat} {A : Nat → Int} {U : Nat → Bool} {V : Nat → Int} {u : Int} (h : w.ownsRow base e 3 (.slice (some ⟨g, 0, none⟩) n c) n (slotList A U V n)) :
    (w.setCell ⟨g, q * 3 + 2, none⟩ (.int .i64 u)).ownsRow base e 3 (.slice (some ⟨g, 0, none⟩) n c) n (slotList A U (put V q u) n) := by
  refine own_congr (own_store h (q * 3 + 2) _) fun j _ => ?_
  by_cases h2 : j = q * 3 + 2
  · subst h2; rw [if_pos rfl, slotCell_2, put_at]
  · rw [if_neg h2]
    unfold slotCell
    by_cases e2 : j % 3 = 2
    · rw [if_neg (by omega), if_neg (by omega), if_neg (by omega), if_neg (by omega), put_ne _ _ _ _ (by omega)]
    · by_cases e0 : j % 3 = 0
      · rw [if_pos e0, if_pos e0]
      · rw [if_neg e0, if_neg e0, if_pos (by omega), if_pos (by omega)]

theorem SpecRow.far {w : World} {b1 e1 s1 n1 c1 b2 e2 s2 n g : Nat} {v : Value} {x1 xs : List Value} (h : SpecRow w b2 e2 s2 v n xs) (h1 : w.ownsRow b1 e1 s1 (.slice (some ⟨g, 0, none⟩) n1 c1) n1 x1) (hne : e1 ≠ e2) (j : Nat) (u : Value) : SpecRow (w.setCell ⟨g, j, none⟩ u) b2 e2 s2 v n xs := by
  rcases h with h | ⟨h0, h2⟩
  · exact .inl h
  · exact .inr ⟨h0, ((Kept.refl w (fun b => b = g)).set (a := ⟨g, j, none⟩) rfl u).own h2 (fun b hb e => own_apart h1 h2 hne g rfl (e ▸ hb))⟩

set_option maxHeartbeats 1600000 in
theorem specSet_any (ao bo : Option Addr) (n m c1 c2 : Nat) (A : Nat → Int) (U : Nat → Bool) (V F : Nat → Int) (x a u : Int) (w : World) (hn : n ≤ 1048576) (hm : m ≤ 1048576) (hcap : m ≤ c2) (hc2 : c2 ≤ 1000000000000000) (hn1 : ao = none → n = 0 ∧ c1 = 0) (hn2 : bo = none → m = 0 ∧ c2 = 0)
    (hx : SlotsAt w ao n A U V) (hy : IntsAt w bo m F) :
    Calls Try.prog 13 #[.agg #[.slice ao n c1, .slice bo m c2], .agg #[.int .i64 x, .int .i64 a], .int .i64 u] w fun e w' => ∃ ao' bo' d1 d2 o, e = .returned (.tuple #[.agg #[.slice ao' o.n d1, .slice bo' o.m d2], .int .i64 o.c]) ∧
      OutRows w' w.heap.size (.slice ao' o.n d1) (.slice bo' o.m d2) o ∧ Answers (Good n m A U V F) (setOut n m A U V F x a u) o ∧ Below w.heap.size w w' := by
  have h0 : Below w.heap.size w (((w.alloc (.cells #[.slice ao n c1, .slice bo m c2] 33)).alloc (.cells #[.int .i64 x, .int .i64 a] 35)).alloc (.cells #[.slice none 0 0, .slice none 0 0] 33)) := push (push (push (Below.refl _ _) _) _) _
  have hA0 : (((w.alloc (.cells #[.slice ao n c1, .slice bo m c2] 33)).alloc (.cells #[.int .i64 x, .int .i64 a] 35)).alloc (.cells #[.slice none 0 0, .slice none 0 0] 33)).heap[w.heap.size]? = some (.cells #[.slice ao n c1, .slice bo m c2] 33 (0, 0)) := blk_alloc (blk_alloc (heap_alloc_new w _) _) _
  have hH0 : (((w.alloc (.cells #[.slice ao n c1, .slice bo m c2] 33)).alloc (.cells #[.int .i64 x, .int .i64 a] 35)).alloc (.cells #[.slice none 0 0, .slice none 0 0] 33)).heap[w.heap.size + 1]? = some (.cells #[.int .i64 x, .int .i64 a] 35 (0, 0)) := blk_alloc (by simpa using heap_alloc_new (w.alloc _) _) _
  have hR0 : (((w.alloc (.cells #[.slice ao n c1, .slice bo m c2] 33)).alloc (.cells #[.int .i64 x, .int .i64 a] 35)).alloc (.cells #[.slice none 0 0, .slice none 0 0] 33)).heap[w.heap.size + 1 + 1]? = some (.cells #[.slice none 0 0, .slice none 0 0] 33 (0, 0)) := by simpa using heap_alloc_new ((w.alloc _).alloc _) _
  go_enter Try.func13, Try.ntmps13
  go_wp2_with fail
  refine (l1Fault_any ao bo n m c1 c2 A U V F x a _ hn hm hcap hc2 (hx.below h0) (hy.below h0)).mono ?_
  rintro e w1 ⟨c, rfl, hg, hng, hb1⟩
  have hbw1 := after h0 hb1
  have hA1 := blk_below hA0 hb1
  have hH1 := blk_below hH0 hb1
  have hR1 := blk_below hR0 hb1
  clear h0 hA0 hH0 hR0 hb1
  by_cases hgood : Good n m A U V F
  · obtain rfl : c = faultOf n A U x a := hg hgood
    have HG : Hid (Good n m A U V F) := hgood
    clear hg hng hgood
    have hf1 := fault_lo n A U x a
    have e1 : (faultOf n A U x a == 1) = false := by simpa using hf1.1
    have q0 := blk_cell hA1 0 _ rfl
    have q1 := blk_cell hA1 1 _ rfl
    go_wp2_with fail
    refine (l1Own_any ao bo n m c1 c2 A U V F _ hn hm hn1 hn2 (hx.below hbw1) (hy.below hbw1)).mono ?_
    rintro e w2 ⟨ao', bo', d1, d2, rfl, hd1, hd2, _, p1, p2, hb2⟩
    have hbw2 := after hbw1 hb2
    have hA2 := blk_below hA1 hb2
    have hH2 := blk_below hH1 hb2
    have hR2 := blk_below hR1 hb2
    have hlt := blk_lt hR1
    clear hA1 hH1 hR1 hb2 hbw1 q0 q1
    have y0 := blk_cell hA2 0 _ rfl
    have y1 := blk_cell hA2 1 _ rfl
    have y2 := blk_free hA2 0
    have y3 := blk_free hA2 1
    have y4 := blk_cell hH2 0 _ rfl
    have y5 := blk_cell hR2 0 _ rfl
    have y6 := blk_cell hR2 1 _ rfl
    have y7 := blk_free hR2 0
    have y8 := blk_free hR2 1
    by_cases hf : faultOf n A U x a = 0
    · have HO : Hid (setOut n m A U V F x a u = ⟨n, m, A, U, put V x.toNat u, F, 0⟩) := by unfold Hid setOut; rw [if_pos hf, hf]
      have ef : (faultOf n A U x a == 0) = true := by simpa using hf
      obtain ⟨q, rfl, hq, _, _⟩ := fault_zero hf
      have hqn : (q : Int) < (n : Int) := by omega
      rcases p1 with ⟨hz, _⟩ | ⟨_, p1⟩
      · omega
      obtain ⟨g, rfl, hg1, hg2⟩ := own_addr p1 (by omega)
      have s2 := own_cell p1 (q * 3 + 2) (by omega) rfl
      have sf := p1.frozenAt (q * 3 + 2)
      have n1 : ¬ (g = w.heap.size) := by omega
      have n2 : ¬ (g = w.heap.size + 1) := by omega
      have n3 : ¬ (g = w.heap.size + 1 + 1) := by omega
      go_wp2
      have rF := blk_set (blk_set (blk_set_other (blk_set_other (blk_set_other hR2 0 (.slice (some ⟨g, 0, none⟩) n d1) (b' := w.heap.size) (by omega)) 1 (.slice bo' m d2) (b' := w.heap.size) (by omega)) (q * 3 + 2) (.int .i64 u) (b' := g) (by omega)) 0 (.slice (some ⟨g, 0, none⟩) n d1)) 1 (.slice bo' m d2)
      have z0 := blk_cell rF 0 _ rfl
      have z1 := blk_cell rF 1 _ rfl
      have k1 := own_set (own_set p1 (a := ⟨w.heap.size, 0, none⟩) (by show w.heap.size < _; omega) (.slice (some ⟨g, 0, none⟩) n d1)) (a := ⟨w.heap.size, 1, none⟩) (by show w.heap.size < _; omega) (.slice bo' m d2)
      have k2 := SpecRow.set (SpecRow.set p2 (a := ⟨w.heap.size, 0, none⟩) (by show w.heap.size < _; omega) (.slice (some ⟨g, 0, none⟩) n d1)) (a := ⟨w.heap.size, 1, none⟩) (by show w.heap.size < _; omega) (.slice bo' m d2)
      have k3 := SpecRow.far k2 k1 (by decide) (q * 3 + 2) (.int .i64 u)
      have k4 := spec_value (q := q) (u := u) k1
      refine bodyPost_ret (v := .tuple #[.agg #[.slice (some ⟨g, 0, none⟩) n d1, .slice bo' m d2], .int .i64 0]) (by simp [results, Try.results13, go_sem, z0, z1]) rfl ⟨some ⟨g, 0, none⟩, bo', d1, d2, ⟨n, m, A, U, put V q u, F, 0⟩, rfl, ⟨.inr ⟨by show 0 < n; omega, ?_⟩, ?_⟩, ⟨fun _ => by rw [HO.out, Int.toNat_natCast], fun h => absurd HG.out h⟩, ?_⟩
      · exact own_base (own_set (own_set k4 (by show w.heap.size + 1 + 1 < _; omega) _) (by show w.heap.size + 1 + 1 < _; omega) _) (by have := hbw2.size; omega)
      · exact SpecRow.base (SpecRow.set (SpecRow.set k3 (by show w.heap.size + 1 + 1 < _; omega) _) (by show w.heap.size + 1 + 1 < _; omega) _) (by omega)
      · exact ((((hbw2.setCell (by show w.heap.size ≤ w.heap.size; omega) _).setCell (by show w.heap.size ≤ w.heap.size; omega) _).setCell (by show w.heap.size ≤ g; omega) _).setCell (by show w.heap.size ≤ w.heap.size + 1 + 1; omega) _).setCell (by show w.heap.size ≤ w.heap.size + 1 + 1; omega) _
    · have HO : Hid (setOut n m A U V F x a u = ⟨n, m, A, U, V, F, faultOf n A U x a⟩) := by unfold Hid setOut; rw [if_neg hf]
      have ef : (faultOf n A U x a == 0) = false := by simpa using hf
      go_wp2
      have rF := blk_set (blk_set (blk_set_other (blk_set_other hR2 0 (.slice ao' n d1) (b' := w.heap.size) (by omega)) 1 (.slice bo' m d2) (b' := w.heap.size) (by omega)) 0 (.slice ao' n d1)) 1 (.slice bo' m d2)
      have z0 := blk_cell rF 0 _ rfl
      have z1 := blk_cell rF 1 _ rfl
      have k1 := SpecRow.set (SpecRow.set p1 (a := ⟨w.heap.size, 0, none⟩) (by show w.heap.size < _; omega) (.slice ao' n d1)) (a := ⟨w.heap.size, 1, none⟩) (by show w.heap.size < _; omega) (.slice bo' m d2)
      have k2 := SpecRow.set (SpecRow.set p2 (a := ⟨w.heap.size, 0, none⟩) (by show w.heap.size < _; omega) (.slice ao' n d1)) (a := ⟨w.heap.size, 1, none⟩) (by show w.heap.size < _; omega) (.slice bo' m d2)
      refine bodyPost_ret (v := .tuple #[.agg #[.slice ao' n d1, .slice bo' m d2], .int .i64 (faultOf n A U x a)]) (by simp [results, Try.results13, go_sem, z0, z1]) rfl ⟨ao', bo', d1, d2, ⟨n, m, A, U, V, F, faultOf n A U x a⟩, rfl, ⟨?_, ?_⟩, ⟨fun _ => by rw [HO.out], fun h => absurd HG.out h⟩, ?_⟩
      · exact SpecRow.base (SpecRow.set (SpecRow.set k1 (by show w.heap.size + 1 + 1 < _; omega) _) (by show w.heap.size + 1 + 1 < _; omega) _) (by omega)
      · exact SpecRow.base (SpecRow.set (SpecRow.set k2 (by show w.heap.size + 1 + 1 < _; omega) _) (by show w.heap.size + 1 + 1 < _; omega) _) (by omega)
      · exact (((hbw2.setCell (by show w.heap.size ≤ w.heap.size; omega) _).setCell (by show w.heap.size ≤ w.heap.size; omega) _).setCell (by show w.heap.size ≤ w.heap.size + 1 + 1; omega) _).setCell (by show w.heap.size ≤ w.heap.size + 1 + 1; omega) _
  · obtain rfl : c = 1 := hng hgood
    have HG : Hid (¬ Good n m A U V F) := hgood
    clear hg hng hgood
    have y5 := blk_cell hR1 0 _ rfl
    have y6 := blk_cell hR1 1 _ rfl
    have y7 := blk_free hR1 0
    have y8 := blk_free hR1 1
    go_wp2
    have rF := blk_set (blk_set hR1 0 (.slice none 0 0)) 1 (.slice none 0 0)
    have z0 := blk_cell rF 0 _ rfl
    have z1 := blk_cell rF 1 _ rfl
    exact bodyPost_ret (v := .tuple #[.agg #[.slice none 0 0, .slice none 0 0], .int .i64 1]) (by simp [results, Try.results13, go_sem, z0, z1]) rfl ⟨none, none, 0, 0, badOut, rfl, ⟨.inl ⟨rfl, _, rfl⟩, .inl ⟨rfl, _, rfl⟩⟩, ⟨fun h => absurd h HG.out, fun _ => rfl⟩, (hbw1.setCell (by show w.heap.size ≤ w.heap.size + 1 + 1; omega) _).setCell (by show w.heap.size ≤ w.heap.size + 1 + 1; omega) _⟩

end Go.Proofs.Yteniifnhbogbkaf
