/-
  OWN TEXT: contracts of the laws' helpers over arenas: szArena, toArena, eqArena.
-/
import Derived.Test.YteniifnhbogbkaeSlots
namespace Go.Proofs.Yteniifnhbogbkae
open Go.RowKit

set_option maxHeartbeats 400000 in
theorem szArena_fits (ao bo : Option Addr) (n m c1 c2 : Nat) (L : Int) (w : World) (hL : L ≤ 1048576) (h : (n : Int) + m ≤ L) :
    Calls Try.prog 11 #[.agg #[.slice ao n c1, .slice bo m c2], .int .i64 L] w fun e w' => e = .returned (.int .i64 (L - n - m)) ∧ Below w.heap.size w w' := by
  go_enter Try.func11, Try.ntmps11
  go_wp2
  go_ret
  exact ⟨rfl, push (Below.refl _ _) _⟩

set_option maxHeartbeats 400000 in
theorem szArena_over (ao bo : Option Addr) (n m c1 c2 : Nat) (L : Int) (w : World) (h0 : 0 ≤ L) (hL : L ≤ 1048576) (hn : n ≤ 1000000000000000) (hm : m ≤ 1000000000000000) (h : L < (n : Int) + m) :
    Calls Try.prog 11 #[.agg #[.slice ao n c1, .slice bo m c2], .int .i64 L] w fun e w' => e = .returned (.int .i64 (-1)) ∧ Below w.heap.size w w' := by
  by_cases h1 : L < n
  · go_enter Try.func11, Try.ntmps11
    go_wp2
    go_ret
    exact ⟨rfl, push (Below.refl _ _) _⟩
  · go_enter Try.func11, Try.ntmps11
    go_wp2
    go_ret
    exact ⟨rfl, push (Below.refl _ _) _⟩

/-- An arena value whose lists read as these. -/
def ArenaAt (w : World) (v : Value) (n m : Nat) (A : Nat → Int) (U : Nat → Bool) (V F : Nat → Int) : Prop :=
  ∃ ao bo c1 c2, v = .agg #[.slice ao n c1, .slice bo m c2] ∧ SlotsAt w ao n A U V ∧ IntsAt w bo m F

set_option maxHeartbeats 400000 in
theorem toArena_any (ao bo : Option Addr) (n m c1 c2 : Nat) (A : Nat → Int) (U : Nat → Bool) (V F : Nat → Int) (w : World) (hn : n ≤ 1048576) (hm : m ≤ 1048576) (hx : SlotsAt w ao n A U V) (hy : IntsAt w bo m F) :
    Calls Try.prog 13 #[.agg #[.slice ao n c1, .slice bo m c2]] w fun e w' => ∃ g h, e = .returned (.agg #[.slice (some ⟨g, 0, none⟩) n n, .slice (some ⟨h, 0, none⟩) m m]) ∧ w.heap.size ≤ g ∧ w.heap.size ≤ h ∧ g ≠ h ∧
      w'.rowIs g 68 (n * 3) (slotCell A U V) ∧ w'.rowIs h 3 m (fun k => .int .i64 (F k)) ∧ Below w.heap.size w w' := by
  go_enter Try.func13, Try.ntmps13
  go_wp2_with fail
  have h0 : Below w.heap.size w (((w.alloc (.cells #[.slice ao n c1, .slice bo m c2] 34)).alloc (.cells #[.slice none 0 0, .slice none 0 0] 39)).alloc (.cells #[.slice none 0 0, .slice none 0 0] 39)) := push (push (push (Below.refl _ _) _) _) _
  refine (toSlotS_any ao n c1 A U V _ hn (hx.below h0)).mono ?_
  rintro e w1 ⟨g, rfl, hg, hrow, hb1⟩
  have a1 : w1.heap[w.heap.size]? = some (.cells #[.slice ao n c1, .slice bo m c2] 34 (0, 0)) := blk_below (blk_alloc (blk_alloc (heap_alloc_new w _) _) _) hb1
  have r1 : w1.heap[w.heap.size + 1]? = some (.cells #[.slice none 0 0, .slice none 0 0] 39 (0, 0)) := blk_below (blk_alloc (by simpa using heap_alloc_new (w.alloc _) _) _) hb1
  have o1 : w1.heap[w.heap.size + 1 + 1]? = some (.cells #[.slice none 0 0, .slice none 0 0] 39 (0, 0)) := blk_below (by simpa using heap_alloc_new ((w.alloc _).alloc _) _) hb1
  have hbw : Below w.heap.size w w1 := after h0 hb1
  simp only [World.size_alloc] at hg
  clear h0 hb1
  have q1 := blk_cell a1 1 _ rfl
  have q2 := blk_cell o1 0 _ rfl
  have q3 := blk_free o1 0
  go_wp2_with fail
  obtain ⟨W, hW⟩ : ∃ W, W = w1.setCell ⟨w.heap.size + 1 + 1, 0, none⟩ (.slice (some ⟨g, 0, none⟩) n n) := ⟨_, rfl⟩
  have r2 : W.heap[w.heap.size + 1]? = some (.cells #[.slice none 0 0, .slice none 0 0] 39 (0, 0)) := by rw [hW]; exact blk_set_other r1 _ _ (by omega)
  have o2 : W.heap[w.heap.size + 1 + 1]? = some (.cells #[.slice (some ⟨g, 0, none⟩) n n, .slice none 0 0] 39 (0, 0)) := by rw [hW]; exact blk_set o1 0 _
  have hrow2 : W.rowIs g 68 (n * 3) (slotCell A U V) := by rw [hW]; exact hrow.setOther (by show g ≠ w.heap.size + 1 + 1; omega) _
  have hbW : Below w.heap.size w W := by rw [hW]; exact hbw.setCell (by show w.heap.size ≤ w.heap.size + 1 + 1; omega) _
  rw [← hW]
  clear hW q1 q2 q3 hrow hbw a1 r1 o1
  refine (toIntS_any bo m c2 F _ hm (hy.below hbW)).mono ?_
  rintro e w2 ⟨g2, rfl, hg2, hrow3, hb2⟩
  have r3 := blk_below r2 hb2
  have o3 := blk_below o2 hb2
  have hrow4 := row_below hrow2 hb2
  have hbw2 := after hbW hb2
  have hne : g ≠ g2 := by have := hrow2.lt; omega
  have hge : w.heap.size + 1 + 1 + 1 ≤ g2 := by have := blk_lt o2; omega
  clear hb2 r2 o2 hrow2 hbW hg2
  have q1 := blk_cell o3 0 _ rfl
  have q2 := blk_cell o3 1 _ rfl
  have q3 := blk_free o3 1
  have q4 := blk_cell r3 0 _ rfl
  have q5 := blk_cell r3 1 _ rfl
  have q6 := blk_free r3 0
  have q7 := blk_free r3 1
  go_wp2
  have rF := blk_set (blk_set (blk_set_other r3 (b' := w.heap.size + 1 + 1) 1 (.slice (some ⟨g2, 0, none⟩) m m) (by omega)) 0 (.slice (some ⟨g, 0, none⟩) n n)) 1 (.slice (some ⟨g2, 0, none⟩) m m)
  have z0 := blk_cell rF 0 _ rfl
  have z1 := blk_cell rF 1 _ rfl
  clear q1 q2 q3 q4 q5 q6 q7
  refine bodyPost_ret (v := .agg #[.slice (some ⟨g, 0, none⟩) n n, .slice (some ⟨g2, 0, none⟩) m m]) (by simp [results, Try.results13, go_sem, z0, z1]) rfl ⟨g, g2, rfl, by omega, by omega, hne, ?_, ?_, ?_⟩
  · exact ((hrow4.setOther (by show g ≠ w.heap.size + 1 + 1; omega) _).setOther (by show g ≠ w.heap.size + 1; omega) _).setOther (by show g ≠ w.heap.size + 1; omega) _
  · exact ((hrow3.setOther (by show g2 ≠ w.heap.size + 1 + 1; omega) _).setOther (by show g2 ≠ w.heap.size + 1; omega) _).setOther (by show g2 ≠ w.heap.size + 1; omega) _
  · exact ((hbw2.setCell (by show w.heap.size ≤ w.heap.size + 1 + 1; omega) _).setCell (by show w.heap.size ≤ w.heap.size + 1; omega) _).setCell (by show w.heap.size ≤ w.heap.size + 1; omega) _

set_option maxHeartbeats 400000 in
theorem eqArena_same (ao bo ao' bo' : Option Addr) (n m c1 c2 c3 c4 : Nat) (A : Nat → Int) (U : Nat → Bool) (V F : Nat → Int) (w : World) (hn : n ≤ 1048576) (hm : m ≤ 1048576)
    (hx : SlotsAt w ao n A U V) (hy : IntsAt w bo m F) (hx' : SlotsAt w ao' n A U V) (hy' : IntsAt w bo' m F) :
    Calls Try.prog 15 #[.agg #[.slice ao n c1, .slice bo m c2], .agg #[.slice ao' n c3, .slice bo' m c4]] w fun e w' => e = .returned (.bool true) ∧ Below w.heap.size w w' := by
  have h0 : Below w.heap.size w ((w.alloc (.cells #[.slice ao n c1, .slice bo m c2] 39)).alloc (.cells #[.slice ao' n c3, .slice bo' m c4] 39)) := push (push (Below.refl _ _) _) _
  go_enter Try.func15, Try.ntmps15
  go_wp2_with fail
  refine (eqSlotS_same ao ao' n c1 c3 A U V _ hn (hx.below h0) (hx'.below h0)).mono ?_
  rintro e w1 ⟨rfl, hb1⟩
  have a1 : w1.heap[w.heap.size]? = some (.cells #[.slice ao n c1, .slice bo m c2] 39 (0, 0)) := blk_below (blk_alloc (heap_alloc_new w _) _) hb1
  have r1 : w1.heap[w.heap.size + 1]? = some (.cells #[.slice ao' n c3, .slice bo' m c4] 39 (0, 0)) := blk_below (by simpa using heap_alloc_new (w.alloc _) _) hb1
  have hb2 := after h0 hb1
  clear h0 hb1
  have q1 := blk_cell a1 1 _ rfl
  have q2 := blk_cell r1 1 _ rfl
  go_wp2_with fail
  refine (eqIntS_same bo bo' m c2 c4 F _ hm (hy.below hb2) (hy'.below hb2)).mono ?_
  rintro e w2 ⟨rfl, hb3⟩
  go_wp2
  go_ret
  exact ⟨rfl, after hb2 hb3⟩

end Go.Proofs.Yteniifnhbogbkae
