/-
  OWN TEXT: the walk of laws.FnExactGoodArena: it returns true, and nothing that was there is written.
-/
import Derived.Test.YteniifnhbogbkaeSpec2
import Derived.Test.YteniifnhbogbkaeImpl3
namespace Go.Proofs.Yteniifnhbogbkae
open Go.RowKit

theorem bool_eq {a b : Bool} {p : Prop} (h1 : a = true ↔ p) (h2 : b = true ↔ p) : a = b := by
  cases a <;> cases b <;> simp_all

set_option maxHeartbeats 1600000 in
theorem lawGoodArena (ao bo : Option Addr) (n m c1 c2 : Nat) (A : Nat → Int) (U : Nat → Bool) (V F : Nat → Int) (w : World) (hn : n ≤ 1000000000000000) (hm : m ≤ 1000000000000000)
    (hx : SlotsAt w ao n A U V) (hy : IntsAt w bo m F) :
    Calls Try.prog 4 #[.agg #[.slice ao n c1, .slice bo m c2]] w fun e w' => e = .returned (.bool true) ∧ Below w.heap.size w w' := by
  have h0 : Below w.heap.size w (w.alloc (.cells #[.slice ao n c1, .slice bo m c2] 34)) := push (Below.refl _ _) _
  have hA0 : (w.alloc (.cells #[.slice ao n c1, .slice bo m c2] 34)).heap[w.heap.size]? = some (.cells #[.slice ao n c1, .slice bo m c2] 34 (0, 0)) := heap_alloc_new w _
  by_cases hs : n + m ≤ 1048576
  · go_enter Try.func4, Try.ntmps4
    go_wp2_with fail
    refine (szArena_fits ao bo n m c1 c2 _ _ (by omega) (by omega)).mono ?_
    rintro e w1 ⟨rfl, hb1⟩
    have hA1 := blk_below hA0 hb1
    have hbw1 := after h0 hb1
    clear hA0 h0 hb1
    have q0 := blk_cell hA1 0 _ rfl
    have q1 := blk_cell hA1 1 _ rfl
    go_wp2_with fail
    refine (toArena_any ao bo n m c1 c2 A U V F _ (by omega) (by omega) (hx.below hbw1) (hy.below hbw1)).mono ?_
    rintro e w2 ⟨g, h, rfl, _, _, _, hr, hf, hb2⟩
    have hA2 := blk_below hA1 hb2
    have hbw2 := after hbw1 hb2
    clear hA1 hbw1 hb2 q0 q1
    go_wp2_with fail
    refine (specGood_any _ _ n m n m A U V F _ (by omega) (by omega) (Nat.le_refl _) (by omega) (SlotsAt.of_row hr) (IntsAt.of_row hf)).mono ?_
    rintro e w3 ⟨b1, rfl, hi1, hb3⟩
    have HI1 : Hid (b1 = true ↔ Good n m A U V F) := hi1
    have hA3 := blk_below hA2 hb3
    have hbw3 := after hbw2 hb3
    clear hi1 hA2 hbw2 hb3 hr hf
    have q0 := blk_cell hA3 0 _ rfl
    have q1 := blk_cell hA3 1 _ rfl
    go_wp2_with fail
    refine (toArena_any ao bo n m c1 c2 A U V F _ (by omega) (by omega) (hx.below hbw3) (hy.below hbw3)).mono ?_
    rintro e w4 ⟨g3, h3, rfl, _, _, hgh, hr, hf, hb4⟩
    have hA4 := blk_alloc (blk_below hA3 hb4) (.cells #[.slice (some ⟨g3, 0, none⟩) n n, .slice (some ⟨h3, 0, none⟩) m m] 39)
    have hX4 := heap_alloc_new w4 (.cells #[.slice (some ⟨g3, 0, none⟩) n n, .slice (some ⟨h3, 0, none⟩) m m] 39)
    have hbw4 := push (after hbw3 hb4) (.cells #[.slice (some ⟨g3, 0, none⟩) n n, .slice (some ⟨h3, 0, none⟩) m m] 39)
    have hr4 := hr.alloc (.cells #[.slice (some ⟨g3, 0, none⟩) n n, .slice (some ⟨h3, 0, none⟩) m m] 39)
    have hf4 := hf.alloc (.cells #[.slice (some ⟨g3, 0, none⟩) n n, .slice (some ⟨h3, 0, none⟩) m m] 39)
    clear hA3 hbw3 hb4 hr hf q0 q1
    go_wp2_with fail
    refine (implGood_any _ _ n m n m A U V F _ (by omega) (by omega) (by intro h; cases h) (SlotsAt.of_row hr4) (IntsAt.of_row hf4)).mono ?_
    rintro e w5 ⟨b2, rfl, hi2, hb5⟩
    obtain rfl : b2 = b1 := bool_eq hi2 (HI1.out.trans (good_iff n m A U V F))
    have hA5 := blk_below hA4 hb5
    have hX5 := blk_below hX4 hb5
    have hbw5 := after hbw4 hb5
    have hr5 := row_below hr4 hb5
    have hf5 := row_below hf4 hb5
    clear hi2 HI1 hA4 hX4 hbw4 hb5 hr4 hf4
    have a0 := blk_cell hA5 0 _ rfl
    have a1 := blk_cell hA5 1 _ rfl
    have x0 := blk_cell hX5 0 _ rfl
    have x1 := blk_cell hX5 1 _ rfl
    have dA : w5.drew.heap[w.heap.size]? = some (.cells #[.slice ao n c1, .slice bo m c2] 34 (0, 0)) := hA5
    have dX : w5.drew.heap[w4.heap.size]? = some (.cells #[.slice (some ⟨g3, 0, none⟩) n n, .slice (some ⟨h3, 0, none⟩) m m] 39 (0, 0)) := hX5
    go_wp2
    go_region_held3 (fun w' => w'.cell? ⟨w.heap.size, 0, none⟩ = some (.slice ao n c1) ∧ w'.cell? ⟨w.heap.size, 1, none⟩ = some (.slice bo m c2) ∧ w'.cell? ⟨w4.heap.size, 0, none⟩ = some (.slice (some ⟨g3, 0, none⟩) n n) ∧ w'.cell? ⟨w4.heap.size, 1, none⟩ = some (.slice (some ⟨h3, 0, none⟩) m m))
      (first | exact ⟨a0, a1, x0, x1⟩ | exact ⟨blk_cell (blk_below (blk_below dA hb6) hb7) 0 _ rfl, blk_cell (blk_below (blk_below dA hb6) hb7) 1 _ rfl, blk_cell (blk_below (blk_below dX hb6) hb7) 0 _ rfl, blk_cell (blk_below (blk_below dX hb6) hb7) 1 _ rfl⟩ | exact ⟨blk_cell (blk_below dA hb6) 0 _ rfl, blk_cell (blk_below dA hb6) 1 _ rfl, blk_cell (blk_below dX hb6) 0 _ rfl, blk_cell (blk_below dX hb6) 1 _ rfl⟩)
      (first | (go_at_call 13; refine (toArena_any ao bo n m c1 c2 A U V F _ (by omega) (by omega) (hx.below hbw5.drew) (hy.below hbw5.drew)).mono ?_; rintro e w6 ⟨g6, h6, rfl, _, _, _, hr6, hf6, hb6⟩) | (go_at_call 15; refine (eqArena_same _ _ _ _ n m n m n m A U V F _ (by omega) (by omega) (SlotsAt.of_row (row_below hr5.drew hb6)) (IntsAt.of_row (row_below hf5.drew hb6)) (SlotsAt.of_row hr6) (IntsAt.of_row hf6)).mono ?_; rintro e w7 ⟨rfl, hb7⟩))
    go_wp2
    go_ret
    exact ⟨rfl, after (after hbw5.drew hb6) hb7⟩
  · go_enter Try.func4, Try.ntmps4
    go_wp2_with (first | (go_at_call 11; refine (szArena_over ao bo n m c1 c2 _ _ (by omega) (by omega) hn hm (by omega)).mono ?_; rintro e w1 ⟨rfl, hb1⟩))
    go_ret
    exact ⟨rfl, after h0 hb1⟩

end Go.Proofs.Yteniifnhbogbkae
