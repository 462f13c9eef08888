/-
  OWN TEXT: the walk of laws.FnExactGetRecord: it returns true, and nothing that was there is written.
-/
import Derived.Test.YteniifnhbogbkafGet
import Derived.Test.YteniifnhbogbkafHandle
import Derived.Test.YteniifnhbogbkafKit2
namespace Go.Proofs.Yteniifnhbogbkaf
open Go.RowKit

theorem same_got {n m : Nat} {A : Nat → Int} {U : Nat → Bool} {V F : Nat → Int} {x a r c r' c' : Int}
    (g1 : Good n m A U V F → r = gotOf n A U V x a ∧ c = faultOf n A U x a) (g2 : ¬ Good n m A U V F → r = 0 ∧ c = 1)
    (g3 : Named n m A U V F → r' = gotOf n A U V x a ∧ c' = faultOf n A U x a) (g4 : ¬ Named n m A U V F → r' = 0 ∧ c' = 1) : r' = r ∧ c' = c := by
  by_cases h : Good n m A U V F
  · have h' := (good_iff n m A U V F).1 h
    exact ⟨(g3 h').1.trans (g1 h).1.symm, (g3 h').2.trans (g1 h).2.symm⟩
  · have h' : ¬ Named n m A U V F := fun e => h ((good_iff n m A U V F).2 e)
    exact ⟨(g4 h').1.trans (g2 h).1.symm, (g4 h').2.trans (g2 h).2.symm⟩

set_option maxHeartbeats 1600000 in
theorem lawGetRecord (ao bo : Option Addr) (n m c1 c2 : Nat) (A : Nat → Int) (U : Nat → Bool) (V F : Nat → Int) (x a : Int) (w : World) (hn : n ≤ 1000000000000000) (hm : m ≤ 1000000000000000)
    (hx : SlotsAt w ao n A U V) (hy : IntsAt w bo m F) :
    Calls Try.prog 3 #[.agg #[.slice ao n c1, .slice bo m c2], .agg #[.int .i64 x, .int .i64 a]] w fun e w' => e = .returned (.bool true) ∧ Below w.heap.size w w' := by
  have h0 : Below w.heap.size w ((w.alloc (.cells #[.slice ao n c1, .slice bo m c2] 25)).alloc (.cells #[.int .i64 x, .int .i64 a] 27)) := push (push (Below.refl _ _) _) _
  have hA0 : ((w.alloc (.cells #[.slice ao n c1, .slice bo m c2] 25)).alloc (.cells #[.int .i64 x, .int .i64 a] 27)).heap[w.heap.size]? = some (.cells #[.slice ao n c1, .slice bo m c2] 25 (0, 0)) := blk_alloc (heap_alloc_new w _) _
  have hH0 : ((w.alloc (.cells #[.slice ao n c1, .slice bo m c2] 25)).alloc (.cells #[.int .i64 x, .int .i64 a] 27)).heap[w.heap.size + 1]? = some (.cells #[.int .i64 x, .int .i64 a] 27 (0, 0)) := by simpa using heap_alloc_new (w.alloc _) _
  by_cases hs : n + m ≤ 1048576
  · go_enter Try.func3, Try.ntmps3
    go_wp2_with fail
    refine (szArena_fits ao bo n m c1 c2 _ _ (by omega) (by omega)).mono ?_
    rintro e w1 ⟨rfl, hb1⟩
    have hbw1 := after h0 hb1
    have dA : w1.drew.heap[w.heap.size]? = some (.cells #[.slice ao n c1, .slice bo m c2] 25 (0, 0)) := blk_drew (blk_below hA0 hb1)
    have dH : w1.drew.heap[w.heap.size + 1]? = some (.cells #[.int .i64 x, .int .i64 a] 27 (0, 0)) := blk_drew (blk_below hH0 hb1)
    clear h0 hA0 hH0 hb1
    go_wp2
    go_region_held3 (fun w' => w'.cell? ⟨w.heap.size, 0, none⟩ = some (.slice ao n c1) ∧ w'.cell? ⟨w.heap.size, 1, none⟩ = some (.slice bo m c2) ∧ w'.cell? ⟨w.heap.size + 1, 0, none⟩ = some (.int .i64 x) ∧ w'.cell? ⟨w.heap.size + 1, 1, none⟩ = some (.int .i64 a))
      (first | exact ⟨blk_cell (blk_below (blk_below (blk_below dA hb2) hb3) hb4) 0 _ rfl, blk_cell (blk_below (blk_below (blk_below dA hb2) hb3) hb4) 1 _ rfl, blk_cell (blk_below (blk_below (blk_below dH hb2) hb3) hb4) 0 _ rfl, blk_cell (blk_below (blk_below (blk_below dH hb2) hb3) hb4) 1 _ rfl⟩ | exact ⟨blk_cell (blk_below (blk_below dA hb2) hb3) 0 _ rfl, blk_cell (blk_below (blk_below dA hb2) hb3) 1 _ rfl, blk_cell (blk_below (blk_below dH hb2) hb3) 0 _ rfl, blk_cell (blk_below (blk_below dH hb2) hb3) 1 _ rfl⟩ | exact ⟨blk_cell (blk_below dA hb2) 0 _ rfl, blk_cell (blk_below dA hb2) 1 _ rfl, blk_cell (blk_below dH hb2) 0 _ rfl, blk_cell (blk_below dH hb2) 1 _ rfl⟩ | exact ⟨blk_cell dA 0 _ rfl, blk_cell dA 1 _ rfl, blk_cell dH 0 _ rfl, blk_cell dH 1 _ rfl⟩)
      (first | (go_at_call 9; refine (toArena_any ao bo n m c1 c2 A U V F _ (by omega) (by omega) (hx.below hbw1.drew) (hy.below hbw1.drew)).mono ?_; rintro e w2 ⟨g, h, rfl, _, _, _, hr, hf, hb2⟩) | (go_at_call 10; refine (toHandle_any _ _ _).mono ?_; rintro e w3 ⟨rfl, hb3⟩) | (go_at_call 8; refine (specGet_any _ _ n m n m A U V F x a _ (by omega) (by omega) (Nat.le_refl _) (by omega) (SlotsAt.of_row (row_below hr hb3)) (IntsAt.of_row (row_below hf hb3))).mono ?_; rintro e w4 ⟨r1, k1, rfl, gg1, gg2, hb4⟩))
    have HG : Hid ((Good n m A U V F → r1 = gotOf n A U V x a ∧ k1 = faultOf n A U x a) ∧ (¬ Good n m A U V F → r1 = 0 ∧ k1 = 1)) := ⟨gg1, gg2⟩
    have hA4 := blk_below (blk_below (blk_below dA hb2) hb3) hb4
    have hH4 := blk_below (blk_below (blk_below dH hb2) hb3) hb4
    have hbw4 := after (after (after hbw1.drew hb2) hb3) hb4
    clear gg1 gg2 dA dH hb2 hb3 hb4 hr hf hbw1
    have q0 := blk_cell hA4 0 _ rfl
    have q1 := blk_cell hA4 1 _ rfl
    go_wp2_with fail
    refine (toArena_any ao bo n m c1 c2 A U V F _ (by omega) (by omega) (hx.below hbw4) (hy.below hbw4)).mono ?_
    rintro e w5 ⟨g3, h3, rfl, _, _, _, hr, hf, hb5⟩
    have hA5 := blk_alloc (blk_below hA4 hb5) (.cells #[.slice (some ⟨g3, 0, none⟩) n n, .slice (some ⟨h3, 0, none⟩) m m] 33)
    have hH5 := blk_alloc (blk_below hH4 hb5) (.cells #[.slice (some ⟨g3, 0, none⟩) n n, .slice (some ⟨h3, 0, none⟩) m m] 33)
    have hX5 := heap_alloc_new w5 (.cells #[.slice (some ⟨g3, 0, none⟩) n n, .slice (some ⟨h3, 0, none⟩) m m] 33)
    have hbw5 := push (after hbw4 hb5) (.cells #[.slice (some ⟨g3, 0, none⟩) n n, .slice (some ⟨h3, 0, none⟩) m m] 33)
    have hr5 := hr.alloc (.cells #[.slice (some ⟨g3, 0, none⟩) n n, .slice (some ⟨h3, 0, none⟩) m m] 33)
    have hf5 := hf.alloc (.cells #[.slice (some ⟨g3, 0, none⟩) n n, .slice (some ⟨h3, 0, none⟩) m m] 33)
    have dA := blk_drew hA5
    have dH := blk_drew hH5
    have dX := blk_drew hX5
    clear hA4 hH4 hbw4 hb5 hr hf q0 q1 hA5 hH5 hX5
    go_wp2
    go_region_held3 (fun w' => w'.cell? ⟨w.heap.size + 1, 0, none⟩ = some (.int .i64 x) ∧ w'.cell? ⟨w.heap.size + 1, 1, none⟩ = some (.int .i64 a) ∧ w'.cell? ⟨w5.heap.size, 0, none⟩ = some (.slice (some ⟨g3, 0, none⟩) n n) ∧ w'.cell? ⟨w5.heap.size, 1, none⟩ = some (.slice (some ⟨h3, 0, none⟩) m m))
      (first | exact ⟨blk_cell (blk_below (blk_below dH hb6) hb7) 0 _ rfl, blk_cell (blk_below (blk_below dH hb6) hb7) 1 _ rfl, blk_cell (blk_below (blk_below dX hb6) hb7) 0 _ rfl, blk_cell (blk_below (blk_below dX hb6) hb7) 1 _ rfl⟩ | exact ⟨blk_cell (blk_below dH hb6) 0 _ rfl, blk_cell (blk_below dH hb6) 1 _ rfl, blk_cell (blk_below dX hb6) 0 _ rfl, blk_cell (blk_below dX hb6) 1 _ rfl⟩ | exact ⟨blk_cell dH 0 _ rfl, blk_cell dH 1 _ rfl, blk_cell dX 0 _ rfl, blk_cell dX 1 _ rfl⟩)
      (first | (go_at_call 10; refine (toHandle_any _ _ _).mono ?_; rintro e w6 ⟨rfl, hb6⟩) | (go_at_call 11; refine (implGet_any _ _ n m n m A U V F x a _ (by omega) (by omega) (by intro h; cases h) (SlotsAt.of_row (row_below hr5.drew hb6)) (IntsAt.of_row (row_below hf5.drew hb6))).mono ?_; rintro e w7 ⟨r2, k2, rfl, gg3, gg4, hb7⟩))
    obtain ⟨rfl, rfl⟩ := same_got HG.out.1 HG.out.2 gg3 gg4
    have hA7 := blk_below (blk_below dA hb6) hb7
    have hX7 := blk_below (blk_below dX hb6) hb7
    have hbw7 := after (after hbw5.drew hb6) hb7
    have hr7 := row_below (row_below hr5.drew hb6) hb7
    have hf7 := row_below (row_below hf5.drew hb6) hb7
    clear gg3 gg4 HG dA dH dX hb6 hb7 hr5 hf5 hbw5
    have dA := blk_drew hA7
    have dX := blk_drew hX7
    clear hA7 hX7
    go_wp2
    go_region_held3 (fun w' => w'.cell? ⟨w.heap.size, 0, none⟩ = some (.slice ao n c1) ∧ w'.cell? ⟨w.heap.size, 1, none⟩ = some (.slice bo m c2) ∧ w'.cell? ⟨w5.heap.size, 0, none⟩ = some (.slice (some ⟨g3, 0, none⟩) n n) ∧ w'.cell? ⟨w5.heap.size, 1, none⟩ = some (.slice (some ⟨h3, 0, none⟩) m m))
      (first | exact ⟨blk_cell (blk_below (blk_below dA hb8) hb9) 0 _ rfl, blk_cell (blk_below (blk_below dA hb8) hb9) 1 _ rfl, blk_cell (blk_below (blk_below dX hb8) hb9) 0 _ rfl, blk_cell (blk_below (blk_below dX hb8) hb9) 1 _ rfl⟩ | exact ⟨blk_cell (blk_below dA hb8) 0 _ rfl, blk_cell (blk_below dA hb8) 1 _ rfl, blk_cell (blk_below dX hb8) 0 _ rfl, blk_cell (blk_below dX hb8) 1 _ rfl⟩ | exact ⟨blk_cell dA 0 _ rfl, blk_cell dA 1 _ rfl, blk_cell dX 0 _ rfl, blk_cell dX 1 _ rfl⟩)
      (first | (go_at_call 9; refine (toArena_any ao bo n m c1 c2 A U V F _ (by omega) (by omega) (hx.below hbw7.drew) (hy.below hbw7.drew)).mono ?_; rintro e w8 ⟨g8, h8, rfl, _, _, _, hr8, hf8, hb8⟩) | (go_at_call 12; refine (eqArena_same _ _ _ _ n m n m n m A U V F _ (by omega) (by omega) (SlotsAt.of_row (row_below hr7.drew hb8)) (IntsAt.of_row (row_below hf7.drew hb8)) (SlotsAt.of_row hr8) (IntsAt.of_row hf8)).mono ?_; rintro e w9 ⟨rfl, hb9⟩))
    go_wp2
    go_ret
    exact ⟨rfl, after (after hbw7.drew hb8) hb9⟩
  · go_enter Try.func3, Try.ntmps3
    go_wp2_with (first | (go_at_call 7; refine (szArena_over ao bo n m c1 c2 _ _ (by omega) (by omega) hn hm (by omega)).mono ?_; rintro e w1 ⟨rfl, hb1⟩))
    go_ret
    exact ⟨rfl, after h0 hb1⟩

end Go.Proofs.Yteniifnhbogbkaf
