/-
  OWN TEXT: the walk of laws.FnExactDropRecord: it returns true, and nothing that was there is written.
-/
import Derived.Test.YteniifnhbogbkafImplDrop
import Derived.Test.YteniifnhbogbkafHandle
import Derived.Test.YteniifnhbogbkafLawAid
namespace Go.Proofs.Yteniifnhbogbkaf
open Go.RowKit

set_option maxHeartbeats 6400000 in
set_option maxRecDepth 100000 in
theorem lawDropRecord (ao bo : Option Addr) (n m c1 c2 : Nat) (A : Nat → Int) (U : Nat → Bool) (V F : Nat → Int) (x a : Int) (w : World) (hn : n ≤ 1000000000000000) (hm : m ≤ 1000000000000000)
    (hx : SlotsAt w ao n A U V) (hy : IntsAt w bo m F) :
    Calls Try.prog 5 #[.agg #[.slice ao n c1, .slice bo m c2], .agg #[.int .i64 x, .int .i64 a]] w fun e w' => e = .returned (.bool true) ∧ Below w.heap.size w w' := by
  have h0 : Below w.heap.size w ((w.alloc (.cells #[.slice ao n c1, .slice bo m c2] 25)).alloc (.cells #[.int .i64 x, .int .i64 a] 27)) := push (push (Below.refl _ _) _) _
  have hA0 : ((w.alloc (.cells #[.slice ao n c1, .slice bo m c2] 25)).alloc (.cells #[.int .i64 x, .int .i64 a] 27)).heap[w.heap.size]? = some (.cells #[.slice ao n c1, .slice bo m c2] 25 (0, 0)) := blk_alloc (heap_alloc_new w _) _
  have hH0 : ((w.alloc (.cells #[.slice ao n c1, .slice bo m c2] 25)).alloc (.cells #[.int .i64 x, .int .i64 a] 27)).heap[w.heap.size + 1]? = some (.cells #[.int .i64 x, .int .i64 a] 27 (0, 0)) := by simpa using heap_alloc_new (w.alloc _) _
  by_cases hs : n + m ≤ 1048576
  · go_enter Try.func5, Try.ntmps5
    go_wp2_with fail
    refine (szArena_fits ao bo n m c1 c2 _ _ (by omega) (by omega)).mono ?_
    rintro e w1 ⟨rfl, hb1⟩
    have hbw1 := after h0 hb1
    have hA1 := blk_below hA0 hb1
    have hH1 := blk_below hH0 hb1
    clear h0 hA0 hH0 hb1
    go_upto_region 5 with fail
    go_cut [6, 7] (fun s t wc => CutS w1 (Good n m A U V F) (dropOut n m A U V F x a) s t wc)
    case first =>
      have keepS : Hid (∀ w', Below w1.heap.size w1 w' → (w'.cell? ⟨w.heap.size, 0, none⟩ = some (.slice ao n c1) ∧ w'.cell? ⟨w.heap.size, 1, none⟩ = some (.slice bo m c2) ∧ w'.cell? ⟨w.heap.size + 1, 0, none⟩ = some (.int .i64 x) ∧ w'.cell? ⟨w.heap.size + 1, 1, none⟩ = some (.int .i64 a))) := fun w' hb => ⟨blk_cell (blk_below hA1 hb) 0 _ rfl, blk_cell (blk_below hA1 hb) 1 _ rfl, blk_cell (blk_below hH1 hb) 0 _ rfl, blk_cell (blk_below hH1 hb) 1 _ rfl⟩
      go_region_held3 (fun w' => w'.cell? ⟨w.heap.size, 0, none⟩ = some (.slice ao n c1) ∧ w'.cell? ⟨w.heap.size, 1, none⟩ = some (.slice bo m c2) ∧ w'.cell? ⟨w.heap.size + 1, 0, none⟩ = some (.int .i64 x) ∧ w'.cell? ⟨w.heap.size + 1, 1, none⟩ = some (.int .i64 a))
        ((refine keepS.out _ ?_; (repeat (first | exact Below.refl _ _ | refine Below.drew ?_ | refine push ?_ _ | refine setB ?_ ?_ _ | omega | refine after ?_ hb2 | refine after ?_ hb3 | refine after ?_ hb4))))
        (first | (go_at_call 9; refine (toArena_any ao bo n m c1 c2 A U V F _ (by omega) (by omega) (hx.below (after hbw1 (by (repeat (first | exact Below.refl _ _ | refine Below.drew ?_ | refine push ?_ _ | refine after ?_ hb2 | refine after ?_ hb3 | refine after ?_ hb4))))) (hy.below (after hbw1 (by (repeat (first | exact Below.refl _ _ | refine Below.drew ?_ | refine push ?_ _ | refine after ?_ hb2 | refine after ?_ hb3 | refine after ?_ hb4)))))).mono ?_; rintro e w2 ⟨g, h, rfl, _, _, _, hr, hf, hb2⟩; have s2 : w1.heap.size ≤ w2.heap.size := (by have := hb2.size; first | omega | (simp at this; omega))) | (go_at_call 10; refine (toHandle_any _ _ _).mono ?_; rintro e w3 ⟨rfl, hb3⟩; have s3 : w2.heap.size ≤ w3.heap.size := (by have := hb3.size; first | omega | (simp at this; omega))) | (go_at_call 17; refine (specDrop_any _ _ n m n m A U V F x a _ (by omega) (by omega) (Nat.le_refl _) (by omega) (by intro h; cases h) (by intro h; cases h) (SlotsAt.of_row (row_below hr (by (repeat (first | exact Below.refl _ _ | refine Below.drew ?_ | refine push ?_ _ | refine after ?_ hb3))))) (IntsAt.of_row (row_below hf (by (repeat (first | exact Below.refl _ _ | refine Below.drew ?_ | refine push ?_ _ | refine after ?_ hb3)))))).mono ?_; rintro e w4 ⟨aw, bw, ew, fw, o, rfl, hW4, hans, hb4⟩; have s4 : w3.heap.size ≤ w4.heap.size := (by have := hb4.size; first | omega | (simp at this; omega)); (first | (have hbx := blk_below (heap_alloc_new w3 (.cells #[.slice none 0 0, .slice none 0 0] 33)) hb4; have y0 := blk_cell hbx 0 _ rfl; have y1 := blk_cell hbx 1 _ rfl; have y2 := blk_free hbx 0; have y3 := blk_free hbx 1) | (have hbx := blk_below (heap_alloc_new w2 (.cells #[.slice none 0 0, .slice none 0 0] 33)) (after hb3 hb4); have y0 := blk_cell hbx 0 _ rfl; have y1 := blk_cell hbx 1 _ rfl; have y2 := blk_free hbx 0; have y3 := blk_free hbx 1) | (have hbx := blk_below (heap_alloc_new w1 (.cells #[.slice none 0 0, .slice none 0 0] 33)) (after (after (undrew hb2) hb3) hb4); have y0 := blk_cell hbx 0 _ rfl; have y1 := blk_cell hbx 1 _ rfl; have y2 := blk_free hbx 0; have y3 := blk_free hbx 1) | skip)))
      all_goals
        go_wp2_with fail
        go_meet
        first | exact cutS_last (by (repeat (first | exact Below.refl _ _ | refine Below.drew ?_ | refine push ?_ _ | refine after ?_ hb2 | refine after ?_ hb3 | refine after ?_ hb4))) hW4 (by have t0 := hb2.size; have t1 := hb3.size; have t2 := hb4.size; first | omega | (simp only [World.size_alloc, World.size_drew] at t0 t1 t2 ⊢; omega)) hans | exact cutS_first (by (repeat (first | exact Below.refl _ _ | refine Below.drew ?_ | refine push ?_ _ | refine after ?_ hb2 | refine after ?_ hb3 | refine after ?_ hb4))) hW4 hbx (by have t0 := hb2.size; have t1 := hb3.size; have t2 := hb4.size; first | omega | (simp only [World.size_alloc, World.size_drew] at t0 t1 t2 ⊢; omega)) (by have t0 := hb2.size; have t1 := hb3.size; have t2 := hb4.size; first | omega | (simp only [World.size_alloc, World.size_drew] at t0 t1 t2 ⊢; omega)) hans
    case rest =>
    obtain ⟨w5, rfl⟩ : ∃ w5, w5 = wc := ⟨_, rfl⟩
    obtain ⟨B, aw, bw, ew, fw, o, rfl, rfl, hB, hW5, hrW, hans, hb5⟩ := hcut
    have hA5 := blk_below hA1 hb5
    have hH5 := blk_below hH1 hb5
    have hbw5 := after hbw1 hb5
    have hsz := drop_size hs hans
    have HAN : Hid (Answers (Good n m A U V F) (dropOut n m A U V F x a) o) := hans
    have HL : Hid (RowLt (.slice aw o.n ew) o.n w5.heap.size ∧ RowLt (.slice bw o.m fw) o.m w5.heap.size) := ⟨hrW.1.lt, hrW.2.lt⟩
    have HI : Hid (w.heap.size + 1 < w5.heap.size ∧ B < w5.heap.size) := ⟨blk_lt hH5, blk_lt hW5⟩
    have rW1 := hrW.1
    have rW2 := hrW.2
    clear hA1 hH1 hbw1 hb5 hrW hans hB
    have q0 := blk_cell hA5 0 _ rfl
    have q1 := blk_cell hA5 1 _ rfl
    go_wp2_with fail
    refine (toArena_any ao bo n m c1 c2 A U V F _ (by omega) (by omega) (hx.below hbw5) (hy.below hbw5)).mono ?_
    rintro e w6 ⟨g3, h3, rfl, hg3, hh3, _, hr, hf, hb6⟩
    have hA7 := blk_alloc (blk_below hA5 hb6) (.cells #[.slice (some ⟨g3, 0, none⟩) n n, .slice (some ⟨h3, 0, none⟩) m m] 33)
    have hH7 := blk_alloc (blk_below hH5 hb6) (.cells #[.slice (some ⟨g3, 0, none⟩) n n, .slice (some ⟨h3, 0, none⟩) m m] 33)
    have hW7 := blk_alloc (blk_below hW5 hb6) (.cells #[.slice (some ⟨g3, 0, none⟩) n n, .slice (some ⟨h3, 0, none⟩) m m] 33)
    have hX7 := heap_alloc_new w6 (.cells #[.slice (some ⟨g3, 0, none⟩) n n, .slice (some ⟨h3, 0, none⟩) m m] 33)
    have hbw7 := push (after hbw5 hb6) (.cells #[.slice (some ⟨g3, 0, none⟩) n n, .slice (some ⟨h3, 0, none⟩) m m] 33)
    have rX1 := hr.alloc (.cells #[.slice (some ⟨g3, 0, none⟩) n n, .slice (some ⟨h3, 0, none⟩) m m] 33)
    have rX2 := hf.alloc (.cells #[.slice (some ⟨g3, 0, none⟩) n n, .slice (some ⟨h3, 0, none⟩) m m] 33)
    have rW3 := (rW1.below hb6).alloc (.cells #[.slice (some ⟨g3, 0, none⟩) n n, .slice (some ⟨h3, 0, none⟩) m m] 33)
    have rW4 := (rW2.below hb6).alloc (.cells #[.slice (some ⟨g3, 0, none⟩) n n, .slice (some ⟨h3, 0, none⟩) m m] 33)
    have HJ : Hid (w5.heap.size ≤ g3 ∧ w5.heap.size ≤ h3 ∧ g3 < w6.heap.size ∧ h3 < w6.heap.size ∧ (w6.alloc (.cells #[.slice (some ⟨g3, 0, none⟩) n n, .slice (some ⟨h3, 0, none⟩) m m] 33)).heap.size = w6.heap.size + 1) := ⟨hg3, hh3, hr.lt, hf.lt, by simp⟩
    clear hA5 hH5 hW5 hbw5 hb6 hr hf rW1 rW2 hg3 hh3 q0 q1
    go_upto_region 7 with fail
    generalize w6.alloc (.cells #[.slice (some ⟨g3, 0, none⟩) n n, .slice (some ⟨h3, 0, none⟩) m m] 33) = w7 at *
    go_cut [9, 10] (fun s t wc => CutI w7 (Named n m A U V F) (dropOut n m A U V F x a) s t wc)
    case first =>
      have keepS : Hid (∀ w', Below w7.heap.size w7 w' → (w'.cell? ⟨w.heap.size + 1, 0, none⟩ = some (.int .i64 x) ∧ w'.cell? ⟨w.heap.size + 1, 1, none⟩ = some (.int .i64 a) ∧ w'.cell? ⟨w6.heap.size, 0, none⟩ = some (.slice (some ⟨g3, 0, none⟩) n n) ∧ w'.cell? ⟨w6.heap.size, 1, none⟩ = some (.slice (some ⟨h3, 0, none⟩) m m))) := fun w' hb => ⟨blk_cell (blk_below hH7 hb) 0 _ rfl, blk_cell (blk_below hH7 hb) 1 _ rfl, blk_cell (blk_below hX7 hb) 0 _ rfl, blk_cell (blk_below hX7 hb) 1 _ rfl⟩
      go_region_held3 (fun w' => w'.cell? ⟨w.heap.size + 1, 0, none⟩ = some (.int .i64 x) ∧ w'.cell? ⟨w.heap.size + 1, 1, none⟩ = some (.int .i64 a) ∧ w'.cell? ⟨w6.heap.size, 0, none⟩ = some (.slice (some ⟨g3, 0, none⟩) n n) ∧ w'.cell? ⟨w6.heap.size, 1, none⟩ = some (.slice (some ⟨h3, 0, none⟩) m m))
        ((refine keepS.out _ ?_; (repeat (first | exact Below.refl _ _ | refine Below.drew ?_ | refine push ?_ _ | refine setB ?_ ?_ _ | omega | refine after ?_ hb8 | refine after ?_ hb9))))
        (first | (go_at_call 10; refine (toHandle_any _ _ _).mono ?_; rintro e w8 ⟨rfl, hb8⟩; have s8 : w7.heap.size ≤ w8.heap.size := (by have := hb8.size; first | omega | (simp at this; omega))) | (go_at_call 18; refine (implDrop_any _ _ n m n m A U V F x a _ (by omega) (by omega) (by intro h; cases h) (SlotsAt.of_row (row_below rX1 (by (repeat (first | exact Below.refl _ _ | refine Below.drew ?_ | refine push ?_ _ | refine after ?_ hb8))))) (IntsAt.of_row (row_below rX2 (by (repeat (first | exact Below.refl _ _ | refine Below.drew ?_ | refine push ?_ _ | refine after ?_ hb8)))))).mono ?_; rintro e w9 ⟨ag, bg, eg, fg, o1, rfl, hG9, hans1, hb9⟩; have s9 : w8.heap.size ≤ w9.heap.size := (by have := hb9.size; first | omega | (simp at this; omega)); (first | (have hbx := blk_below (heap_alloc_new w8 (.cells #[.slice none 0 0, .slice none 0 0] 33)) hb9; have y0 := blk_cell hbx 0 _ rfl; have y1 := blk_cell hbx 1 _ rfl; have y2 := blk_free hbx 0; have y3 := blk_free hbx 1) | (have hbx := blk_below (heap_alloc_new w7 (.cells #[.slice none 0 0, .slice none 0 0] 33)) (after (undrew hb8) hb9); have y0 := blk_cell hbx 0 _ rfl; have y1 := blk_cell hbx 1 _ rfl; have y2 := blk_free hbx 0; have y3 := blk_free hbx 1) | skip)))
      all_goals
        go_wp2_with fail
        go_meet
        first | exact cutI_last (by (repeat (first | exact Below.refl _ _ | refine Below.drew ?_ | refine push ?_ _ | refine after ?_ hb8 | refine after ?_ hb9))) hG9 (by have t0 := hb8.size; have t1 := hb9.size; first | omega | (simp only [World.size_alloc, World.size_drew] at t0 t1 ⊢; omega)) hans1 | exact cutI_first (by (repeat (first | exact Below.refl _ _ | refine Below.drew ?_ | refine push ?_ _ | refine after ?_ hb8 | refine after ?_ hb9))) hG9 hbx (by have t0 := hb8.size; have t1 := hb9.size; first | omega | (simp only [World.size_alloc, World.size_drew] at t0 t1 ⊢; omega)) (by have t0 := hb8.size; have t1 := hb9.size; first | omega | (simp only [World.size_alloc, World.size_drew] at t0 t1 ⊢; omega)) hans1
    case rest =>
    obtain ⟨w10, rfl⟩ : ∃ w10, w10 = wc := ⟨_, rfl⟩
    obtain ⟨G, ag, bg, eg, fg, o1, rfl, rfl, hG, hG10, hrG, hans1, hb10⟩ := hcut
    obtain rfl : o1 = o := answers_one (good_iff n m A U V F) HAN.out hans1
    have hA10 := blk_below hA7 hb10
    have hH10 := blk_below hH7 hb10
    have hW10 := blk_below hW7 hb10
    have hX10 := blk_below hX7 hb10
    have hbw10 := after hbw7 hb10
    have rX3 := row_below rX1 hb10
    have rX4 := row_below rX2 hb10
    have rW5 := rW3.below hb10
    have rW6 := rW4.below hb10
    have rG1 := hrG.1
    have rG2 := hrG.2
    have HK : Hid ((∀ b, headOf ag b → w7.heap.size ≤ b) ∧ (∀ b, headOf bg b → w7.heap.size ≤ b) ∧ w7.heap.size ≤ G ∧ ¬ headOf ag G ∧ ¬ headOf bg G) :=
      ⟨fun b hb => (head_ge rG1 b hb).1, fun b hb => (head_ge rG2 b hb).1, hG, box_head hG10 rG1 (by decide), box_head hG10 rG2 (by decide)⟩
    clear hA7 hH7 hW7 hX7 hbw7 hb10 rX1 rX2 rW3 rW4 hrG hans1 hG
    have q0 := blk_cell hG10 0 _ rfl
    have q1 := blk_cell hG10 1 _ rfl
    have q2 := blk_cell hW10 0 _ rfl
    have q3 := blk_cell hW10 1 _ rfl
    go_wp2_with fail
    refine (eqArena_same ag bg aw bw o1.n o1.m _ _ _ _ o1.A o1.U o1.V o1.F _ (by omega) (by omega) (own_slots rG1) (own_ints rG2) rW5.slots rW6.ints).mono ?_
    rintro e w11 ⟨rfl, hb11⟩
    have hA11 := blk_below hA10 hb11
    have hH11 := blk_below hH10 hb11
    have hW11 := blk_below hW10 hb11
    have hX11 := blk_below hX10 hb11
    have hG11 := blk_below hG10 hb11
    have hbw11 := after hbw10 hb11
    have rX5 := row_below rX3 hb11
    have rX6 := row_below rX4 hb11
    have rW7 := rW5.below hb11
    have rW8 := rW6.below hb11
    have rG3 := own_below hb11 rG1
    have rG4 := own_below hb11 rG2
    clear hA10 hH10 hW10 hX10 hG10 hbw10 hb11 rX3 rX4 rW5 rW6 rG1 rG2 q0 q1 q2 q3
    have dA := blk_drew hA11
    have dX := blk_drew hX11
    go_wp2
    go_region_held3 (fun w' => w'.cell? ⟨w.heap.size, 0, none⟩ = some (.slice ao n c1) ∧ w'.cell? ⟨w.heap.size, 1, none⟩ = some (.slice bo m c2) ∧ w'.cell? ⟨w6.heap.size, 0, none⟩ = some (.slice (some ⟨g3, 0, none⟩) n n) ∧ w'.cell? ⟨w6.heap.size, 1, none⟩ = some (.slice (some ⟨h3, 0, none⟩) m m))
      (first | exact ⟨blk_cell (blk_below (blk_below dA hb12) hb13) 0 _ rfl, blk_cell (blk_below (blk_below dA hb12) hb13) 1 _ rfl, blk_cell (blk_below (blk_below dX hb12) hb13) 0 _ rfl, blk_cell (blk_below (blk_below dX hb12) hb13) 1 _ rfl⟩ | exact ⟨blk_cell (blk_below dA hb12) 0 _ rfl, blk_cell (blk_below dA hb12) 1 _ rfl, blk_cell (blk_below dX hb12) 0 _ rfl, blk_cell (blk_below dX hb12) 1 _ rfl⟩ | exact ⟨blk_cell dA 0 _ rfl, blk_cell dA 1 _ rfl, blk_cell dX 0 _ rfl, blk_cell dX 1 _ rfl⟩)
      (first | (go_at_call 9; refine (toArena_any ao bo n m c1 c2 A U V F _ (by omega) (by omega) (hx.below hbw11.drew) (hy.below hbw11.drew)).mono ?_; rintro e w12 ⟨g12, h12, rfl, _, _, _, hr12, hf12, hb12⟩) | (go_at_call 12; refine (eqArena_same _ _ _ _ n m n m n m A U V F _ (by omega) (by omega) (SlotsAt.of_row (row_below rX5.drew hb12)) (IntsAt.of_row (row_below rX6.drew hb12)) (SlotsAt.of_row hr12) (IntsAt.of_row hf12)).mono ?_; rintro e w13 ⟨rfl, hb13⟩))
    have hA13 := blk_below (blk_below dA hb12) hb13
    have hH13 := blk_below (blk_below (blk_drew hH11) hb12) hb13
    have hW13 := blk_below (blk_below (blk_drew hW11) hb12) hb13
    have hX13 := blk_below (blk_below dX hb12) hb13
    have hG13 := blk_below (blk_below (blk_drew hG11) hb12) hb13
    have hbw13 := after (after hbw11.drew hb12) hb13
    have rX7 := row_below (row_below rX5.drew hb12) hb13
    have rX8 := row_below (row_below rX6.drew hb12) hb13
    have rW9 := (rW7.drew.below hb12).below hb13
    have rWa := (rW8.drew.below hb12).below hb13
    have rG5 := own_below hb13 (own_below hb12 rG3.drew)
    have rG6 := own_below hb13 (own_below hb12 rG4.drew)
    clear hA11 hH11 hW11 hX11 hG11 hbw11 hb12 hb13 rX5 rX6 rW7 rW8 rG3 rG4 hr12 hf12 dA dX
    have q0 := blk_cell hX13 0 _ rfl
    have q1 := blk_cell hX13 1 _ rfl
    go_wp2_with fail
    refine (markArena_own _ _ n m n m 0 0 A U V F 1 _ hs (by omega) (by omega) (own_of_row rX7 (Nat.zero_le _) (by unfold maxLen; omega)) (own_of_row1 rX8 (Nat.zero_le _) (by unfold maxLen; omega))).mono ?_
    rintro e w14 ⟨rfl, _, _, hk14⟩
    have HX : Hid (∀ b, headsOf (some ⟨g3, 0, none⟩) (some ⟨h3, 0, none⟩) b → w5.heap.size ≤ b ∧ b < w6.heap.size) := by
      rintro b (⟨g', e1, e2⟩ | ⟨g', e1, e2⟩)
      · simp only [Option.some.injEq, Addr.mk.injEq, and_true] at e1; have := HJ.out; have := HI.out; omega
      · simp only [Option.some.injEq, Addr.mk.injEq, and_true] at e1; have := HJ.out; have := HI.out; omega
    have hA14 := hk14.blk hA13 (fun h => by have := HX.out _ h; have := HI.out; omega)
    have hH14 := hk14.blk hH13 (fun h => by have := HX.out _ h; have := HI.out; omega)
    have hW14 := hk14.blk hW13 (fun h => by have := HX.out _ h; have := HI.out; omega)
    have hG14 := hk14.blk hG13 (fun h => by have := HX.out _ h; have := HJ.out; have := HK.out.2.2.1; omega)
    have hbw14 := Kept.below hbw13 hbw13.size hk14 (fun b h => by have := HX.out _ h; have := HI.out; omega)
    have rWb := rW9.stays hk14 HL.out.1 (fun b h => by have := HX.out _ h; omega)
    have rWc := rWa.stays hk14 HL.out.2 (fun b h => by have := HX.out _ h; omega)
    have rG7 := hk14.own rG5 (fun b hb h => by have := HX.out _ h; have := HK.out.1 b (own_head rfl rG5 hb); have := HJ.out; omega)
    have rG8 := hk14.own rG6 (fun b hb h => by have := HX.out _ h; have := HK.out.2.1 b (own_head rfl rG6 hb); have := HJ.out; omega)
    clear hA13 hH13 hW13 hX13 hG13 hbw13 hk14 rX7 rX8 rW9 rWa rG5 rG6 q0 q1 HX
    have e0 : decide ((1 : Int) + 3 * (n : Int) + (m : Int) < 0) = false := by simp; omega
    have q0 := blk_cell hG14 0 _ rfl
    have q1 := blk_cell hG14 1 _ rfl
    have q2 := blk_cell hW14 0 _ rfl
    have q3 := blk_cell hW14 1 _ rfl
    go_wp2_with fail
    refine (eqArena_same ag bg aw bw o1.n o1.m _ _ _ _ o1.A o1.U o1.V o1.F _ (by omega) (by omega) (own_slots rG7) (own_ints rG8) rWb.slots rWc.ints).mono ?_
    rintro e w15 ⟨rfl, hb15⟩
    have hA15 := blk_below hA14 hb15
    have hH15 := blk_below hH14 hb15
    have hW15 := blk_below hW14 hb15
    have hG15 := blk_below hG14 hb15
    have hbw15 := after hbw14 hb15
    have rWd := rWb.below hb15
    have rWe := rWc.below hb15
    have rG9 := own_below hb15 rG7
    have rGa := own_below hb15 rG8
    clear hA14 hH14 hW14 hG14 hbw14 hb15 rWb rWc rG7 rG8 q0 q1 q2 q3
    have q0 := blk_cell hG15 0 _ rfl
    have q1 := blk_cell hG15 1 _ rfl
    go_wp2_with fail
    refine (markArena_own ag bg o1.n o1.m _ _ _ _ o1.A o1.U o1.V o1.F 1 _ hsz (by omega) (by omega) rG9 rGa).mono ?_
    rintro e w16 ⟨rfl, rGb, rGc, hk16⟩
    have HX : Hid (∀ b, headsOf ag bg b → w7.heap.size ≤ b) := by
      rintro b (h | h)
      · exact HK.out.1 b h
      · exact HK.out.2.1 b h
    have hA16 := hk16.blk hA15 (fun h => by have := HX.out _ h; have := HI.out; have := HJ.out; omega)
    have hH16 := hk16.blk hH15 (fun h => by have := HX.out _ h; have := HI.out; have := HJ.out; omega)
    have hW16 := hk16.blk hW15 (fun h => by have := HX.out _ h; have := HI.out; have := HJ.out; omega)
    have hG16 := hk16.blk hG15 (fun h => by rcases h with h | h; exact HK.out.2.2.2.1 h; exact HK.out.2.2.2.2 h)
    have hbw16 := Kept.below hbw15 hbw15.size hk16 (fun b h => by have := HX.out _ h; have := HI.out; have := HJ.out; omega)
    have rWf := rWd.stays hk16 HL.out.1 (fun b h => by have := HX.out _ h; have := HI.out; have := HJ.out; omega)
    have rWg := rWe.stays hk16 HL.out.2 (fun b h => by have := HX.out _ h; have := HI.out; have := HJ.out; omega)
    clear hA15 hH15 hW15 hG15 hbw15 hk16 rWd rWe rG9 rGa q0 q1 HX
    have q0 := blk_cell hG16 0 _ rfl
    have q1 := blk_cell hG16 1 _ rfl
    go_wp2_with fail
    refine (heldArena_yes ag bg o1.n o1.m _ _ 1 _ hsz (by omega) (by omega) (own_slots rGb) (own_ints rGc)).mono ?_
    rintro e w17 ⟨rfl, hb17⟩
    have hbw17 := after hbw16 hb17
    have rWh := rWf.below hb17
    have rWi := rWg.below hb17
    have rGd := own_below hb17 rGb
    have rGe := own_below hb17 rGc
    have hA17 := blk_below hA16 hb17
    have hH17 := blk_below hH16 hb17
    have hW17 := blk_below hW16 hb17
    have hG17 := blk_below hG16 hb17
    clear hA16 hH16 hW16 hG16 hbw16 hb17 rWf rWg rGb rGc q0 q1
    go_upto_region 24 with fail
    go_cut [14, 15] (fun s t wc => CutI w17 (Named n m A U V F) (dropOut n m A U V F x a) s t wc)
    case first =>
      have keepS : Hid (∀ w', Below w17.heap.size w17 w' → (w'.cell? ⟨w.heap.size, 0, none⟩ = some (.slice ao n c1) ∧ w'.cell? ⟨w.heap.size, 1, none⟩ = some (.slice bo m c2) ∧ w'.cell? ⟨w.heap.size + 1, 0, none⟩ = some (.int .i64 x) ∧ w'.cell? ⟨w.heap.size + 1, 1, none⟩ = some (.int .i64 a))) := fun w' hb => ⟨blk_cell (blk_below hA17 hb) 0 _ rfl, blk_cell (blk_below hA17 hb) 1 _ rfl, blk_cell (blk_below hH17 hb) 0 _ rfl, blk_cell (blk_below hH17 hb) 1 _ rfl⟩
      go_region_held3 (fun w' => w'.cell? ⟨w.heap.size, 0, none⟩ = some (.slice ao n c1) ∧ w'.cell? ⟨w.heap.size, 1, none⟩ = some (.slice bo m c2) ∧ w'.cell? ⟨w.heap.size + 1, 0, none⟩ = some (.int .i64 x) ∧ w'.cell? ⟨w.heap.size + 1, 1, none⟩ = some (.int .i64 a))
        ((refine keepS.out _ ?_; (repeat (first | exact Below.refl _ _ | refine Below.drew ?_ | refine push ?_ _ | refine setB ?_ ?_ _ | omega | refine after ?_ hb18 | refine after ?_ hb19 | refine after ?_ hb20))))
        (first | (go_at_call 9; refine (toArena_any ao bo n m c1 c2 A U V F _ (by omega) (by omega) (hx.below (after hbw17 (by (repeat (first | exact Below.refl _ _ | refine Below.drew ?_ | refine push ?_ _ | refine after ?_ hb18 | refine after ?_ hb19 | refine after ?_ hb20))))) (hy.below (after hbw17 (by (repeat (first | exact Below.refl _ _ | refine Below.drew ?_ | refine push ?_ _ | refine after ?_ hb18 | refine after ?_ hb19 | refine after ?_ hb20)))))).mono ?_; rintro e w18 ⟨g18, h18, rfl, _, _, _, hr18, hf18, hb18⟩; have s18 : w17.heap.size ≤ w18.heap.size := (by have := hb18.size; first | omega | (simp at this; omega))) | (go_at_call 10; refine (toHandle_any _ _ _).mono ?_; rintro e w19 ⟨rfl, hb19⟩; have s19 : w18.heap.size ≤ w19.heap.size := (by have := hb19.size; first | omega | (simp at this; omega))) | (go_at_call 18; refine (implDrop_any _ _ n m n m A U V F x a _ (by omega) (by omega) (by intro h; cases h) (SlotsAt.of_row (row_below hr18 (by (repeat (first | exact Below.refl _ _ | refine Below.drew ?_ | refine push ?_ _ | refine after ?_ hb19))))) (IntsAt.of_row (row_below hf18 (by (repeat (first | exact Below.refl _ _ | refine Below.drew ?_ | refine push ?_ _ | refine after ?_ hb19)))))).mono ?_; rintro e w20 ⟨ak, bk, ek, fk, o2, rfl, hK20, hans2, hb20⟩; have s20 : w19.heap.size ≤ w20.heap.size := (by have := hb20.size; first | omega | (simp at this; omega)); (first | (have hbx := blk_below (heap_alloc_new w19 (.cells #[.slice none 0 0, .slice none 0 0] 33)) hb20; have y0 := blk_cell hbx 0 _ rfl; have y1 := blk_cell hbx 1 _ rfl; have y2 := blk_free hbx 0; have y3 := blk_free hbx 1) | (have hbx := blk_below (heap_alloc_new w18 (.cells #[.slice none 0 0, .slice none 0 0] 33)) (after hb19 hb20); have y0 := blk_cell hbx 0 _ rfl; have y1 := blk_cell hbx 1 _ rfl; have y2 := blk_free hbx 0; have y3 := blk_free hbx 1) | (have hbx := blk_below (heap_alloc_new w17 (.cells #[.slice none 0 0, .slice none 0 0] 33)) (after (after (undrew hb18) hb19) hb20); have y0 := blk_cell hbx 0 _ rfl; have y1 := blk_cell hbx 1 _ rfl; have y2 := blk_free hbx 0; have y3 := blk_free hbx 1) | skip)))
      all_goals
        go_wp2_with fail
        go_meet
        first | exact cutI_last (by (repeat (first | exact Below.refl _ _ | refine Below.drew ?_ | refine push ?_ _ | refine after ?_ hb18 | refine after ?_ hb19 | refine after ?_ hb20))) hK20 (by have t0 := hb18.size; have t1 := hb19.size; have t2 := hb20.size; first | omega | (simp only [World.size_alloc, World.size_drew] at t0 t1 t2 ⊢; omega)) hans2 | exact cutI_first (by (repeat (first | exact Below.refl _ _ | refine Below.drew ?_ | refine push ?_ _ | refine after ?_ hb18 | refine after ?_ hb19 | refine after ?_ hb20))) hK20 hbx (by have t0 := hb18.size; have t1 := hb19.size; have t2 := hb20.size; first | omega | (simp only [World.size_alloc, World.size_drew] at t0 t1 t2 ⊢; omega)) (by have t0 := hb18.size; have t1 := hb19.size; have t2 := hb20.size; first | omega | (simp only [World.size_alloc, World.size_drew] at t0 t1 t2 ⊢; omega)) hans2
    case rest =>
    obtain ⟨w21, rfl⟩ : ∃ w21, w21 = wc := ⟨_, rfl⟩
    obtain ⟨K, ak, bk, ek, fk, o2, rfl, rfl, hK, hK21, hrK, hans2, hb21⟩ := hcut
    obtain rfl : o2 = o1 := answers_one (good_iff n m A U V F) HAN.out hans2
    have hW21 := blk_below hW17 hb21
    have hG21 := blk_below hG17 hb21
    have hbw21 := after hbw17 hb21
    have rWj := rWh.below hb21
    have rWk := rWi.below hb21
    have rGf := own_below hb21 rGd
    have rGg := own_below hb21 rGe
    have rK1 := hrK.1
    have rK2 := hrK.2
    clear hA17 hH17 hW17 hG17 hbw17 hb21 rWh rWi rGd rGe hrK hans2 hK
    have q0 := blk_cell hK21 0 _ rfl
    have q1 := blk_cell hK21 1 _ rfl
    have q2 := blk_cell hW21 0 _ rfl
    have q3 := blk_cell hW21 1 _ rfl
    go_wp2_with fail
    refine (eqArena_same ak bk aw bw o2.n o2.m _ _ _ _ o2.A o2.U o2.V o2.F _ (by omega) (by omega) (own_slots rK1) (own_ints rK2) rWj.slots rWk.ints).mono ?_
    rintro e w22 ⟨rfl, hb22⟩
    have hG22 := blk_below hG21 hb22
    have hbw22 := after hbw21 hb22
    have rGh := own_below hb22 rGf
    have rGi := own_below hb22 rGg
    clear hW21 hG21 hK21 hbw21 hb22 rWj rWk rGf rGg rK1 rK2 q0 q1 q2 q3
    have q0 := blk_cell hG22 0 _ rfl
    have q1 := blk_cell hG22 1 _ rfl
    go_wp2_with fail
    refine (heldArena_yes ag bg o2.n o2.m _ _ 1 _ hsz (by omega) (by omega) (own_slots rGh) (own_ints rGi)).mono ?_
    rintro e w23 ⟨rfl, hb23⟩
    go_wp2
    go_ret
    exact ⟨rfl, after hbw22 hb23⟩
  · go_enter Try.func5, Try.ntmps5
    go_wp2_with (first | (go_at_call 7; refine (szArena_over ao bo n m c1 c2 _ _ (by omega) (by omega) hn hm (by omega)).mono ?_; rintro e w1 ⟨rfl, hb1⟩))
    go_ret
    exact ⟨rfl, after h0 hb1⟩

end Go.Proofs.Yteniifnhbogbkaf
