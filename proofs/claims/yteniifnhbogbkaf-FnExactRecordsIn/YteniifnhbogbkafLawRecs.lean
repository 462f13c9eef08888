/-
  OWN TEXT: the walk of laws.FnExactRecordsIn: it returns true, and nothing that was there is written.
-/
import Derived.Test.YteniifnhbogbkafRecs
import Derived.Test.YteniifnhbogbkafMarkSlots
namespace Go.Proofs.Yteniifnhbogbkaf
open Go.RowKit

theorem same_recs {n m : Nat} {A : Nat → Int} {U : Nat → Bool} {V F : Nat → Int} {ok ok' : Bool} {l l' : List Int}
    (g1 : Good n m A U V F → ok = true ∧ l = recs U V n) (g2 : ¬ Good n m A U V F → ok = false ∧ l = [])
    (g3 : Named n m A U V F → ok' = true ∧ l' = recs U V n) (g4 : ¬ Named n m A U V F → ok' = false ∧ l' = []) : ok' = ok ∧ l' = l := by
  by_cases h : Good n m A U V F
  · have h' := (good_iff n m A U V F).1 h
    exact ⟨(g3 h').1.trans (g1 h).1.symm, (g3 h').2.trans (g1 h).2.symm⟩
  · have h' : ¬ Named n m A U V F := fun e => h ((good_iff n m A U V F).2 e)
    exact ⟨(g4 h').1.trans (g2 h).1.symm, (g4 h').2.trans (g2 h).2.symm⟩
theorem recs_short {n m : Nat} {A : Nat → Int} {U : Nat → Bool} {V F : Nat → Int} {ok : Bool} {l : List Int}
    (g1 : Good n m A U V F → ok = true ∧ l = recs U V n) (g2 : ¬ Good n m A U V F → ok = false ∧ l = []) : l.length ≤ n := by
  by_cases h : Good n m A U V F
  · rw [(g1 h).2]; exact recs_le U V n
  · rw [(g2 h).2]; exact Nat.zero_le _

set_option maxHeartbeats 3200000 in
theorem lawRecordsIn (ao bo : Option Addr) (n m c1 c2 : Nat) (A : Nat → Int) (U : Nat → Bool) (V F : Nat → Int) (w : World) (hn : n ≤ 1000000000000000) (hm : m ≤ 1000000000000000)
    (hx : SlotsAt w ao n A U V) (hy : IntsAt w bo m F) :
    Calls Try.prog 6 #[.agg #[.slice ao n c1, .slice bo m c2]] w fun e w' => e = .returned (.bool true) ∧ Below w.heap.size w w' := by
  have h0 : Below w.heap.size w (w.alloc (.cells #[.slice ao n c1, .slice bo m c2] 25)) := push (Below.refl _ _) _
  have hA0 : (w.alloc (.cells #[.slice ao n c1, .slice bo m c2] 25)).heap[w.heap.size]? = some (.cells #[.slice ao n c1, .slice bo m c2] 25 (0, 0)) := heap_alloc_new w _
  by_cases hs : n + m ≤ 1048576
  · go_enter Try.func6, Try.ntmps6
    go_wp2_with fail
    refine (szArena_fits ao bo n m c1 c2 _ _ (by omega) (by omega)).mono ?_
    rintro e w1 ⟨rfl, hb1⟩
    have hbw1 := after h0 hb1
    have hA1 := blk_below hA0 hb1
    clear h0 hA0 hb1
    have q0 := blk_cell hA1 0 _ rfl
    have q1 := blk_cell hA1 1 _ rfl
    go_wp2_with fail
    refine (toArena_any ao bo n m c1 c2 A U V F _ (by omega) (by omega) (hx.below hbw1) (hy.below hbw1)).mono ?_
    rintro e w2 ⟨g, h, rfl, _, _, _, hr, hf, hb2⟩
    have hA2 := blk_below hA1 hb2
    have hbw2 := after hbw1 hb2
    clear hA1 hbw1 hb2 q0 q1
    go_wp2_with fail
    refine (specRecs_any _ _ n m n m A U V F _ (by omega) (by omega) (Nat.le_refl _) (by omega) (SlotsAt.of_row hr) (IntsAt.of_row hf)).mono ?_
    rintro e w3 ⟨v0, ok, l, rfl, hW3, gg1, gg2, hb3⟩
    have hlen := recs_short gg1 gg2
    have HG : Hid ((Good n m A U V F → ok = true ∧ l = recs U V n) ∧ (¬ Good n m A U V F → ok = false ∧ l = [])) := ⟨gg1, gg2⟩
    obtain ⟨a0, d0, rfl, _, _, _⟩ := own_form hW3
    have hA3 := blk_below hA2 hb3
    have hbw3 := after hbw2 hb3
    have hlt3 := head_ge hW3
    clear gg1 gg2 hA2 hbw2 hb3 hr hf
    have q0 := blk_cell hA3 0 _ rfl
    have q1 := blk_cell hA3 1 _ rfl
    go_wp2_with fail
    refine (toArena_any ao bo n m c1 c2 A U V F _ (by omega) (by omega) (hx.below hbw3) (hy.below hbw3)).mono ?_
    rintro e w5 ⟨g3, h3, rfl, hg3, hh3, _, hr, hf, hb5⟩
    have hA5 := blk_alloc (blk_below hA3 hb5) (.cells #[.slice (some ⟨g3, 0, none⟩) n n, .slice (some ⟨h3, 0, none⟩) m m] 33)
    have hX5 := heap_alloc_new w5 (.cells #[.slice (some ⟨g3, 0, none⟩) n n, .slice (some ⟨h3, 0, none⟩) m m] 33)
    have hbw5 := push (after hbw3 hb5) (.cells #[.slice (some ⟨g3, 0, none⟩) n n, .slice (some ⟨h3, 0, none⟩) m m] 33)
    have hr5 := hr.alloc (.cells #[.slice (some ⟨g3, 0, none⟩) n n, .slice (some ⟨h3, 0, none⟩) m m] 33)
    have hf5 := hf.alloc (.cells #[.slice (some ⟨g3, 0, none⟩) n n, .slice (some ⟨h3, 0, none⟩) m m] 33)
    have hW5 := (own_below hb5 hW3).alloc (.cells #[.slice (some ⟨g3, 0, none⟩) n n, .slice (some ⟨h3, 0, none⟩) m m] 33)
    have hsz3 := hbw3.size
    have HS : Hid ((∀ b, headOf a0 b → b < g3 ∧ b < h3) ∧ w.heap.size < g3 ∧ w.heap.size < h3 ∧ g3 < w5.heap.size ∧ h3 < w5.heap.size) := ⟨(fun b hb => by have := (hlt3 b hb).2; omega), by have := blk_lt hA3; omega, by have := blk_lt hA3; omega, hr.lt, hf.lt⟩
    clear hA3 hbw3 hb5 hr hf hW3 q0 q1 hlt3 hg3 hh3 hsz3
    go_wp2_with fail
    refine (implRecs_any _ _ n m n m A U V F _ (by omega) (by omega) (by intro h; cases h) (SlotsAt.of_row hr5) (IntsAt.of_row hf5)).mono ?_
    rintro e w6 ⟨v1, ok', l', rfl, hG6, gg3, gg4, hb6⟩
    obtain ⟨rfl, rfl⟩ := same_recs HG.out.1 HG.out.2 gg3 gg4
    obtain ⟨a1, d1, rfl, _, _, _⟩ := own_form hG6
    have HT : Hid (∀ b, headOf a1 b → w5.heap.size < b) := fun b hb => by have := (head_ge hG6 b hb).1; simp at this; omega
    have hA6 := blk_below hA5 hb6
    have hX6 := blk_below hX5 hb6
    have hbw6 := after hbw5 hb6
    have hr6 := row_below hr5 hb6
    have hf6 := row_below hf5 hb6
    have hW6 := own_below hb6 hW5
    clear gg3 gg4 hA5 hX5 hbw5 hb6 hr5 hf5 hW5
    go_wp2_with fail
    refine (eqIntS_same _ _ _ _ _ (getI l') _ (by omega) (own_ints hG6) (own_ints hW6)).mono ?_
    rintro e w7 ⟨rfl, hb7⟩
    have hA7 := blk_below hA6 hb7
    have hX7 := blk_below hX6 hb7
    have hbw7 := after hbw6 hb7
    have hr7 := row_below hr6 hb7
    have hf7 := row_below hf6 hb7
    have hW7 := own_below hb7 hW6
    have hG7 := own_below hb7 hG6
    clear hA6 hX6 hbw6 hb7 hr6 hf6 hW6 hG6
    have dA : w7.drew.heap[w.heap.size]? = some (.cells #[.slice ao n c1, .slice bo m c2] 25 (0, 0)) := hA7
    have dX : w7.drew.heap[w5.heap.size]? = some (.cells #[.slice (some ⟨g3, 0, none⟩) n n, .slice (some ⟨h3, 0, none⟩) m m] 33 (0, 0)) := hX7
    go_wp2
    go_region_held3 (fun w' => w'.cell? ⟨w.heap.size, 0, none⟩ = some (.slice ao n c1) ∧ w'.cell? ⟨w.heap.size, 1, none⟩ = some (.slice bo m c2) ∧ w'.cell? ⟨w5.heap.size, 0, none⟩ = some (.slice (some ⟨g3, 0, none⟩) n n) ∧ w'.cell? ⟨w5.heap.size, 1, none⟩ = some (.slice (some ⟨h3, 0, none⟩) m m))
      (first | exact ⟨blk_cell (blk_below (blk_below dA hb8) hb9) 0 _ rfl, blk_cell (blk_below (blk_below dA hb8) hb9) 1 _ rfl, blk_cell (blk_below (blk_below dX hb8) hb9) 0 _ rfl, blk_cell (blk_below (blk_below dX hb8) hb9) 1 _ rfl⟩ | exact ⟨blk_cell (blk_below dA hb8) 0 _ rfl, blk_cell (blk_below dA hb8) 1 _ rfl, blk_cell (blk_below dX hb8) 0 _ rfl, blk_cell (blk_below dX hb8) 1 _ rfl⟩ | exact ⟨blk_cell dA 0 _ rfl, blk_cell dA 1 _ rfl, blk_cell dX 0 _ rfl, blk_cell dX 1 _ rfl⟩)
      (first | (go_at_call 9; refine (toArena_any ao bo n m c1 c2 A U V F _ (by omega) (by omega) (hx.below hbw7.drew) (hy.below hbw7.drew)).mono ?_; rintro e w8 ⟨g8, h8, rfl, _, _, _, hr8, hf8, hb8⟩) | (go_at_call 12; refine (eqArena_same _ _ _ _ n m n m n m A U V F _ (by omega) (by omega) (SlotsAt.of_row (row_below hr7.drew hb8)) (IntsAt.of_row (row_below hf7.drew hb8)) (SlotsAt.of_row hr8) (IntsAt.of_row hf8)).mono ?_; rintro e w9 ⟨rfl, hb9⟩))
    have hA9 := blk_below (blk_below dA hb8) hb9
    have hX9 := blk_below (blk_below dX hb8) hb9
    have hbw9 := after (after hbw7.drew hb8) hb9
    have hr9 := row_below (row_below hr7.drew hb8) hb9
    have hf9 := row_below (row_below hf7.drew hb8) hb9
    have hW9 := own_below hb9 (own_below hb8 hW7.drew)
    have hG9 := own_below hb9 (own_below hb8 hG7.drew)
    clear dA dX hA7 hX7 hbw7 hb8 hb9 hr7 hf7 hW7 hG7 hr8 hf8
    have x0 := blk_cell hX9 0 _ rfl
    have x1 := blk_cell hX9 1 _ rfl
    go_wp2_with fail
    refine (markArena_own _ _ n m n m 0 0 A U V F 1 _ hs (by omega) (by omega) (own_of_row hr9 (Nat.zero_le _) (by unfold maxLen; omega)) (by have := own_of_row (size := 1) (n := m) (base := 0) (by rw [Nat.mul_one]; exact hf9) (Nat.zero_le _) (by unfold maxLen; omega); rw [Nat.mul_one] at this; exact this)).mono ?_
    rintro e w10 ⟨rfl, _, _, hk10⟩
    have hA10 := hk10.blk hA9 (by rintro (⟨g', e1, e2⟩ | ⟨g', e1, e2⟩) <;> (simp at e1; have := HS.out.2; omega))
    have hbw10 := Kept.below hbw9 hbw9.size hk10 (by rintro b (⟨g', e1, e2⟩ | ⟨g', e1, e2⟩) <;> (simp at e1; have := HS.out.2; omega))
    have hW10 := hk10.own hW9 (by intro b hb; have hb' := HS.out.1 b (own_head rfl hW9 hb); rintro (⟨g', e1, e2⟩ | ⟨g', e1, e2⟩) <;> (simp at e1 <;> omega))
    have hG10 := hk10.own hG9 (by intro b hb; have hb' := HT.out b (own_head rfl hG9 hb); have := HS.out.2; rintro (⟨g', e1, e2⟩ | ⟨g', e1, e2⟩) <;> (simp at e1 <;> omega))
    clear hA9 hX9 hbw9 hr9 hf9 hW9 hG9 hk10 x0 x1
    have e0 : decide ((1 : Int) + 3 * (n : Int) + (m : Int) < 0) = false := by simp; omega
    go_wp2_with fail
    refine (eqIntS_same _ _ _ _ _ (getI l') _ (by omega) (own_ints hG10) (own_ints hW10)).mono ?_
    rintro e w11 ⟨rfl, hb11⟩
    have hA11 := blk_below hA10 hb11
    have hbw11 := after hbw10 hb11
    have hW11 := own_below hb11 hW10
    have hG11 := own_below hb11 hG10
    clear hA10 hbw10 hb11 hW10 hG10
    go_wp2_with fail
    refine (markIntS_own a1 l'.length d1 _ (getI l') 1 _ (by omega) (by omega) (by omega) hG11).mono ?_
    rintro e w12 ⟨rfl, hG12, hk12⟩
    have hA12 := hk12.blk hA11 (by rintro ⟨g', e1, e2⟩; have := HT.out g' ⟨g', e1, rfl⟩; have := HS.out.2; omega)
    have hbw12 := Kept.below hbw11 hbw11.size hk12 (by rintro b ⟨g', e1, e2⟩; have := HT.out g' ⟨g', e1, rfl⟩; have := HS.out.2; omega)
    have hW12 := hk12.own hW11 (by intro b hb; have hb' := HS.out.1 b (own_head rfl hW11 hb); rintro ⟨g', e1, e2⟩; have := HT.out g' ⟨g', e1, rfl⟩; have := HS.out.2; omega)
    clear hA11 hbw11 hW11 hG11 hk12
    go_wp2_with fail
    refine (heldIntS_yes a1 l'.length d1 1 _ (by omega) (by omega) (by omega) (own_ints hG12)).mono ?_
    rintro e w13 ⟨rfl, rfl⟩
    have q0 := blk_cell hA12 0 _ rfl
    have q1 := blk_cell hA12 1 _ rfl
    go_wp2_with fail
    refine (toArena_any ao bo n m c1 c2 A U V F _ (by omega) (by omega) (hx.below hbw12) (hy.below hbw12)).mono ?_
    rintro e w14 ⟨g14, h14, rfl, _, _, _, hr14, hf14, hb14⟩
    have hbw14 := after hbw12 hb14
    have hW14 := own_below hb14 hW12
    have hG14 := own_below hb14 hG12
    clear hA12 hbw12 hb14 hW12 hG12 q0 q1
    go_wp2_with fail
    refine (implRecs_any _ _ n m n m A U V F _ (by omega) (by omega) (by intro h; cases h) (SlotsAt.of_row hr14) (IntsAt.of_row hf14)).mono ?_
    rintro e w15 ⟨v2, ok2, l2, rfl, hH15, gg5, gg6, hb15⟩
    obtain ⟨rfl, rfl⟩ := same_recs HG.out.1 HG.out.2 gg5 gg6
    obtain ⟨a2, d2, rfl, _, _, _⟩ := own_form hH15
    have hbw15 := after hbw14 hb15
    have hW15 := own_below hb15 hW14
    have hG15 := own_below hb15 hG14
    clear gg5 gg6 hbw14 hb15 hW14 hG14 hr14 hf14
    go_wp2_with fail
    refine (eqIntS_same _ _ _ _ _ (getI l2) _ (by omega) (own_ints hH15) (own_ints hW15)).mono ?_
    rintro e w16 ⟨rfl, hb16⟩
    have hbw16 := after hbw15 hb16
    have hG16 := own_below hb16 hG15
    clear hbw15 hb16 hG15 hW15 hH15
    go_wp2_with fail
    refine (heldIntS_yes a1 l2.length d1 1 _ (by omega) (by omega) (by omega) (own_ints hG16)).mono ?_
    rintro e w17 ⟨rfl, rfl⟩
    go_wp2
    go_ret
    exact ⟨rfl, hbw16⟩
  · go_enter Try.func6, Try.ntmps6
    go_wp2_with (first | (go_at_call 7; refine (szArena_over ao bo n m c1 c2 _ _ (by omega) (by omega) hn hm (by omega)).mono ?_; rintro e w1 ⟨rfl, hb1⟩))
    go_ret
    exact ⟨rfl, after h0 hb1⟩

end Go.Proofs.Yteniifnhbogbkaf
