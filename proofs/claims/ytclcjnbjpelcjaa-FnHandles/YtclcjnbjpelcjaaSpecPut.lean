/-
  OWN TEXT: the contract of spec.PutRecord.
-/
import Derived.Test.YtclcjnbjpelcjaaSpec2
import Derived.Test.YtclcjnbjpelcjaaKit5
namespace Go.Proofs.Ytclcjnbjpelcjaa
open Go.RowKit

set_option maxHeartbeats 6400000 in
set_option maxRecDepth 100000 in
theorem specPut_any (ao bo : Option Addr) (n m c1 c2 : Nat) (A : Nat → Int) (U : Nat → Bool) (V F : Nat → Int) (u : Int) (w : World) (hn : n ≤ 1048576) (hm : m ≤ 1048576) (hcap : m ≤ c2) (hc2 : c2 ≤ 9223372036854775807) (hn1 : ao = none → n = 0 ∧ c1 = 0) (hn2 : bo = none → m = 0 ∧ c2 = 0)
    (hx : SlotsAt w ao n A U V) (hy : IntsAt w bo m F) :
    Calls Try.prog 10 #[.agg #[.slice ao n c1, .slice bo m c2], .int .i64 u] w fun e w' => ∃ ao' bo' d1 d2 o, e = .returned (.tuple #[.agg #[.slice ao' o.1.n d1, .slice bo' o.1.m d2], .agg #[.int .i64 o.2.1, .int .i64 o.2.2], .int .i64 o.1.c]) ∧
      OutLoose w' w.heap.size (.slice ao' o.1.n d1) (.slice bo' o.1.m d2) o.1 ∧ AnswersH (Good n m A U V F) (putOut n m A U V F u) o ∧ Below w.heap.size w w' := by
  obtain ⟨i0, hi, hz0, hz1, hz2⟩ := info_parts Try.infoSlot
  have h0 : Below w.heap.size w (((w.alloc (.cells #[.slice ao n c1, .slice bo m c2] 26)).alloc (.cells #[.slice none 0 0, .slice none 0 0] 26)).alloc (.cells #[.int .i64 0, .int .i64 0] 30)) := push (push (push (Below.refl _ _) _) _) _
  have hA0 : (((w.alloc (.cells #[.slice ao n c1, .slice bo m c2] 26)).alloc (.cells #[.slice none 0 0, .slice none 0 0] 26)).alloc (.cells #[.int .i64 0, .int .i64 0] 30)).heap[w.heap.size]? = some (.cells #[.slice ao n c1, .slice bo m c2] 26 (0, 0)) := blk_alloc (blk_alloc (heap_alloc_new w _) _) _
  have hR0 : (((w.alloc (.cells #[.slice ao n c1, .slice bo m c2] 26)).alloc (.cells #[.slice none 0 0, .slice none 0 0] 26)).alloc (.cells #[.int .i64 0, .int .i64 0] 30)).heap[w.heap.size + 1]? = some (.cells #[.slice none 0 0, .slice none 0 0] 26 (0, 0)) := blk_alloc (by simpa using heap_alloc_new (w.alloc _) _) _
  have hH0 : (((w.alloc (.cells #[.slice ao n c1, .slice bo m c2] 26)).alloc (.cells #[.slice none 0 0, .slice none 0 0] 26)).alloc (.cells #[.int .i64 0, .int .i64 0] 30)).heap[w.heap.size + 1 + 1]? = some (.cells #[.int .i64 0, .int .i64 0] 30 (0, 0)) := by simpa using heap_alloc_new ((w.alloc _).alloc _) _
  go_enter Try.func10, Try.ntmps10
  go_wp2_with fail
  refine (specGood_any ao bo n m c1 c2 A U V F _ hn hm hcap hc2 (hx.below h0) (hy.below h0)).mono ?_
  rintro e w1 ⟨bb, rfl, hiff, hb1⟩
  have hbw1 := after h0 hb1
  have hA1 := blk_below hA0 hb1
  have hH1 := blk_below hH0 hb1
  have hR1 := blk_below hR0 hb1
  have HI : Hid (bb = true ↔ Good n m A U V F) := hiff
  clear h0 hA0 hH0 hR0 hb1 hiff
  cases bb with
  | true =>
    have HG : Hid (Good n m A U V F) := HI.out.1 rfl
    clear HI
    have q0 := blk_cell hA1 0 _ rfl
    have q1 := blk_cell hA1 1 _ rfl
    go_wp2_with fail
    refine (l1Own_any ao bo n m c1 c2 A U V F _ hn hm hn1 hn2 (hx.below hbw1) (hy.below hbw1)).mono ?_
    rintro e w2 ⟨ao', bo', d1, d2, rfl, hd1, hd2, hd3, p1, p2, hb2⟩
    have hbw2 := after hbw1 hb2
    have hA2 := blk_below hA1 hb2
    have hH2 := blk_below hH1 hb2
    have hR2 := blk_below hR1 hb2
    have hlt := blk_lt hH1
    have hlt2 : w1.heap.size ≤ w2.heap.size := hb2.size
    clear hA1 hH1 hR1 hb2 hbw1 q0 q1
    have y0 := blk_cell hA2 0 _ rfl
    have y1 := blk_cell hA2 1 _ rfl
    have y2 := blk_free hA2 0
    have y3 := blk_free hA2 1
    have hfew := good_few' HG.out
    by_cases hm0 : 0 < m
    · obtain ⟨q, hq, hqn⟩ := good_last HG.out hm0
      have HO : Hid (putOut n m A U V F u = (⟨n, m - 1, A, put U q true, put V q u, F, 0⟩, (q : Int), A q)) := by unfold Hid putOut; rw [if_pos hm0, hq, Int.toNat_natCast]
      rcases p1 with ⟨hz, _⟩ | ⟨_, p1⟩
      · omega
      rcases p2 with ⟨hz, _⟩ | ⟨_, p2⟩
      · omega
      obtain ⟨g, rfl, hg1, hg2⟩ := own_addr p1 (by omega)
      obtain ⟨g2, rfl, hg3, hg4⟩ := own_addr p2 (by omega)
      have s3 := own_cell p2 (m - 1) (by omega) (by omega)
      rw [hq] at s3
      have n1 : ¬ (g = w.heap.size) := by omega
      have n2 : ¬ (g2 = w.heap.size) := by omega
      have hqn' : (q : Int) < (n : Int) := by omega
      have hm1 : (0 : Int) < (m : Int) := by omega
      have hm2 : ((m : Int) - 1).toNat = m - 1 := by omega
      have hm3 : (m : Int) - 1 < (m : Int) := by omega
      have hm4 : (0 : Int) ≤ (m : Int) - 1 := by omega
      go_upto_region 12 with fail
      have hA5 : (((w2.setCell ⟨w.heap.size, 0, none⟩ (.slice (some ⟨g, 0, none⟩) n d1)).setCell ⟨w.heap.size, 1, none⟩ (.slice (some ⟨g2, 0, none⟩) m d2)).setCell ⟨w.heap.size, 1, none⟩ (.slice (some ⟨g2, 0, none⟩) (m - 1) d2)).heap[w.heap.size]? = some (.cells #[.slice (some ⟨g, 0, none⟩) n d1, .slice (some ⟨g2, 0, none⟩) (m - 1) d2] 26 (0, 0)) := blk_set (blk_set (blk_set hA2 0 _) 1 _) 1 _
      have hR5 : (((w2.setCell ⟨w.heap.size, 0, none⟩ (.slice (some ⟨g, 0, none⟩) n d1)).setCell ⟨w.heap.size, 1, none⟩ (.slice (some ⟨g2, 0, none⟩) m d2)).setCell ⟨w.heap.size, 1, none⟩ (.slice (some ⟨g2, 0, none⟩) (m - 1) d2)).heap[w.heap.size + 1]? = some (.cells #[.slice none 0 0, .slice none 0 0] 26 (0, 0)) := blk_set_other (blk_set_other (blk_set_other hR2 _ _ (by omega)) _ _ (by omega)) _ _ (by omega)
      have hH5 : (((w2.setCell ⟨w.heap.size, 0, none⟩ (.slice (some ⟨g, 0, none⟩) n d1)).setCell ⟨w.heap.size, 1, none⟩ (.slice (some ⟨g2, 0, none⟩) m d2)).setCell ⟨w.heap.size, 1, none⟩ (.slice (some ⟨g2, 0, none⟩) (m - 1) d2)).heap[w.heap.size + 1 + 1]? = some (.cells #[.int .i64 0, .int .i64 0] 30 (0, 0)) := blk_set_other (blk_set_other (blk_set_other hH2 _ _ (by omega)) _ _ (by omega)) _ _ (by omega)
      have hbw5 : Below w.heap.size w (((w2.setCell ⟨w.heap.size, 0, none⟩ (.slice (some ⟨g, 0, none⟩) n d1)).setCell ⟨w.heap.size, 1, none⟩ (.slice (some ⟨g2, 0, none⟩) m d2)).setCell ⟨w.heap.size, 1, none⟩ (.slice (some ⟨g2, 0, none⟩) (m - 1) d2)) := ((hbw2.setCell (by show w.heap.size ≤ w.heap.size; omega) _).setCell (by show w.heap.size ≤ w.heap.size; omega) _).setCell (by show w.heap.size ≤ w.heap.size; omega) _
      have k4 : World.ownsRow (((w2.setCell ⟨w.heap.size, 0, none⟩ (.slice (some ⟨g, 0, none⟩) n d1)).setCell ⟨w.heap.size, 1, none⟩ (.slice (some ⟨g2, 0, none⟩) m d2)).setCell ⟨w.heap.size, 1, none⟩ (.slice (some ⟨g2, 0, none⟩) (m - 1) d2)) _ _ _ _ _ _ := own_set (own_set (own_set p1 (by show w.heap.size < _; omega) _) (by show w.heap.size < _; omega) _) (by show w.heap.size < _; omega) _
      have k5 : World.ownsRow (((w2.setCell ⟨w.heap.size, 0, none⟩ (.slice (some ⟨g, 0, none⟩) n d1)).setCell ⟨w.heap.size, 1, none⟩ (.slice (some ⟨g2, 0, none⟩) m d2)).setCell ⟨w.heap.size, 1, none⟩ (.slice (some ⟨g2, 0, none⟩) (m - 1) d2)) _ _ _ _ _ _ := own_set (own_set (own_set (own_cut p2 hm0) (by show w.heap.size < _; omega) _) (by show w.heap.size < _; omega) _) (by show w.heap.size < _; omega) _
      have k3 : LooseRow (((w2.setCell ⟨w.heap.size, 0, none⟩ (.slice (some ⟨g, 0, none⟩) n d1)).setCell ⟨w.heap.size, 1, none⟩ (.slice (some ⟨g2, 0, none⟩) m d2)).setCell ⟨w.heap.size, 1, none⟩ (.slice (some ⟨g2, 0, none⟩) (m - 1) d2)) w1.heap.size 3 1 (.slice (some ⟨g2, 0, none⟩) (m - 1) d2) (m - 1) (intList F (m - 1)) := .inr k5
      clear p1 p2 k5 hA2 hH2 hR2 hbw2 y0 y1 y2 y3 s3
      generalize (((w2.setCell ⟨w.heap.size, 0, none⟩ (.slice (some ⟨g, 0, none⟩) n d1)).setCell ⟨w.heap.size, 1, none⟩ (.slice (some ⟨g2, 0, none⟩) m d2)).setCell ⟨w.heap.size, 1, none⟩ (.slice (some ⟨g2, 0, none⟩) (m - 1) d2)) = W at *
      have q0 := blk_cell hA5 0 _ rfl
      have q1 := blk_cell hA5 1 _ rfl
      have s1 := own_cell k4 (q * 3 + 1) (by omega) rfl
      have s2 := own_cell k4 (q * 3 + 2) (by omega) rfl
      have sf1 := k4.frozenAt (q * 3 + 1)
      have sf2 := k4.frozenAt (q * 3 + 2)
      go_upto_region 14 with fail
      have k6 := own_used (q := q) (u := u) k4
      have k7 := LooseRow.far (LooseRow.far k3 k4 (by decide) (q * 3 + 1) (.bool true)) (own_store k4 _ _) (by decide) (q * 3 + 2) (.int .i64 u)
      have hA7 : ((W.setCell ⟨g, q * 3 + 1, none⟩ (.bool true)).setCell ⟨g, q * 3 + 2, none⟩ (.int .i64 u)).heap[w.heap.size]? = some (.cells #[(.slice (some ⟨g, 0, none⟩) n d1), .slice (some ⟨g2, 0, none⟩) (m - 1) d2] 26 (0, 0)) := blk_set_other (blk_set_other hA5 _ _ (by omega)) _ _ (by omega)
      have hR7 : ((W.setCell ⟨g, q * 3 + 1, none⟩ (.bool true)).setCell ⟨g, q * 3 + 2, none⟩ (.int .i64 u)).heap[w.heap.size + 1]? = some (.cells #[.slice none 0 0, .slice none 0 0] 26 (0, 0)) := blk_set_other (blk_set_other hR5 _ _ (by omega)) _ _ (by omega)
      have hH7 : ((W.setCell ⟨g, q * 3 + 1, none⟩ (.bool true)).setCell ⟨g, q * 3 + 2, none⟩ (.int .i64 u)).heap[w.heap.size + 1 + 1]? = some (.cells #[.int .i64 0, .int .i64 0] 30 (0, 0)) := blk_set_other (blk_set_other hH5 _ _ (by omega)) _ _ (by omega)
      have hbw7 : Below w.heap.size w ((W.setCell ⟨g, q * 3 + 1, none⟩ (.bool true)).setCell ⟨g, q * 3 + 2, none⟩ (.int .i64 u)) := (hbw5.setCell (by show w.heap.size ≤ g; omega) _).setCell (by show w.heap.size ≤ g; omega) _
      have c7 := own_cell k6 (q * 3) (by omega) rfl
      rw [slotCell_0] at c7
      clear k3 k4 hA5 hR5 hH5 hbw5 q0 q1 s1 s2 sf1 sf2
      generalize ((W.setCell ⟨g, q * 3 + 1, none⟩ (.bool true)).setCell ⟨g, q * 3 + 2, none⟩ (.int .i64 u)) = X at *
      have q0 := blk_cell hA7 0 _ rfl
      have q1 := blk_cell hA7 1 _ rfl
      have y5 := blk_cell hR7 0 _ rfl
      have y6 := blk_cell hR7 1 _ rfl
      have y7 := blk_free hR7 0
      have y8 := blk_free hR7 1
      have y9 := blk_cell hH7 0 _ rfl
      have y10 := blk_cell hH7 1 _ rfl
      have y11 := blk_free hH7 0
      have y12 := blk_free hH7 1
      go_region_held3 (fun w' => w'.cell? ⟨w.heap.size, 0, none⟩ = some ((.slice (some ⟨g, 0, none⟩) n d1)) ∧ w'.cell? ⟨w.heap.size, 1, none⟩ = some (.slice (some ⟨g2, 0, none⟩) (m - 1) d2) ∧ w'.cell? ⟨g, q * 3, none⟩ = some (.int .i64 (A q)))
        (first | exact ⟨q0, q1, c7⟩ | exact ⟨(World.cell?_setCell_other _ _ _ _ (by simp <;> omega)).trans ((World.cell?_setCell_other _ _ _ _ (by simp <;> omega)).trans q0), (World.cell?_setCell_other _ _ _ _ (by simp <;> omega)).trans ((World.cell?_setCell_other _ _ _ _ (by simp <;> omega)).trans q1), (World.cell?_setCell_other _ _ _ _ (by simp <;> omega)).trans ((World.cell?_setCell_other _ _ _ _ (by simp <;> omega)).trans c7)⟩ | exact ⟨(World.cell?_setCell_other _ _ _ _ (by simp <;> omega)).trans ((World.cell?_setCell_other _ _ _ _ (by simp <;> omega)).trans ((World.cell?_setCell_other _ _ _ _ (by simp <;> omega)).trans ((World.cell?_setCell_other _ _ _ _ (by simp <;> omega)).trans q0))), (World.cell?_setCell_other _ _ _ _ (by simp <;> omega)).trans ((World.cell?_setCell_other _ _ _ _ (by simp <;> omega)).trans ((World.cell?_setCell_other _ _ _ _ (by simp <;> omega)).trans ((World.cell?_setCell_other _ _ _ _ (by simp <;> omega)).trans q1))), (World.cell?_setCell_other _ _ _ _ (by simp <;> omega)).trans ((World.cell?_setCell_other _ _ _ _ (by simp <;> omega)).trans ((World.cell?_setCell_other _ _ _ _ (by simp <;> omega)).trans ((World.cell?_setCell_other _ _ _ _ (by simp <;> omega)).trans c7)))⟩)
        (fail)
      all_goals
        go_wp2
        generalize hFw : ((((X.setCell ⟨w.heap.size + 1, 0, none⟩ (.slice (some ⟨g, 0, none⟩) n d1)).setCell ⟨w.heap.size + 1, 1, none⟩ (.slice (some ⟨g2, 0, none⟩) (m - 1) d2)).setCell ⟨w.heap.size + 1 + 1, 0, none⟩ (.int .i64 q)).setCell ⟨w.heap.size + 1 + 1, 1, none⟩ (.int .i64 (A q))).drew = Fw
        obtain ⟨z0, z1, z2, z3, hbF, hl, -⟩ := two_boxes_drew (X := X) (.slice (some ⟨g, 0, none⟩) n d1) (.slice (some ⟨g2, 0, none⟩) (m - 1) d2) (.int .i64 q) (.int .i64 (A q)) hR7 hH7 hbw7 _ hFw
        exact bodyPost_ret (v := .tuple #[.agg #[(.slice (some ⟨g, 0, none⟩) n d1), .slice (some ⟨g2, 0, none⟩) (m - 1) d2], .agg #[.int .i64 q, .int .i64 (A q)], .int .i64 0]) (by simp [results, Try.results10, go_sem, z0, z1, z2, z3]) rfl ⟨_, _, _, _, (⟨n, m - 1, A, put U q true, put V q u, F, 0⟩, (q : Int), A q), rfl, ⟨hl _ _ _ _ _ _ hlt (.inr k6), hl _ _ _ _ _ _ hlt k7⟩, ⟨fun _ => HO.out.symm, fun h => absurd HG.out h⟩, hbF⟩
    · obtain rfl : m = 0 := by omega
      by_cases h20 : n = 20
      · subst h20
        have HO : Hid (putOut 20 0 A U V F u = (⟨20, 0, A, U, V, F, 2⟩, 0, 0)) := by unfold Hid putOut; rw [if_neg hm0, if_pos rfl]
        have y5 := blk_cell hR2 0 _ rfl
        have y6 := blk_cell hR2 1 _ rfl
        have y7 := blk_free hR2 0
        have y8 := blk_free hR2 1
        have y9 := blk_cell hH2 0 _ rfl
        have y10 := blk_cell hH2 1 _ rfl
        have y11 := blk_free hH2 0
        have y12 := blk_free hH2 1
        go_wp2
        generalize hFw : (((((w2.setCell ⟨w.heap.size, 0, none⟩ (.slice ao' 20 d1)).setCell ⟨w.heap.size, 1, none⟩ (.slice bo' 0 d2)).setCell ⟨w.heap.size + 1, 0, none⟩ (.slice ao' 20 d1)).setCell ⟨w.heap.size + 1, 1, none⟩ (.slice bo' 0 d2)).setCell ⟨w.heap.size + 1 + 1, 0, none⟩ (.int .i64 0)).setCell ⟨w.heap.size + 1 + 1, 1, none⟩ (.int .i64 0) = Fw
        obtain ⟨z0, z1, z2, z3, hbF, hl, -⟩ := two_boxes (X := ((w2.setCell ⟨w.heap.size, 0, none⟩ (.slice ao' 20 d1)).setCell ⟨w.heap.size, 1, none⟩ (.slice bo' 0 d2))) (.slice ao' 20 d1) (.slice bo' 0 d2) (.int .i64 0) (.int .i64 0) (blk_set_other (blk_set_other hR2 _ _ (by omega)) _ _ (by omega)) (blk_set_other (blk_set_other hH2 _ _ (by omega)) _ _ (by omega)) ((hbw2.setCell (by show w.heap.size ≤ w.heap.size; omega) _).setCell (by show w.heap.size ≤ w.heap.size; omega) _) _ hFw
        exact bodyPost_ret (v := .tuple #[.agg #[.slice ao' 20 d1, .slice bo' 0 d2], .agg #[.int .i64 0, .int .i64 0], .int .i64 2]) (by simp [results, Try.results10, go_sem, z0, z1, z2, z3]) rfl ⟨_, _, _, _, (⟨20, 0, A, U, V, F, 2⟩, 0, 0), rfl, ⟨hl _ _ _ _ _ _ hlt (LooseRow.of_spec (SpecRow.set (SpecRow.set p1 (by show w.heap.size < _; omega) _) (by show w.heap.size < _; omega) _)), hl _ _ _ _ _ _ hlt (LooseRow.of_spec (SpecRow.set (SpecRow.set p2 (by show w.heap.size < _; omega) _) (by show w.heap.size < _; omega) _))⟩, ⟨fun _ => HO.out.symm, fun h => absurd HG.out h⟩, hbF⟩
      · have HO : Hid (putOut n 0 A U V F u = (⟨n + 1, 0, put A n 0, put U n true, put V n u, F, 0⟩, (n : Int), 0)) := by unfold Hid putOut; rw [if_neg hm0, if_neg h20]
        have e20 : ((n : Int) == 20) = false := by simpa using (show ¬ (n : Int) = 20 by omega)
        go_upto_region 11 with fail
        have HF : Hid (slotList (put A n 0) (put U n false) (put V n 0) (n + 1) = slotList A U V n ++ [.int .i64 0, .bool false, .int .i64 0]) := slotList_put A U V n 0 0 false
        have hA5 : ((w2.setCell ⟨w.heap.size, 0, none⟩ (.slice ao' n d1)).setCell ⟨w.heap.size, 1, none⟩ (.slice bo' 0 d2)).heap[w.heap.size]? = some (.cells #[.slice ao' n d1, .slice bo' 0 d2] 26 (0, 0)) := blk_set (blk_set hA2 0 _) 1 _
        have hR5 : ((w2.setCell ⟨w.heap.size, 0, none⟩ (.slice ao' n d1)).setCell ⟨w.heap.size, 1, none⟩ (.slice bo' 0 d2)).heap[w.heap.size + 1]? = some (.cells #[.slice none 0 0, .slice none 0 0] 26 (0, 0)) := blk_set_other (blk_set_other hR2 _ _ (by omega)) _ _ (by omega)
        have hH5 : ((w2.setCell ⟨w.heap.size, 0, none⟩ (.slice ao' n d1)).setCell ⟨w.heap.size, 1, none⟩ (.slice bo' 0 d2)).heap[w.heap.size + 1 + 1]? = some (.cells #[.int .i64 0, .int .i64 0] 30 (0, 0)) := blk_set_other (blk_set_other hH2 _ _ (by omega)) _ _ (by omega)
        have hbw5 : Below w.heap.size w ((w2.setCell ⟨w.heap.size, 0, none⟩ (.slice ao' n d1)).setCell ⟨w.heap.size, 1, none⟩ (.slice bo' 0 d2)) := (hbw2.setCell (by show w.heap.size ≤ w.heap.size; omega) _).setCell (by show w.heap.size ≤ w.heap.size; omega) _
        have k1 : SpecRow ((w2.setCell ⟨w.heap.size, 0, none⟩ (.slice ao' n d1)).setCell ⟨w.heap.size, 1, none⟩ (.slice bo' 0 d2)) _ _ _ _ _ _ := SpecRow.set (SpecRow.set p1 (by show w.heap.size < _; omega) _) (by show w.heap.size < _; omega) _
        have k2 : SpecRow ((w2.setCell ⟨w.heap.size, 0, none⟩ (.slice ao' n d1)).setCell ⟨w.heap.size, 1, none⟩ (.slice bo' 0 d2)) _ _ _ _ _ _ := SpecRow.set (SpecRow.set p2 (by show w.heap.size < _; omega) _) (by show w.heap.size < _; omega) _
        have hz5 : w1.heap.size ≤ ((w2.setCell ⟨w.heap.size, 0, none⟩ (.slice ao' n d1)).setCell ⟨w.heap.size, 1, none⟩ (.slice bo' 0 d2)).heap.size := by simp; omega
        clear p1 p2 hA2 hH2 hR2 hbw2 y0 y1 y2 y3
        generalize ((w2.setCell ⟨w.heap.size, 0, none⟩ (.slice ao' n d1)).setCell ⟨w.heap.size, 1, none⟩ (.slice bo' 0 d2)) = W at *
        have q0 := blk_cell hA5 0 _ rfl
        go_upto_region 12 with (first | (at_builtin; refine wpList_append_row _ (by rfl) (.tmp 41) (.tmp 43) 23 (by rfl) w1.heap.size 106 i0 (.agg #[.int .i64 0, .bool false, .int .i64 0]) 3 24 Try.underlying23 hi hz0 hz1 hz2 rfl (by decide) ao' n d1 (slotList A U V n) (slotList_length A U V n) (by rfl) (k1.alloc _) ⟨W.heap.size, 0, none⟩ 1 1 [.int .i64 0, .bool false, .int .i64 0] (by rfl) (by rfl) (World.news_of_block (heap_alloc_new W _)) (by intro u hu; simp at hu; rcases hu with rfl | rfl | rfl <;> rfl) (by decide) (by unfold maxLen; omega) (by omega) (by simp; omega) ?_; intro g d w3 row hown hgrow hrow; have hne : ∀ b, b < w1.heap.size → some b ≠ row := (fun b hb e => by have hh := hrow b e.symm; have := (hh.1.lt b hh.2).1; omega); have hA6 := grown_blk hgrow (blk_alloc hA5 _) (hne _ (by omega)); have hR6 := grown_blk hgrow (blk_alloc hR5 _) (hne _ (by omega)); have hH6 := grown_blk hgrow (blk_alloc hH5 _) (hne _ (by omega)); have x0 := blk_cell hA6 0 _ rfl; have x1 := blk_cell hA6 1 _ rfl; have x2 := blk_free hA6 0))
        have k3 : LooseRow (w3.setCell ⟨w.heap.size, 0, none⟩ (.slice (some ⟨g, 0, none⟩) (n + 1) d)) w1.heap.size 3 1 (.slice bo' 0 d2) 0 (intList F 0) := by
          rcases k2 with ⟨_, ao2, hv2⟩ | ⟨h02, _⟩
          · exact .inl ⟨rfl, ao2, hv2⟩
          · omega
        have hbF := (push hbw5 (.cells #[.int .i64 0, .bool false, .int .i64 0] 106)).grown hgrow (by have := hbw5.size; simp; omega) (fun b hb => by have hh := hrow b hb; have := (hh.1.lt b hh.2).1; omega)
        have hgw := (hown.lt g rfl).1
        rw [← HF.out] at hown
        have k4 : World.ownsRow (w3.setCell ⟨w.heap.size, 0, none⟩ (.slice (some ⟨g, 0, none⟩) (n + 1) d)) w1.heap.size 106 3 (.slice (some ⟨g, 0, none⟩) (n + 1) d) (n + 1) (slotList (put A n 0) (put U n false) (put V n 0) (n + 1)) := own_set hown (by show w.heap.size < _; omega) _
        clear hA5 hR5 hH5 hbw5
        have hA5 : (w3.setCell ⟨w.heap.size, 0, none⟩ (.slice (some ⟨g, 0, none⟩) (n + 1) d)).heap[w.heap.size]? = some (.cells #[.slice (some ⟨g, 0, none⟩) (n + 1) d, .slice bo' 0 d2] 26 (0, 0)) := blk_set hA6 0 _
        have hR5 : (w3.setCell ⟨w.heap.size, 0, none⟩ (.slice (some ⟨g, 0, none⟩) (n + 1) d)).heap[w.heap.size + 1]? = some (.cells #[.slice none 0 0, .slice none 0 0] 26 (0, 0)) := blk_set_other hR6 _ _ (by omega)
        have hH5 : (w3.setCell ⟨w.heap.size, 0, none⟩ (.slice (some ⟨g, 0, none⟩) (n + 1) d)).heap[w.heap.size + 1 + 1]? = some (.cells #[.int .i64 0, .int .i64 0] 30 (0, 0)) := blk_set_other hH6 _ _ (by omega)
        have hbw5 : Below w.heap.size w (w3.setCell ⟨w.heap.size, 0, none⟩ (.slice (some ⟨g, 0, none⟩) (n + 1) d)) := hbF.setCell (by show w.heap.size ≤ w.heap.size; omega) _
        have n1 : ¬ (g = w.heap.size) := by omega
        have hqn' : (n : Int) < ((n + 1 : Nat) : Int) := by omega
        clear hbF hown hgrow hrow hne hA6 hR6 hH6 x0 x1 x2 k1 k2 q0 hz5
        generalize (w3.setCell ⟨w.heap.size, 0, none⟩ (.slice (some ⟨g, 0, none⟩) (n + 1) d)) = W at *
        have h0n : (0 : Int) ≤ (n : Int) := by omega
        obtain ⟨N1, hN1⟩ : ∃ N1, N1 = n + 1 := ⟨_, rfl⟩
        rw [← hN1] at hA5 k4 hqn'
        rw [← hN1] at HO
        rw [← hN1]
        clear hN1
        have q0 := blk_cell hA5 0 _ rfl
        have q1 := blk_cell hA5 1 _ rfl
        have s1 := own_cell k4 (n * 3 + 1) (by omega) rfl
        have s2 := own_cell k4 (n * 3 + 2) (by omega) rfl
        have sf1 := k4.frozenAt (n * 3 + 1)
        have sf2 := k4.frozenAt (n * 3 + 2)
        go_upto_region 14 with fail
        have k6 := own_used (q := n) (u := u) k4
        have k7 := LooseRow.far (LooseRow.far k3 k4 (by decide) (n * 3 + 1) (.bool true)) (own_store k4 _ _) (by decide) (n * 3 + 2) (.int .i64 u)
        have hA7 : ((W.setCell ⟨g, n * 3 + 1, none⟩ (.bool true)).setCell ⟨g, n * 3 + 2, none⟩ (.int .i64 u)).heap[w.heap.size]? = some (.cells #[(.slice (some ⟨g, 0, none⟩) N1 d), .slice bo' 0 d2] 26 (0, 0)) := blk_set_other (blk_set_other hA5 _ _ (by omega)) _ _ (by omega)
        have hR7 : ((W.setCell ⟨g, n * 3 + 1, none⟩ (.bool true)).setCell ⟨g, n * 3 + 2, none⟩ (.int .i64 u)).heap[w.heap.size + 1]? = some (.cells #[.slice none 0 0, .slice none 0 0] 26 (0, 0)) := blk_set_other (blk_set_other hR5 _ _ (by omega)) _ _ (by omega)
        have hH7 : ((W.setCell ⟨g, n * 3 + 1, none⟩ (.bool true)).setCell ⟨g, n * 3 + 2, none⟩ (.int .i64 u)).heap[w.heap.size + 1 + 1]? = some (.cells #[.int .i64 0, .int .i64 0] 30 (0, 0)) := blk_set_other (blk_set_other hH5 _ _ (by omega)) _ _ (by omega)
        have hbw7 : Below w.heap.size w ((W.setCell ⟨g, n * 3 + 1, none⟩ (.bool true)).setCell ⟨g, n * 3 + 2, none⟩ (.int .i64 u)) := (hbw5.setCell (by show w.heap.size ≤ g; omega) _).setCell (by show w.heap.size ≤ g; omega) _
        have c7 := own_cell k6 (n * 3) (by omega) rfl
        rw [slotCell_0] at c7
        clear k3 k4 hA5 hR5 hH5 hbw5 q0 q1 s1 s2 sf1 sf2
        generalize ((W.setCell ⟨g, n * 3 + 1, none⟩ (.bool true)).setCell ⟨g, n * 3 + 2, none⟩ (.int .i64 u)) = X at *
        have q0 := blk_cell hA7 0 _ rfl
        have q1 := blk_cell hA7 1 _ rfl
        have y5 := blk_cell hR7 0 _ rfl
        have y6 := blk_cell hR7 1 _ rfl
        have y7 := blk_free hR7 0
        have y8 := blk_free hR7 1
        have y9 := blk_cell hH7 0 _ rfl
        have y10 := blk_cell hH7 1 _ rfl
        have y11 := blk_free hH7 0
        have y12 := blk_free hH7 1
        go_region_held3 (fun w' => w'.cell? ⟨w.heap.size, 0, none⟩ = some ((.slice (some ⟨g, 0, none⟩) N1 d)) ∧ w'.cell? ⟨w.heap.size, 1, none⟩ = some (.slice bo' 0 d2) ∧ w'.cell? ⟨g, n * 3, none⟩ = some (.int .i64 ((put A n 0) n)))
          (first | exact ⟨q0, q1, c7⟩ | exact ⟨(World.cell?_setCell_other _ _ _ _ (by simp <;> omega)).trans ((World.cell?_setCell_other _ _ _ _ (by simp <;> omega)).trans q0), (World.cell?_setCell_other _ _ _ _ (by simp <;> omega)).trans ((World.cell?_setCell_other _ _ _ _ (by simp <;> omega)).trans q1), (World.cell?_setCell_other _ _ _ _ (by simp <;> omega)).trans ((World.cell?_setCell_other _ _ _ _ (by simp <;> omega)).trans c7)⟩ | exact ⟨(World.cell?_setCell_other _ _ _ _ (by simp <;> omega)).trans ((World.cell?_setCell_other _ _ _ _ (by simp <;> omega)).trans ((World.cell?_setCell_other _ _ _ _ (by simp <;> omega)).trans ((World.cell?_setCell_other _ _ _ _ (by simp <;> omega)).trans q0))), (World.cell?_setCell_other _ _ _ _ (by simp <;> omega)).trans ((World.cell?_setCell_other _ _ _ _ (by simp <;> omega)).trans ((World.cell?_setCell_other _ _ _ _ (by simp <;> omega)).trans ((World.cell?_setCell_other _ _ _ _ (by simp <;> omega)).trans q1))), (World.cell?_setCell_other _ _ _ _ (by simp <;> omega)).trans ((World.cell?_setCell_other _ _ _ _ (by simp <;> omega)).trans ((World.cell?_setCell_other _ _ _ _ (by simp <;> omega)).trans ((World.cell?_setCell_other _ _ _ _ (by simp <;> omega)).trans c7)))⟩)
          (fail)
        all_goals
          go_wp2
          generalize hFw : ((((X.setCell ⟨w.heap.size + 1, 0, none⟩ (.slice (some ⟨g, 0, none⟩) N1 d)).setCell ⟨w.heap.size + 1, 1, none⟩ (.slice bo' 0 d2)).setCell ⟨w.heap.size + 1 + 1, 0, none⟩ (.int .i64 n)).setCell ⟨w.heap.size + 1 + 1, 1, none⟩ (.int .i64 ((put A n 0) n))).drew = Fw
          obtain ⟨z0, z1, z2, z3, hbF, hl, -⟩ := two_boxes_drew (X := X) (.slice (some ⟨g, 0, none⟩) N1 d) (.slice bo' 0 d2) (.int .i64 n) (.int .i64 ((put A n 0) n)) hR7 hH7 hbw7 _ hFw
          exact bodyPost_ret (v := .tuple #[.agg #[(.slice (some ⟨g, 0, none⟩) N1 d), .slice bo' 0 d2], .agg #[.int .i64 n, .int .i64 ((put A n 0) n)], .int .i64 0]) (by simp [results, Try.results10, go_sem, z0, z1, z2, z3]) rfl ⟨_, _, _, _, (⟨N1, 0, put A n 0, put (put U n false) n true, put (put V n 0) n u, F, 0⟩, (n : Int), put A n 0 n), rfl, ⟨hl _ _ _ _ _ _ hlt (.inr k6), hl _ _ _ _ _ _ hlt k7⟩, ⟨fun _ => by rw [HO.out, put_put, put_put, put_at], fun h => absurd HG.out h⟩, hbF⟩
  | false =>
    have HG : Hid (¬ Good n m A U V F) := fun h => by have := HI.out.2 h; cases this
    clear HI
    have y5 := blk_cell hR1 0 _ rfl
    have y6 := blk_cell hR1 1 _ rfl
    have y7 := blk_free hR1 0
    have y8 := blk_free hR1 1
    have y9 := blk_cell hH1 0 _ rfl
    have y10 := blk_cell hH1 1 _ rfl
    have y11 := blk_free hH1 0
    have y12 := blk_free hH1 1
    go_wp2
    obtain ⟨z0, z1, z2, z3, hbF, -, -⟩ := two_boxes (X := w1) (.slice none 0 0) (.slice none 0 0) (.int .i64 0) (.int .i64 0) hR1 hH1 hbw1 _ rfl
    exact bodyPost_ret (v := .tuple #[.agg #[.slice none 0 0, .slice none 0 0], .agg #[.int .i64 0, .int .i64 0], .int .i64 1]) (by simp [results, Try.results10, go_sem, z0, z1, z2, z3]) rfl ⟨none, none, 0, 0, (badOut, 0, 0), rfl, ⟨.inl ⟨rfl, _, rfl⟩, .inl ⟨rfl, _, rfl⟩⟩, ⟨fun h => absurd h HG.out, fun _ => rfl⟩, hbF⟩

end Go.Proofs.Ytclcjnbjpelcjaa
