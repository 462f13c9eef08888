/-
  OWN TEXT: LawSText.
-/
import Derived.Deep.RegionHeld3
import Derived.Test.YtfbooamjddnagaaDoorB23
import Derived.Test.YtfbooamjddnagaaDoorXText02
namespace Go.Proofs.YtfbooamjddnagaaDoor
open Go.RowKit

set_option maxHeartbeats 3200000 in
set_option maxRecDepth 100000 in
theorem lawSailText (x d a mo : Int) (fr tt : ByteArray) (lo co : Option Addr) (c1 c2 : Nat) (l1 l2 : Pairs) (w : World) (hx : PairsAt w lo l1) (hy : PairsAt w co l2) (hs : ShortS ⟨x, fr, tt, d, a, l1, l2, mo⟩ 1000000000000000) (hF : PowAt w ∧ LineAt w) :
    Calls Tryd.prog 5 #[.agg #[.int .i64 x, .string fr, .string tt, .int .i64 d, .int .i64 a, .slice lo l1.n c1, .slice co l2.n c2, .int .i64 mo]] w fun e w' => e = .returned (.bool true) ∧ Below w.heap.size w w' := by
  obtain ⟨s1, s2, s3, s4⟩ := hs
  have HF : Hid (PowAt w ∧ LineAt w) := hF
  clear hF
  have hb0 : Below w.heap.size w (w.alloc (.cells #[.int .i64 x, .string fr, .string tt, .int .i64 d, .int .i64 a, .slice lo l1.n c1, .slice co l2.n c2, .int .i64 mo] 43)) := push (Below.refl _ _) _
  have A0 := heap_alloc_new w (.cells #[.int .i64 x, .string fr, .string tt, .int .i64 d, .int .i64 a, .slice lo l1.n c1, .slice co l2.n c2, .int .i64 mo] 43)
  go_enter Tryd.func5, Tryd.ntmps5
  go_wp2_with fail
  refine (szSailing_any x d a mo fr tt lo co l1.n l2.n c1 c2 1048576 _ (by omega) (by omega) s1 s2 s3 s4).mono ?_
  rintro e w1 ⟨r, rfl, hr, hb⟩
  have A1 := blk_below A0 hb
  have hb1 := after hb0 hb
  clear A0 hb0 hb
  rcases hr with rfl | ⟨r0, _, t1, t2, t3, t4⟩
  · go_wp2
    go_ret
    exact ⟨rfl, hb1⟩
  · have d0 : decide (r < 0) = false := by simpa using r0
    have q0 := blk_cell A1 0 _ rfl
    have q1 := blk_cell A1 1 _ rfl
    have q2 := blk_cell A1 2 _ rfl
    have q3 := blk_cell A1 3 _ rfl
    have q4 := blk_cell A1 4 _ rfl
    have q5 := blk_cell A1 5 _ rfl
    have q6 := blk_cell A1 6 _ rfl
    have q7 := blk_cell A1 7 _ rfl
    go_wp2_with fail
    refine (toSailing_any x d a mo fr tt lo co l1.n l2.n c1 c2 l1 l2 _ rfl rfl t3 t4 (hx.below hb1) (hy.below hb1)).mono ?_
    rintro e w2 ⟨p, q, rfl, _, _, rp, rq, hb⟩
    have pp := PairsAt.of_row rp
    have pq := PairsAt.of_row rq
    have A2 := blk_below A1 hb
    have hb2 := after hb1 hb
    clear q0 q1 q2 q3 q4 q5 q6 q7 A1 hb1 hb rp rq
    go_wp2_with fail
    obtain ⟨B, hB⟩ : ∃ B, B = goodS ⟨x, fr, tt, d, a, l1, l2, mo⟩ := ⟨_, rfl⟩
    obtain ⟨Tq, hT⟩ : ∃ T, T = stext ⟨x, fr, tt, d, a, l1, l2, mo⟩ := ⟨_, rfl⟩
    have ct := specSText_any ⟨x, fr, tt, d, a, l1, l2, mo⟩ (some ⟨p, 0, none⟩) (some ⟨q, 0, none⟩) l1.n l2.n w2 s1 s2 t3 t4 pp pq
    rw [← hB, ← hT] at ct
    refine ct.mono ?_
    clear ct
    rintro e w3 ⟨rfl, hb⟩
    have HB : Hid (B = goodS ⟨x, fr, tt, d, a, l1, l2, mo⟩ ∧ Tq = stext ⟨x, fr, tt, d, a, l1, l2, mo⟩) := ⟨hB, hT⟩
    clear hB hT
    have A3 := blk_below A2 hb
    have hb3 := after hb2 hb
    clear A2 hb2 hb pp pq
    have q0 := blk_cell A3 0 _ rfl
    have q1 := blk_cell A3 1 _ rfl
    have q2 := blk_cell A3 2 _ rfl
    have q3 := blk_cell A3 3 _ rfl
    have q4 := blk_cell A3 4 _ rfl
    have q5 := blk_cell A3 5 _ rfl
    have q6 := blk_cell A3 6 _ rfl
    have q7 := blk_cell A3 7 _ rfl
    go_wp2_with fail
    refine (toSailing_any x d a mo fr tt lo co l1.n l2.n c1 c2 l1 l2 _ rfl rfl t3 t4 (hx.below hb3) (hy.below hb3)).mono ?_
    rintro e w4 ⟨p2, q2', rfl, _, _, rp, rq, hb⟩
    have pp := PairsAt.of_row rp
    have pq := PairsAt.of_row rq
    have A4 := blk_below A3 hb
    have hb4 := after hb3 hb
    clear q0 q1 q2 q3 q4 q5 q6 q7 A3 hb3 hb rp rq
    have hb4' := push hb4 (.cells #[.int .i64 x, .string fr, .string tt, .int .i64 d, .int .i64 a, .slice (some ⟨p2, 0, none⟩) l1.n l1.n, .slice (some ⟨q2', 0, none⟩) l2.n l2.n, .int .i64 mo] 49)
    have A4' := blk_alloc A4 (.cells #[.int .i64 x, .string fr, .string tt, .int .i64 d, .int .i64 a, .slice (some ⟨p2, 0, none⟩) l1.n l1.n, .slice (some ⟨q2', 0, none⟩) l2.n l2.n, .int .i64 mo] 49)
    have X4 := heap_alloc_new w4 (.cells #[.int .i64 x, .string fr, .string tt, .int .i64 d, .int .i64 a, .slice (some ⟨p2, 0, none⟩) l1.n l1.n, .slice (some ⟨q2', 0, none⟩) l2.n l2.n, .int .i64 mo] 49)
    have pp := pp.below (push (Below.refl _ w4) (.cells #[.int .i64 x, .string fr, .string tt, .int .i64 d, .int .i64 a, .slice (some ⟨p2, 0, none⟩) l1.n l1.n, .slice (some ⟨q2', 0, none⟩) l2.n l2.n, .int .i64 mo] 49))
    have pq := pq.below (push (Below.refl _ w4) (.cells #[.int .i64 x, .string fr, .string tt, .int .i64 d, .int .i64 a, .slice (some ⟨p2, 0, none⟩) l1.n l1.n, .slice (some ⟨q2', 0, none⟩) l2.n l2.n, .int .i64 mo] 49))
    go_wp2_with fail
    generalize w4.alloc (.cells #[.int .i64 x, .string fr, .string tt, .int .i64 d, .int .i64 a, .slice (some ⟨p2, 0, none⟩) l1.n l1.n, .slice (some ⟨q2', 0, none⟩) l2.n l2.n, .int .i64 mo] 49) = w4' at hb4' A4' X4 pp pq ⊢
    have ct := implSText_any ⟨x, fr, tt, d, a, l1, l2, mo⟩ (some ⟨p2, 0, none⟩) (some ⟨q2', 0, none⟩) l1.n l2.n w4' s1 s2 t3 t4 pp pq (HF.out.1.below hb4') (HF.out.2.below hb4')
    rw [← HB.out.1, ← HB.out.2] at ct
    refine ct.mono ?_
    clear ct
    rintro e w5 ⟨rfl, hb⟩
    have pp := pp.below hb
    have pq := pq.below hb
    have A5 := blk_below A4' hb
    have X5 := blk_below X4 hb
    have hb5 := after hb4' hb
    clear HB A4 A4' X4 hb4 hb4' hb
    have pp := pp.below (Below.refl _ _).drew
    have pq := pq.below (Below.refl _ _).drew
    have xx := hx.below hb5.drew
    have yy := hy.below hb5.drew
    have DA : Hid (w5.drew.heap[w.heap.size]? = _) := A5
    have DX : Hid (w5.drew.heap[w4.heap.size]? = _) := X5
    have KA : Hid ((w5.cell? ⟨w.heap.size, 0, none⟩ = some (.int .i64 x) ∧ w5.cell? ⟨w.heap.size, 1, none⟩ = some (.string fr) ∧ w5.cell? ⟨w.heap.size, 2, none⟩ = some (.string tt) ∧ w5.cell? ⟨w.heap.size, 3, none⟩ = some (.int .i64 d) ∧ w5.cell? ⟨w.heap.size, 4, none⟩ = some (.int .i64 a) ∧ w5.cell? ⟨w.heap.size, 5, none⟩ = some (.slice lo l1.n c1) ∧ w5.cell? ⟨w.heap.size, 6, none⟩ = some (.slice co l2.n c2) ∧ w5.cell? ⟨w.heap.size, 7, none⟩ = some (.int .i64 mo)) ∧ (w5.cell? ⟨w4.heap.size, 0, none⟩ = some (.int .i64 x) ∧ w5.cell? ⟨w4.heap.size, 1, none⟩ = some (.string fr) ∧ w5.cell? ⟨w4.heap.size, 2, none⟩ = some (.string tt) ∧ w5.cell? ⟨w4.heap.size, 3, none⟩ = some (.int .i64 d) ∧ w5.cell? ⟨w4.heap.size, 4, none⟩ = some (.int .i64 a) ∧ w5.cell? ⟨w4.heap.size, 5, none⟩ = some (.slice (some ⟨p2, 0, none⟩) l1.n l1.n) ∧ w5.cell? ⟨w4.heap.size, 6, none⟩ = some (.slice (some ⟨q2', 0, none⟩) l2.n l2.n) ∧ w5.cell? ⟨w4.heap.size, 7, none⟩ = some (.int .i64 mo))) := ⟨⟨blk_cell A5 0 _ rfl, blk_cell A5 1 _ rfl, blk_cell A5 2 _ rfl, blk_cell A5 3 _ rfl, blk_cell A5 4 _ rfl, blk_cell A5 5 _ rfl, blk_cell A5 6 _ rfl, blk_cell A5 7 _ rfl⟩, ⟨blk_cell X5 0 _ rfl, blk_cell X5 1 _ rfl, blk_cell X5 2 _ rfl, blk_cell X5 3 _ rfl, blk_cell X5 4 _ rfl, blk_cell X5 5 _ rfl, blk_cell X5 6 _ rfl, blk_cell X5 7 _ rfl⟩⟩
    clear A5 X5
    obtain ⟨⟨a0, a1, a2, a3, a4, a5, a6, a7⟩, ⟨x0, x1, x2, x3, x4, x5, x6, x7⟩⟩ := KA.out
    go_wp2
    go_region_held3 (fun w' => (w'.cell? ⟨w.heap.size, 0, none⟩ = some (.int .i64 x) ∧ w'.cell? ⟨w.heap.size, 1, none⟩ = some (.string fr) ∧ w'.cell? ⟨w.heap.size, 2, none⟩ = some (.string tt) ∧ w'.cell? ⟨w.heap.size, 3, none⟩ = some (.int .i64 d) ∧ w'.cell? ⟨w.heap.size, 4, none⟩ = some (.int .i64 a) ∧ w'.cell? ⟨w.heap.size, 5, none⟩ = some (.slice lo l1.n c1) ∧ w'.cell? ⟨w.heap.size, 6, none⟩ = some (.slice co l2.n c2) ∧ w'.cell? ⟨w.heap.size, 7, none⟩ = some (.int .i64 mo)) ∧ (w'.cell? ⟨w4.heap.size, 0, none⟩ = some (.int .i64 x) ∧ w'.cell? ⟨w4.heap.size, 1, none⟩ = some (.string fr) ∧ w'.cell? ⟨w4.heap.size, 2, none⟩ = some (.string tt) ∧ w'.cell? ⟨w4.heap.size, 3, none⟩ = some (.int .i64 d) ∧ w'.cell? ⟨w4.heap.size, 4, none⟩ = some (.int .i64 a) ∧ w'.cell? ⟨w4.heap.size, 5, none⟩ = some (.slice (some ⟨p2, 0, none⟩) l1.n l1.n) ∧ w'.cell? ⟨w4.heap.size, 6, none⟩ = some (.slice (some ⟨q2', 0, none⟩) l2.n l2.n) ∧ w'.cell? ⟨w4.heap.size, 7, none⟩ = some (.int .i64 mo)))
      (first | exact KA.out | exact ⟨⟨blk_cell (blk_below (blk_below DA.out hb6) hb7) 0 _ rfl, blk_cell (blk_below (blk_below DA.out hb6) hb7) 1 _ rfl, blk_cell (blk_below (blk_below DA.out hb6) hb7) 2 _ rfl, blk_cell (blk_below (blk_below DA.out hb6) hb7) 3 _ rfl, blk_cell (blk_below (blk_below DA.out hb6) hb7) 4 _ rfl, blk_cell (blk_below (blk_below DA.out hb6) hb7) 5 _ rfl, blk_cell (blk_below (blk_below DA.out hb6) hb7) 6 _ rfl, blk_cell (blk_below (blk_below DA.out hb6) hb7) 7 _ rfl⟩, ⟨blk_cell (blk_below (blk_below DX.out hb6) hb7) 0 _ rfl, blk_cell (blk_below (blk_below DX.out hb6) hb7) 1 _ rfl, blk_cell (blk_below (blk_below DX.out hb6) hb7) 2 _ rfl, blk_cell (blk_below (blk_below DX.out hb6) hb7) 3 _ rfl, blk_cell (blk_below (blk_below DX.out hb6) hb7) 4 _ rfl, blk_cell (blk_below (blk_below DX.out hb6) hb7) 5 _ rfl, blk_cell (blk_below (blk_below DX.out hb6) hb7) 6 _ rfl, blk_cell (blk_below (blk_below DX.out hb6) hb7) 7 _ rfl⟩⟩ | exact ⟨⟨blk_cell (blk_below DA.out hb6) 0 _ rfl, blk_cell (blk_below DA.out hb6) 1 _ rfl, blk_cell (blk_below DA.out hb6) 2 _ rfl, blk_cell (blk_below DA.out hb6) 3 _ rfl, blk_cell (blk_below DA.out hb6) 4 _ rfl, blk_cell (blk_below DA.out hb6) 5 _ rfl, blk_cell (blk_below DA.out hb6) 6 _ rfl, blk_cell (blk_below DA.out hb6) 7 _ rfl⟩, ⟨blk_cell (blk_below DX.out hb6) 0 _ rfl, blk_cell (blk_below DX.out hb6) 1 _ rfl, blk_cell (blk_below DX.out hb6) 2 _ rfl, blk_cell (blk_below DX.out hb6) 3 _ rfl, blk_cell (blk_below DX.out hb6) 4 _ rfl, blk_cell (blk_below DX.out hb6) 5 _ rfl, blk_cell (blk_below DX.out hb6) 6 _ rfl, blk_cell (blk_below DX.out hb6) 7 _ rfl⟩⟩)
      (first | (go_at_call 18; refine (toSailing_any x d a mo fr tt lo co l1.n l2.n c1 c2 l1 l2 _ rfl rfl t3 t4 xx yy).mono ?_; rintro e w6 ⟨p6, q6, rfl, _, _, rp6, rq6, hb6⟩) | (go_at_call 20; refine (eqSailing_same x d a mo fr tt _ _ _ _ l1.n l2.n _ _ _ _ l1 l2 _ rfl rfl t3 t4 (pp.below hb6) (pq.below hb6) (PairsAt.of_row rp6) (PairsAt.of_row rq6)).mono ?_; rintro e w7 ⟨rfl, hb7⟩))
    go_wp2
    go_ret
    exact ⟨rfl, after (after hb5.drew hb6) hb7⟩

end Go.Proofs.YtfbooamjddnagaaDoor
