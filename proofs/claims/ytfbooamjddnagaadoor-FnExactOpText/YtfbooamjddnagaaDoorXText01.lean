/-
  OWN TEXT: LawOpText.
-/
import Derived.Deep.RegionHeld3
import Derived.Test.YtfbooamjddnagaaDoorB23
import Derived.Test.YtfbooamjddnagaaDoorXText00
namespace Go.Proofs.YtfbooamjddnagaaDoor
open Go.RowKit

set_option maxHeartbeats 3200000 in
set_option maxRecDepth 100000 in
theorem lawOpText (cs : List Value) (x : OpD) (w : World) (hs : OpD.Short x 1000000000000000) (hi : OpD.Is w cs x) (hF : FormsAt w ∧ PowAt w ∧ WordsAt w) :
    Calls Tryd.prog 3 #[.agg cs.toArray] w fun e w' => e = .returned (.bool true) ∧ Below w.heap.size w w' := by
  have HI : Hid (OpD.Is w cs x) := hi
  have HFM : Hid (FormsAt w ∧ PowAt w ∧ WordsAt w) := hF
  clear hF
  obtain ⟨alg, clg, rfl, hlg, slg⟩ := hi
  clear hlg slg
  have hb0 : Below w.heap.size w (w.alloc (.cells #[.int .i64 x.kind, .string x.own, .int .i64 x.name, .slice alg x.lgn clg, .int .i64 x.pe, .int .i64 x.len, .int .i64 x.hei, .int .i64 x.cl, .bool x.all, .int .i64 x.be, .int .i64 x.unt, .int .i64 x.now] 26)) := push (Below.refl _ _) _
  have A0 := heap_alloc_new w (.cells #[.int .i64 x.kind, .string x.own, .int .i64 x.name, .slice alg x.lgn clg, .int .i64 x.pe, .int .i64 x.len, .int .i64 x.hei, .int .i64 x.cl, .bool x.all, .int .i64 x.be, .int .i64 x.unt, .int .i64 x.now] 26)
  go_enter Tryd.func3, Tryd.ntmps3
  go_wp2_with fail
  generalize w.alloc (.cells #[.int .i64 x.kind, .string x.own, .int .i64 x.name, .slice alg x.lgn clg, .int .i64 x.pe, .int .i64 x.len, .int .i64 x.hei, .int .i64 x.cl, .bool x.all, .int .i64 x.be, .int .i64 x.unt, .int .i64 x.now] 26) = wA at hb0 A0 ⊢
  refine (szOp_any [.int .i64 x.kind, .string x.own, .int .i64 x.name, .slice alg x.lgn clg, .int .i64 x.pe, .int .i64 x.len, .int .i64 x.hei, .int .i64 x.cl, .bool x.all, .int .i64 x.be, .int .i64 x.unt, .int .i64 x.now] x 1048576 _ (by omega) (by omega) hs (HI.out.below hb0)).mono ?_
  rintro e w1 ⟨r, rfl, hr, hb⟩
  have A1 := blk_below A0 hb
  have hb1 := after hb0 hb
  clear A0 hb0 hb
  rcases hr with rfl | ⟨r0, _, ht⟩
  · go_wp2
    go_ret
    exact ⟨rfl, hb1⟩
  · have d0 : decide (r < 0) = false := by simpa using r0
    have HS : Hid (OpD.Short x 1000000000000000) := hs
    have HT : Hid (OpD.Short x 1048576) := ht
    clear hs ht
    have q0 := blk_cell A1 0 _ rfl
    have q1 := blk_cell A1 1 _ rfl
    have q2 := blk_cell A1 2 _ rfl
    have q3 := blk_cell A1 3 _ rfl
    have q4 := blk_cell A1 4 _ rfl
    have q5 := blk_cell A1 5 _ rfl
    have q6 := blk_cell A1 6 _ rfl
    have q7 := blk_cell A1 7 _ rfl
    have q8 := blk_cell A1 8 _ rfl
    have q9 := blk_cell A1 9 _ rfl
    have q10 := blk_cell A1 10 _ rfl
    have q11 := blk_cell A1 11 _ rfl
    go_wp2_with fail
    refine (toOp_any [.int .i64 x.kind, .string x.own, .int .i64 x.name, .slice alg x.lgn clg, .int .i64 x.pe, .int .i64 x.len, .int .i64 x.hei, .int .i64 x.cl, .bool x.all, .int .i64 x.be, .int .i64 x.unt, .int .i64 x.now] x _ HT.out (HI.out.below hb1)).mono ?_
    rintro e w2 ⟨cs2, rfl, hin2, hb⟩
    have A2 := blk_below A1 hb
    have hb2 := after hb1 hb
    have is2 := hin2.is HT.out
    clear q0 q1 q2 q3 q4 q5 q6 q7 q8 q9 q10 q11 A1 hb1 hb hin2
    go_wp2_with fail
    obtain ⟨B, hB⟩ : ∃ B, B = hasT x := ⟨_, rfl⟩
    obtain ⟨Tq, hT⟩ : ∃ T, T = textOf x := ⟨_, rfl⟩
    have ct := specText_any cs2 x w2 HS.out.1 is2 HT.out.2
    rw [← hB, ← hT] at ct
    refine ct.mono ?_
    clear ct
    rintro e w3 ⟨rfl, hb⟩
    have HB : Hid (B = hasT x ∧ Tq = textOf x) := ⟨hB, hT⟩
    clear hB hT
    have A3 := blk_below A2 hb
    have hb3 := after hb2 hb
    clear A2 hb2 hb is2
    have q0 := blk_cell A3 0 _ rfl
    have q1 := blk_cell A3 1 _ rfl
    have q2 := blk_cell A3 2 _ rfl
    have q3 := blk_cell A3 3 _ rfl
    have q4 := blk_cell A3 4 _ rfl
    have q5 := blk_cell A3 5 _ rfl
    have q6 := blk_cell A3 6 _ rfl
    have q7 := blk_cell A3 7 _ rfl
    have q8 := blk_cell A3 8 _ rfl
    have q9 := blk_cell A3 9 _ rfl
    have q10 := blk_cell A3 10 _ rfl
    have q11 := blk_cell A3 11 _ rfl
    go_wp2_with fail
    refine (toOp_any [.int .i64 x.kind, .string x.own, .int .i64 x.name, .slice alg x.lgn clg, .int .i64 x.pe, .int .i64 x.len, .int .i64 x.hei, .int .i64 x.cl, .bool x.all, .int .i64 x.be, .int .i64 x.unt, .int .i64 x.now] x _ HT.out (HI.out.below hb3)).mono ?_
    rintro e w4 ⟨cs4, rfl, hin4, hb⟩
    have A4 := blk_below A3 hb
    have hb4 := after hb3 hb
    have is4 := hin4.is HT.out
    clear q0 q1 q2 q3 q4 q5 q6 q7 q8 q9 q10 q11 A3 hb3 hb
    have HI4 : Hid (OpD.Is w4 cs4 x) := is4
    clear is4
    obtain ⟨llg4, rfl, ilg4⟩ := hin4
    clear ilg4
    have hb4' := push hb4 (.cells #[.int .i64 x.kind, .string x.own, .int .i64 x.name, .slice (some ⟨llg4, 0, none⟩) x.lgn x.lgn, .int .i64 x.pe, .int .i64 x.len, .int .i64 x.hei, .int .i64 x.cl, .bool x.all, .int .i64 x.be, .int .i64 x.unt, .int .i64 x.now] 32)
    have A4' := blk_alloc A4 (.cells #[.int .i64 x.kind, .string x.own, .int .i64 x.name, .slice (some ⟨llg4, 0, none⟩) x.lgn x.lgn, .int .i64 x.pe, .int .i64 x.len, .int .i64 x.hei, .int .i64 x.cl, .bool x.all, .int .i64 x.be, .int .i64 x.unt, .int .i64 x.now] 32)
    have X4 := heap_alloc_new w4 (.cells #[.int .i64 x.kind, .string x.own, .int .i64 x.name, .slice (some ⟨llg4, 0, none⟩) x.lgn x.lgn, .int .i64 x.pe, .int .i64 x.len, .int .i64 x.hei, .int .i64 x.cl, .bool x.all, .int .i64 x.be, .int .i64 x.unt, .int .i64 x.now] 32)
    have HI5 : Hid (OpD.Is (w4.alloc (.cells #[.int .i64 x.kind, .string x.own, .int .i64 x.name, .slice (some ⟨llg4, 0, none⟩) x.lgn x.lgn, .int .i64 x.pe, .int .i64 x.len, .int .i64 x.hei, .int .i64 x.cl, .bool x.all, .int .i64 x.be, .int .i64 x.unt, .int .i64 x.now] 32)) [.int .i64 x.kind, .string x.own, .int .i64 x.name, whole llg4 x.lgn, .int .i64 x.pe, .int .i64 x.len, .int .i64 x.hei, .int .i64 x.cl, .bool x.all, .int .i64 x.be, .int .i64 x.unt, .int .i64 x.now] x) := HI4.out.below (push (Below.refl _ w4) _)
    unfold whole
    go_wp2_with fail
    generalize w4.alloc (.cells #[.int .i64 x.kind, .string x.own, .int .i64 x.name, .slice (some ⟨llg4, 0, none⟩) x.lgn x.lgn, .int .i64 x.pe, .int .i64 x.len, .int .i64 x.hei, .int .i64 x.cl, .bool x.all, .int .i64 x.be, .int .i64 x.unt, .int .i64 x.now] 32) = w5 at hb4' A4' X4 HI5 ⊢
    have ct := implText_any [.int .i64 x.kind, .string x.own, .int .i64 x.name, whole llg4 x.lgn, .int .i64 x.pe, .int .i64 x.len, .int .i64 x.hei, .int .i64 x.cl, .bool x.all, .int .i64 x.be, .int .i64 x.unt, .int .i64 x.now] x w5 HS.out.1 HI5.out HT.out.2 (HFM.out.2.1.below hb4') (HFM.out.1.below hb4') (HFM.out.2.2.below hb4')
    rw [← HB.out.1, ← HB.out.2] at ct
    refine ct.mono ?_
    clear ct
    rintro e w6 ⟨rfl, hb⟩
    have A6 := blk_below A4' hb
    have X6 := blk_below X4 hb
    have hb6 := after hb4' hb
    have HI6 : Hid (OpD.Is w6.drew [.int .i64 x.kind, .string x.own, .int .i64 x.name, whole llg4 x.lgn, .int .i64 x.pe, .int .i64 x.len, .int .i64 x.hei, .int .i64 x.cl, .bool x.all, .int .i64 x.be, .int .i64 x.unt, .int .i64 x.now] x) := (HI5.out.below hb).below (Below.refl _ _).drew
    have HIA : Hid (OpD.Is w6.drew [.int .i64 x.kind, .string x.own, .int .i64 x.name, .slice alg x.lgn clg, .int .i64 x.pe, .int .i64 x.len, .int .i64 x.hei, .int .i64 x.cl, .bool x.all, .int .i64 x.be, .int .i64 x.unt, .int .i64 x.now] x) := HI.out.below hb6.drew
    have DA : Hid (w6.drew.heap[w.heap.size]? = _) := A6
    have DX : Hid (w6.drew.heap[w4.heap.size]? = _) := X6
    have KA : Hid ((w6.cell? ⟨w.heap.size, 0, none⟩ = some (.int .i64 x.kind) ∧ w6.cell? ⟨w.heap.size, 1, none⟩ = some (.string x.own) ∧ w6.cell? ⟨w.heap.size, 2, none⟩ = some (.int .i64 x.name) ∧ w6.cell? ⟨w.heap.size, 3, none⟩ = some (.slice alg x.lgn clg) ∧ w6.cell? ⟨w.heap.size, 4, none⟩ = some (.int .i64 x.pe) ∧ w6.cell? ⟨w.heap.size, 5, none⟩ = some (.int .i64 x.len) ∧ w6.cell? ⟨w.heap.size, 6, none⟩ = some (.int .i64 x.hei) ∧ w6.cell? ⟨w.heap.size, 7, none⟩ = some (.int .i64 x.cl) ∧ w6.cell? ⟨w.heap.size, 8, none⟩ = some (.bool x.all) ∧ w6.cell? ⟨w.heap.size, 9, none⟩ = some (.int .i64 x.be) ∧ w6.cell? ⟨w.heap.size, 10, none⟩ = some (.int .i64 x.unt) ∧ w6.cell? ⟨w.heap.size, 11, none⟩ = some (.int .i64 x.now)) ∧ (w6.cell? ⟨w4.heap.size, 0, none⟩ = some (.int .i64 x.kind) ∧ w6.cell? ⟨w4.heap.size, 1, none⟩ = some (.string x.own) ∧ w6.cell? ⟨w4.heap.size, 2, none⟩ = some (.int .i64 x.name) ∧ w6.cell? ⟨w4.heap.size, 3, none⟩ = some (.slice (some ⟨llg4, 0, none⟩) x.lgn x.lgn) ∧ w6.cell? ⟨w4.heap.size, 4, none⟩ = some (.int .i64 x.pe) ∧ w6.cell? ⟨w4.heap.size, 5, none⟩ = some (.int .i64 x.len) ∧ w6.cell? ⟨w4.heap.size, 6, none⟩ = some (.int .i64 x.hei) ∧ w6.cell? ⟨w4.heap.size, 7, none⟩ = some (.int .i64 x.cl) ∧ w6.cell? ⟨w4.heap.size, 8, none⟩ = some (.bool x.all) ∧ w6.cell? ⟨w4.heap.size, 9, none⟩ = some (.int .i64 x.be) ∧ w6.cell? ⟨w4.heap.size, 10, none⟩ = some (.int .i64 x.unt) ∧ w6.cell? ⟨w4.heap.size, 11, none⟩ = some (.int .i64 x.now))) := ⟨⟨blk_cell A6 0 _ rfl, blk_cell A6 1 _ rfl, blk_cell A6 2 _ rfl, blk_cell A6 3 _ rfl, blk_cell A6 4 _ rfl, blk_cell A6 5 _ rfl, blk_cell A6 6 _ rfl, blk_cell A6 7 _ rfl, blk_cell A6 8 _ rfl, blk_cell A6 9 _ rfl, blk_cell A6 10 _ rfl, blk_cell A6 11 _ rfl⟩, ⟨blk_cell X6 0 _ rfl, blk_cell X6 1 _ rfl, blk_cell X6 2 _ rfl, blk_cell X6 3 _ rfl, blk_cell X6 4 _ rfl, blk_cell X6 5 _ rfl, blk_cell X6 6 _ rfl, blk_cell X6 7 _ rfl, blk_cell X6 8 _ rfl, blk_cell X6 9 _ rfl, blk_cell X6 10 _ rfl, blk_cell X6 11 _ rfl⟩⟩
    clear A4 A4' X4 hb4 hb4' hb A6 X6 HB HI4 HI5
    obtain ⟨⟨a0, a1, a2, a3, a4, a5, a6, a7, a8, a9, a10, a11⟩, ⟨x0, x1, x2, x3, x4, x5, x6, x7, x8, x9, x10, x11⟩⟩ := KA.out
    go_wp2
    go_region_held3 (fun w' => (w'.cell? ⟨w.heap.size, 0, none⟩ = some (.int .i64 x.kind) ∧ w'.cell? ⟨w.heap.size, 1, none⟩ = some (.string x.own) ∧ w'.cell? ⟨w.heap.size, 2, none⟩ = some (.int .i64 x.name) ∧ w'.cell? ⟨w.heap.size, 3, none⟩ = some (.slice alg x.lgn clg) ∧ w'.cell? ⟨w.heap.size, 4, none⟩ = some (.int .i64 x.pe) ∧ w'.cell? ⟨w.heap.size, 5, none⟩ = some (.int .i64 x.len) ∧ w'.cell? ⟨w.heap.size, 6, none⟩ = some (.int .i64 x.hei) ∧ w'.cell? ⟨w.heap.size, 7, none⟩ = some (.int .i64 x.cl) ∧ w'.cell? ⟨w.heap.size, 8, none⟩ = some (.bool x.all) ∧ w'.cell? ⟨w.heap.size, 9, none⟩ = some (.int .i64 x.be) ∧ w'.cell? ⟨w.heap.size, 10, none⟩ = some (.int .i64 x.unt) ∧ w'.cell? ⟨w.heap.size, 11, none⟩ = some (.int .i64 x.now)) ∧ (w'.cell? ⟨w4.heap.size, 0, none⟩ = some (.int .i64 x.kind) ∧ w'.cell? ⟨w4.heap.size, 1, none⟩ = some (.string x.own) ∧ w'.cell? ⟨w4.heap.size, 2, none⟩ = some (.int .i64 x.name) ∧ w'.cell? ⟨w4.heap.size, 3, none⟩ = some (.slice (some ⟨llg4, 0, none⟩) x.lgn x.lgn) ∧ w'.cell? ⟨w4.heap.size, 4, none⟩ = some (.int .i64 x.pe) ∧ w'.cell? ⟨w4.heap.size, 5, none⟩ = some (.int .i64 x.len) ∧ w'.cell? ⟨w4.heap.size, 6, none⟩ = some (.int .i64 x.hei) ∧ w'.cell? ⟨w4.heap.size, 7, none⟩ = some (.int .i64 x.cl) ∧ w'.cell? ⟨w4.heap.size, 8, none⟩ = some (.bool x.all) ∧ w'.cell? ⟨w4.heap.size, 9, none⟩ = some (.int .i64 x.be) ∧ w'.cell? ⟨w4.heap.size, 10, none⟩ = some (.int .i64 x.unt) ∧ w'.cell? ⟨w4.heap.size, 11, none⟩ = some (.int .i64 x.now)))
      (first | exact KA.out | exact ⟨⟨blk_cell (blk_below (blk_below DA.out hb7) hb8) 0 _ rfl, blk_cell (blk_below (blk_below DA.out hb7) hb8) 1 _ rfl, blk_cell (blk_below (blk_below DA.out hb7) hb8) 2 _ rfl, blk_cell (blk_below (blk_below DA.out hb7) hb8) 3 _ rfl, blk_cell (blk_below (blk_below DA.out hb7) hb8) 4 _ rfl, blk_cell (blk_below (blk_below DA.out hb7) hb8) 5 _ rfl, blk_cell (blk_below (blk_below DA.out hb7) hb8) 6 _ rfl, blk_cell (blk_below (blk_below DA.out hb7) hb8) 7 _ rfl, blk_cell (blk_below (blk_below DA.out hb7) hb8) 8 _ rfl, blk_cell (blk_below (blk_below DA.out hb7) hb8) 9 _ rfl, blk_cell (blk_below (blk_below DA.out hb7) hb8) 10 _ rfl, blk_cell (blk_below (blk_below DA.out hb7) hb8) 11 _ rfl⟩, ⟨blk_cell (blk_below (blk_below DX.out hb7) hb8) 0 _ rfl, blk_cell (blk_below (blk_below DX.out hb7) hb8) 1 _ rfl, blk_cell (blk_below (blk_below DX.out hb7) hb8) 2 _ rfl, blk_cell (blk_below (blk_below DX.out hb7) hb8) 3 _ rfl, blk_cell (blk_below (blk_below DX.out hb7) hb8) 4 _ rfl, blk_cell (blk_below (blk_below DX.out hb7) hb8) 5 _ rfl, blk_cell (blk_below (blk_below DX.out hb7) hb8) 6 _ rfl, blk_cell (blk_below (blk_below DX.out hb7) hb8) 7 _ rfl, blk_cell (blk_below (blk_below DX.out hb7) hb8) 8 _ rfl, blk_cell (blk_below (blk_below DX.out hb7) hb8) 9 _ rfl, blk_cell (blk_below (blk_below DX.out hb7) hb8) 10 _ rfl, blk_cell (blk_below (blk_below DX.out hb7) hb8) 11 _ rfl⟩⟩ | exact ⟨⟨blk_cell (blk_below DA.out hb7) 0 _ rfl, blk_cell (blk_below DA.out hb7) 1 _ rfl, blk_cell (blk_below DA.out hb7) 2 _ rfl, blk_cell (blk_below DA.out hb7) 3 _ rfl, blk_cell (blk_below DA.out hb7) 4 _ rfl, blk_cell (blk_below DA.out hb7) 5 _ rfl, blk_cell (blk_below DA.out hb7) 6 _ rfl, blk_cell (blk_below DA.out hb7) 7 _ rfl, blk_cell (blk_below DA.out hb7) 8 _ rfl, blk_cell (blk_below DA.out hb7) 9 _ rfl, blk_cell (blk_below DA.out hb7) 10 _ rfl, blk_cell (blk_below DA.out hb7) 11 _ rfl⟩, ⟨blk_cell (blk_below DX.out hb7) 0 _ rfl, blk_cell (blk_below DX.out hb7) 1 _ rfl, blk_cell (blk_below DX.out hb7) 2 _ rfl, blk_cell (blk_below DX.out hb7) 3 _ rfl, blk_cell (blk_below DX.out hb7) 4 _ rfl, blk_cell (blk_below DX.out hb7) 5 _ rfl, blk_cell (blk_below DX.out hb7) 6 _ rfl, blk_cell (blk_below DX.out hb7) 7 _ rfl, blk_cell (blk_below DX.out hb7) 8 _ rfl, blk_cell (blk_below DX.out hb7) 9 _ rfl, blk_cell (blk_below DX.out hb7) 10 _ rfl, blk_cell (blk_below DX.out hb7) 11 _ rfl⟩⟩)
      (first | (go_at_call 9; refine (toOp_any [.int .i64 x.kind, .string x.own, .int .i64 x.name, .slice alg x.lgn clg, .int .i64 x.pe, .int .i64 x.len, .int .i64 x.hei, .int .i64 x.cl, .bool x.all, .int .i64 x.be, .int .i64 x.unt, .int .i64 x.now] x _ HT.out HIA.out).mono ?_; rintro e w7 ⟨cs7, rfl, hin7, hb7⟩) | (go_at_call 11; refine (eqOp_same [.int .i64 x.kind, .string x.own, .int .i64 x.name, whole llg4 x.lgn, .int .i64 x.pe, .int .i64 x.len, .int .i64 x.hei, .int .i64 x.cl, .bool x.all, .int .i64 x.be, .int .i64 x.unt, .int .i64 x.now] cs7 x _ HT.out (HI6.out.below hb7) (hin7.is HT.out)).mono ?_; rintro e w8 ⟨rfl, hb8⟩))
    go_wp2
    go_ret
    exact ⟨rfl, after (after hb6.drew hb7) hb8⟩

end Go.Proofs.YtfbooamjddnagaaDoor
