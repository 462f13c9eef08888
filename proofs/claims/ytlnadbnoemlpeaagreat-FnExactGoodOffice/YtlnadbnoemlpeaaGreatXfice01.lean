/-
  OWN TEXT: LawOffice.
-/
import Derived.Deep.RegionHeld3
import Derived.Test.YtlnadbnoemlpeaaGreatB31
import Derived.Test.YtlnadbnoemlpeaaGreatB32
import Derived.Test.YtlnadbnoemlpeaaGreatXfice00
namespace Go.Proofs.YtlnadbnoemlpeaaGreat
open Go.RowKit

set_option maxHeartbeats 3200000 in
set_option maxRecDepth 100000 in
theorem lawGoodOffice (cs : List Value) (x : Off) (w : World) (hs : Off.Short x 1000000000000000) (hi : Off.Is w cs x) :
    Calls Tryz.prog 3 #[.agg cs.toArray] w fun e w' => e = .returned (.bool true) ∧ Below w.heap.size w w' := by
  have HI : Hid (Off.Is w cs x) := hi
  obtain ⟨asa, csa, ald, cld, abk, cbk, rfl, hsa, ssa, hld, sld, hbk, sbk⟩ := hi
  clear hsa ssa hld sld hbk sbk
  have hb0 : Below w.heap.size w (w.alloc (.cells #[.slice asa x.san csa, .slice ald x.ldn cld, .slice abk x.bkn cbk] 26)) := push (Below.refl _ _) _
  have A0 := heap_alloc_new w (.cells #[.slice asa x.san csa, .slice ald x.ldn cld, .slice abk x.bkn cbk] 26)
  go_enter Tryz.func3, Tryz.ntmps3
  go_wp2_with fail
  generalize w.alloc (.cells #[.slice asa x.san csa, .slice ald x.ldn cld, .slice abk x.bkn cbk] 26) = wA at hb0 A0 ⊢
  refine (szOffice_any [.slice asa x.san csa, .slice ald x.ldn cld, .slice abk x.bkn cbk] x _ hs (HI.out.below hb0)).mono ?_
  rintro e w1 ⟨r, rfl, hr, hb⟩
  have A1 := blk_below A0 hb
  have hb1 := after hb0 hb
  clear A0 hb0 hb
  rcases hr with rfl | ⟨r0, _, ht⟩
  · go_wp2
    go_ret
    exact ⟨rfl, hb1⟩
  · have d0 : decide (r < 0) = false := by simpa using r0
    have HS : Hid (Off.Short x 1000000000000000) := hs
    have HT : Hid (Off.Short x 1048576) := ht
    clear hs ht
    have q0 := blk_cell A1 0 _ rfl
    have q1 := blk_cell A1 1 _ rfl
    have q2 := blk_cell A1 2 _ rfl
    go_wp2_with fail
    refine (toOffice_any [.slice asa x.san csa, .slice ald x.ldn cld, .slice abk x.bkn cbk] x _ HT.out (HI.out.below hb1)).mono ?_
    rintro e w2 ⟨cs2, rfl, hin2, hb⟩
    have A2 := blk_below A1 hb
    have hb2 := after hb1 hb
    have is2 := hin2.is HT.out
    clear q0 q1 q2 A1 hb1 hb hin2
    go_wp2_with fail
    refine (specOffice_any cs2 x _ HT.out is2).mono ?_
    rintro e w3 ⟨rfl, hb⟩
    obtain ⟨B, hB⟩ : ∃ B, B = decide (OffOk x) := ⟨_, rfl⟩
    rw [← hB]
    have HB : Hid (B = decide (OffOk x)) := hB
    clear hB
    have A3 := blk_below A2 hb
    have hb3 := after hb2 hb
    clear A2 hb2 hb is2
    have q0 := blk_cell A3 0 _ rfl
    have q1 := blk_cell A3 1 _ rfl
    have q2 := blk_cell A3 2 _ rfl
    go_wp2_with fail
    refine (toOffice_any [.slice asa x.san csa, .slice ald x.ldn cld, .slice abk x.bkn cbk] x _ HT.out (HI.out.below hb3)).mono ?_
    rintro e w4 ⟨cs4, rfl, hin4, hb⟩
    have A4 := blk_below A3 hb
    have hb4 := after hb3 hb
    have is4 := hin4.is HT.out
    clear q0 q1 q2 A3 hb3 hb
    have HI4 : Hid (Off.Is w4 cs4 x) := is4
    clear is4
    obtain ⟨_, _, lsa4, _, _, lld4, _, lbk4, _, rfl, _, isa4, ild4, ibk4⟩ := hin4
    clear isa4 ild4 ibk4
    have hb4' := push hb4 (.cells #[.slice (some ⟨lsa4, 0, none⟩) x.san x.san, .slice (some ⟨lld4, 0, none⟩) x.ldn x.ldn, .slice (some ⟨lbk4, 0, none⟩) x.bkn x.bkn] 33)
    have A4' := blk_alloc A4 (.cells #[.slice (some ⟨lsa4, 0, none⟩) x.san x.san, .slice (some ⟨lld4, 0, none⟩) x.ldn x.ldn, .slice (some ⟨lbk4, 0, none⟩) x.bkn x.bkn] 33)
    have X4 := heap_alloc_new w4 (.cells #[.slice (some ⟨lsa4, 0, none⟩) x.san x.san, .slice (some ⟨lld4, 0, none⟩) x.ldn x.ldn, .slice (some ⟨lbk4, 0, none⟩) x.bkn x.bkn] 33)
    have HI5 : Hid (Off.Is (w4.alloc (.cells #[.slice (some ⟨lsa4, 0, none⟩) x.san x.san, .slice (some ⟨lld4, 0, none⟩) x.ldn x.ldn, .slice (some ⟨lbk4, 0, none⟩) x.bkn x.bkn] 33)) [whole lsa4 x.san, whole lld4 x.ldn, whole lbk4 x.bkn] x) := HI4.out.below (push (Below.refl _ w4) _)
    unfold whole
    go_wp2_with fail
    generalize w4.alloc (.cells #[.slice (some ⟨lsa4, 0, none⟩) x.san x.san, .slice (some ⟨lld4, 0, none⟩) x.ldn x.ldn, .slice (some ⟨lbk4, 0, none⟩) x.bkn x.bkn] 33) = w5 at hb4' A4' X4 HI5 ⊢
    refine (implOffice_any [whole lsa4 x.san, whole lld4 x.ldn, whole lbk4 x.bkn] x _ HT.out HI5.out).mono ?_
    rintro e w6 ⟨rfl, hb⟩
    rw [← HB.out]
    have A6 := blk_below A4' hb
    have X6 := blk_below X4 hb
    have hb6 := after hb4' hb
    have HI6 : Hid (Off.Is w6.drew [whole lsa4 x.san, whole lld4 x.ldn, whole lbk4 x.bkn] x) := (HI5.out.below hb).below (Below.refl _ _).drew
    have HIA : Hid (Off.Is w6.drew [.slice asa x.san csa, .slice ald x.ldn cld, .slice abk x.bkn cbk] x) := HI.out.below hb6.drew
    have DA : Hid (w6.drew.heap[w.heap.size]? = _) := A6
    have DX : Hid (w6.drew.heap[w4.heap.size]? = _) := X6
    have KA : Hid ((w6.cell? ⟨w.heap.size, 0, none⟩ = some (.slice asa x.san csa) ∧ w6.cell? ⟨w.heap.size, 1, none⟩ = some (.slice ald x.ldn cld) ∧ w6.cell? ⟨w.heap.size, 2, none⟩ = some (.slice abk x.bkn cbk)) ∧ (w6.cell? ⟨w4.heap.size, 0, none⟩ = some (.slice (some ⟨lsa4, 0, none⟩) x.san x.san) ∧ w6.cell? ⟨w4.heap.size, 1, none⟩ = some (.slice (some ⟨lld4, 0, none⟩) x.ldn x.ldn) ∧ w6.cell? ⟨w4.heap.size, 2, none⟩ = some (.slice (some ⟨lbk4, 0, none⟩) x.bkn x.bkn))) := ⟨⟨blk_cell A6 0 _ rfl, blk_cell A6 1 _ rfl, blk_cell A6 2 _ rfl⟩, ⟨blk_cell X6 0 _ rfl, blk_cell X6 1 _ rfl, blk_cell X6 2 _ rfl⟩⟩
    clear A4 A4' X4 hb4 hb4' hb A6 X6 HB HI4 HI5
    obtain ⟨⟨a0, a1, a2⟩, ⟨x0, x1, x2⟩⟩ := KA.out
    go_wp2
    go_region_held3 (fun w' => (w'.cell? ⟨w.heap.size, 0, none⟩ = some (.slice asa x.san csa) ∧ w'.cell? ⟨w.heap.size, 1, none⟩ = some (.slice ald x.ldn cld) ∧ w'.cell? ⟨w.heap.size, 2, none⟩ = some (.slice abk x.bkn cbk)) ∧ (w'.cell? ⟨w4.heap.size, 0, none⟩ = some (.slice (some ⟨lsa4, 0, none⟩) x.san x.san) ∧ w'.cell? ⟨w4.heap.size, 1, none⟩ = some (.slice (some ⟨lld4, 0, none⟩) x.ldn x.ldn) ∧ w'.cell? ⟨w4.heap.size, 2, none⟩ = some (.slice (some ⟨lbk4, 0, none⟩) x.bkn x.bkn)))
      (first | exact KA.out | exact ⟨⟨blk_cell (blk_below (blk_below DA.out hb7) hb8) 0 _ rfl, blk_cell (blk_below (blk_below DA.out hb7) hb8) 1 _ rfl, blk_cell (blk_below (blk_below DA.out hb7) hb8) 2 _ rfl⟩, ⟨blk_cell (blk_below (blk_below DX.out hb7) hb8) 0 _ rfl, blk_cell (blk_below (blk_below DX.out hb7) hb8) 1 _ rfl, blk_cell (blk_below (blk_below DX.out hb7) hb8) 2 _ rfl⟩⟩ | exact ⟨⟨blk_cell (blk_below DA.out hb7) 0 _ rfl, blk_cell (blk_below DA.out hb7) 1 _ rfl, blk_cell (blk_below DA.out hb7) 2 _ rfl⟩, ⟨blk_cell (blk_below DX.out hb7) 0 _ rfl, blk_cell (blk_below DX.out hb7) 1 _ rfl, blk_cell (blk_below DX.out hb7) 2 _ rfl⟩⟩)
      (first | (go_at_call 8; refine (toOffice_any [.slice asa x.san csa, .slice ald x.ldn cld, .slice abk x.bkn cbk] x _ HT.out HIA.out).mono ?_; rintro e w7 ⟨cs7, rfl, hin7, hb7⟩) | (go_at_call 10; refine (eqOffice_same [whole lsa4 x.san, whole lld4 x.ldn, whole lbk4 x.bkn] cs7 x _ HT.out (HI6.out.below hb7) (hin7.is HT.out)).mono ?_; rintro e w8 ⟨rfl, hb8⟩))
    go_wp2
    go_ret
    exact ⟨rfl, after (after hb6.drew hb7) hb8⟩

end Go.Proofs.YtlnadbnoemlpeaaGreat
