/-
  OWN TEXT: the walk of laws.FnExactOrderOf: it returns true, and nothing that was there is written.
-/
import Derived.Test.YtcioofnmhfehaaaOrdI
import Derived.Test.YtcioofnmhfehaaaLDones
import Derived.Test.YtcioofnmhfehaaaMarkDone
import Derived.Test.YtcioofnmhfehaaaIntsEq
namespace Go.Proofs.Ytcioofnmhfehaaa
open Go.RowKit

set_option maxHeartbeats 3200000 in
set_option maxRecDepth 100000 in
theorem lawOrderOf (ao : Option Addr) (N c : Nat) (S : Nat → DoneD) (w : World) (hN : N ≤ 1000000000000000) (hs : DoneDsShort N S 1000000000000000) (hx : DoneDsAt w ao N S) :
    Calls Try.prog 3 #[.slice ao N c] w fun e w' => e = .returned (.bool true) ∧ Below w.heap.size w w' := by
  have HX : Hid (DoneDsAt w ao N S) := hx
  have HS : Hid (DoneDsShort N S 1000000000000000) := hs
  clear hx hs
  go_enter Try.func3, Try.ntmps3
  go_wp2_with fail
  refine (szDoneS_any ao N c S 1048576 _ (by omega) (by omega) hN HS.out HX.out).mono ?_
  rintro e w1 ⟨r, rfl, hr, HB⟩
  rcases hr with rfl | ⟨r0, _, n1, ht⟩
  · go_wp2
    go_ret
    exact ⟨rfl, HB⟩
  have d0 : decide (r < 0) = false := by simpa using r0
  have HT : Hid (DoneDsShort N S 1048576) := ht
  clear ht HS
  go_wp2_with fail
  refine (toDoneS_any ao N c S _ n1 HT.out (HX.out.below HB)).mono ?_
  rintro e w2 ⟨g2, C2, rfl, hin, hb⟩
  replace HB := after HB hb
  clear hb
  go_wp2_with fail
  refine (specOrder_any (some ⟨g2, 0, none⟩) N N S _ n1 (hin.at HT.out)).mono ?_
  rintro e w3 ⟨⟨vw, rfl, ow⟩, hb⟩
  have HW1 : Hid (w2.heap.size ≤ w3.heap.size) := hb.size
  have HW0 : Hid (w.heap.size ≤ w2.heap.size) := HB.size
  replace HB := after HB hb
  clear hb hin
  obtain ⟨aw, cw, rfl, _⟩ := own_form ow
  have HWL : Hid (∀ b, (Value.slice aw N cw).ownBlock = some b → w.heap.size ≤ b ∧ b < w3.heap.size) := fun b hb => by have := World.ownsRow.lt ow b hb; have := HW0.out; exact ⟨by omega, by omega⟩
  go_wp2_with fail
  refine (toDoneS_any ao N c S _ n1 HT.out (HX.out.below HB)).mono ?_
  rintro e w4 ⟨gx, C, rfl, IN, hb⟩
  have HS4 : Hid (w3.heap.size ≤ w4.heap.size) := hb.size
  replace HB := after HB hb
  replace ow := own_below hb ow
  clear hb
  go_wp2_with fail
  refine (implOrder_any (some ⟨gx, 0, none⟩) N N S _ n1 (IN.at HT.out)).mono ?_
  rintro e w6 ⟨⟨vg, rfl, og⟩, hb⟩
  replace HB := after HB hb
  replace ow := own_below hb ow
  replace IN := IN.below hb
  clear hb
  obtain ⟨ag, cg, rfl, _⟩ := own_form og
  have HGL : Hid (∀ b, (Value.slice ag N cg).ownBlock = some b → w4.heap.size ≤ b) := fun b hb => (World.ownsRow.lt og b hb).1
  go_wp2_with fail
  refine (eqIntS_same ag aw N cg cw (bys S) _ n1 (own_ints og) (own_ints ow)).mono ?_
  rintro e w7 ⟨rfl, hb⟩
  replace HB := after HB hb
  replace ow := own_below hb ow
  replace og := own_below hb og
  replace IN := IN.below hb
  clear hb
  go_wp2_with fail
  refine (toDoneS_any ao N c S _ n1 HT.out (HX.out.below HB)).mono ?_
  rintro e w8 ⟨g8, C8, rfl, hin8, hb⟩
  replace HB := after HB hb
  replace ow := own_below hb ow
  replace og := own_below hb og
  replace IN := IN.below hb
  clear hb
  go_wp2_with fail
  refine (eqDoneS_same (some ⟨gx, 0, none⟩) (some ⟨g8, 0, none⟩) N N N S _ n1 HT.out (IN.at HT.out) (hin8.at HT.out)).mono ?_
  rintro e w9 ⟨rfl, hb⟩
  replace HB := after HB hb
  replace ow := own_below hb ow
  replace og := own_below hb og
  replace IN := IN.below hb
  clear hb hin8
  go_wp2_with fail
  refine (markDoneS_own gx N w3.heap.size w4.heap.size 1 S C _ n1 (by omega) HT.out IN).mono ?_
  rintro e w10 ⟨⟨k, rfl⟩, kp⟩
  have HKX : Hid (∀ b, (w3.heap.size ≤ b ∧ b < w4.heap.size) → w3.heap.size ≤ b ∧ b < w4.heap.size) := fun b h => h
  replace HB := Kept.below HB HB.size kp (fun b e => by have := HKX.out _ e; have := HW0.out; have := HW1.out; omega)
  replace ow := kp.own ow (fun b hb e => by have := HKX.out _ e; have := HWL.out b hb; omega)
  replace og := kp.own og (fun b hb e => by have := HKX.out _ e; have := HGL.out b hb; omega)
  clear kp IN
  have dk : decide ((k : Int) < 0) = false := by simp
  go_wp2_with fail
  refine (eqIntS_same ag aw N cg cw (bys S) _ n1 (own_ints og) (own_ints ow)).mono ?_
  rintro e w11 ⟨rfl, hb⟩
  replace HB := after HB hb
  replace ow := own_below hb ow
  replace og := own_below hb og
  clear hb
  go_wp2_with fail
  refine (markIntS_own ag N cg _ (bys S) 1 _ (by omega) (by omega) (by omega) og).mono ?_
  rintro e w12 ⟨rfl, vm, kp⟩
  have HGK : Hid (∀ b, (∃ g, ag = some ⟨g, 0, none⟩ ∧ b = g) → (Value.slice ag N cg).ownBlock = some b) := by
    rintro b ⟨g, e1, e2⟩
    rw [e1, e2]; rfl
  replace HB := Kept.below HB HB.size kp (fun b e => by have := HGL.out _ (HGK.out _ e); have := HS4.out; have := HW0.out; have := HW1.out; omega)
  replace ow := kp.own ow (fun b hb e => by have := HGL.out _ (HGK.out _ e); have := HWL.out b hb; have := HS4.out; omega)
  clear kp og
  have dm : decide ((1 : Int) + (N : Int) < 0) = false := by simp; omega
  go_wp2_with fail
  refine (heldIntS_yes ag N cg 1 _ (by omega) (by omega) (by omega) (own_ints vm)).mono ?_
  rintro e w' ⟨rfl, hw'⟩
  have hwx := hw'.symm
  clear hw'
  subst hwx
  go_wp2_with fail
  refine (toDoneS_any ao N c S _ n1 HT.out (HX.out.below HB)).mono ?_
  rintro e w14 ⟨g14, C14, rfl, hin, hb⟩
  replace HB := after HB hb
  replace ow := own_below hb ow
  replace vm := own_below hb vm
  clear hb
  go_wp2_with fail
  refine (implOrder_any (some ⟨g14, 0, none⟩) N N S _ n1 (hin.at HT.out)).mono ?_
  rintro e w15 ⟨⟨vk, rfl, ok⟩, hb⟩
  replace HB := after HB hb
  replace ow := own_below hb ow
  replace vm := own_below hb vm
  clear hb hin
  obtain ⟨ak, ck, rfl, _⟩ := own_form ok
  go_wp2_with fail
  refine (eqIntS_same ak aw N ck cw (bys S) _ n1 (own_ints ok) (own_ints ow)).mono ?_
  rintro e w16 ⟨rfl, hb⟩
  replace HB := after HB hb
  replace vm := own_below hb vm
  clear hb ok ow
  go_wp2_with fail
  refine (heldIntS_yes ag N cg 1 _ (by omega) (by omega) (by omega) (own_ints vm)).mono ?_
  rintro e w' ⟨rfl, hw'⟩
  have hwx := hw'.symm
  clear hw'
  subst hwx
  go_wp2
  go_ret
  exact ⟨rfl, HB⟩

end Go.Proofs.Ytcioofnmhfehaaa
