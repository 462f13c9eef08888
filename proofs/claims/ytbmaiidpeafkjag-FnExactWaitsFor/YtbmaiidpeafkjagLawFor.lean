/-
  OWN TEXT: the walk of laws.FnExactWaitsFor: it returns true, and nothing that was there is written.
-/
import Derived.Test.YtbmaiidpeafkjagForA
import Derived.Test.YtbmaiidpeafkjagMarkL
import Derived.Test.YtbmaiidpeafkjagMarkInts
namespace Go.Proofs.Ytbmaiidpeafkjag
open Go.RowKit

set_option maxHeartbeats 3200000 in
set_option maxRecDepth 100000 in
theorem lawWaitsFor (ao : Option Addr) (N c : Nat) (K : Nat → Int) (H Q : Nat → Line) (x : Int) (w : World) (hN : N ≤ 1000000000000000) (hs : ShortTo N H Q 1000000000000000) (hx : LocksAt w ao N K H Q) :
    Calls Try.prog 6 #[.slice ao N c, .int .i64 x] w fun e w' => e = .returned (.bool true) ∧ Below w.heap.size w w' := by
  go_enter Try.func6, Try.ntmps6
  go_wp2_with fail
  refine (szLockS_any ao N c K H Q _ hN hs hx).mono ?_
  rintro e w1 ⟨r, rfl, hr, hb1⟩
  rcases hr with rfl | ⟨r0, hf, hs2⟩
  · go_wp2
    go_ret
    exact ⟨rfl, hb1⟩
  · have HS : Hid (ShortTo N H Q 1048576) := hs2
    have d0 : decide (r < 0) = false := by simpa using r0
    clear hs2 hs
    go_wp2_with fail
    refine (toLockS_any ao N c K H Q _ hf HS.out (hx.below hb1)).mono ?_
    rintro e w2 ⟨g2, h2, q2, rfl, hl2, hb2⟩
    have hl2 := hl2.locks (fun i hi => (HS.out i hi).1) (fun i hi => (HS.out i hi).2)
    have bw2 := after hb1 hb2
    clear hb1 hb2
    go_wp2_with fail
    refine (specFor_any _ N N K H Q x _ hf (Nat.le_refl _) HS.out hl2).mono ?_
    rintro e w3 ⟨⟨vw, ok, ks, rfl, hW, hans⟩, hb3⟩
    have bw3 := after bw2 hb3
    obtain ⟨aw, cw, rfl, _⟩ := own_form hW
    have hkl := forAns_len hans.out
    have HWL : Hid (∀ b, (Value.slice aw ks.length cw).ownBlock = some b → b < w3.heap.size) := fun b hb => (World.ownsRow.lt hW b hb).2
    clear hl2 bw2 hb3
    go_wp2_with fail
    refine (toLockS_any ao N c K H Q _ hf HS.out (hx.below bw3)).mono ?_
    rintro e w4 ⟨gx, hh, qq, rfl, hX, hb4⟩
    have bw4 := after bw3 hb4
    have hW4 := hW.below hb4
    have HXB : Hid (∀ b, LockBlocks N (.slice (some ⟨gx, 0, none⟩) N N) (fun i => whole (hh i) (H i).n) (fun i => whole (qq i) (Q i).n) b → w3.heap.size ≤ b ∧ b < w4.heap.size) := hX.blocks (Nat.le_refl _)
    have HSZ : Hid (w.heap.size ≤ w3.heap.size ∧ w3.heap.size ≤ w4.heap.size) := ⟨bw3.size, hb4.size⟩
    clear bw3 hW hb4
    go_wp2_with fail
    refine (implFor_any _ N N K H Q x _ hf HS.out (hX.locks (fun i hi => (HS.out i hi).1) (fun i hi => (HS.out i hi).2))).mono ?_
    rintro e w5 ⟨⟨vg, ok2, ks2, rfl, hG, hans2⟩, hb5⟩
    obtain ⟨rfl, rfl⟩ : ks2 = ks ∧ ok2 = ok := forAns_one hans.out hans2.out
    obtain ⟨ag, cg, rfl, _⟩ := own_form hG
    have HGL : Hid (∀ b, (Value.slice ag ks2.length cg).ownBlock = some b → w4.heap.size ≤ b) := fun b hb => (World.ownsRow.lt hG b hb).1
    have bw5 := after bw4 hb5
    have hW5 := hW4.below hb5
    have hX5 := hX.below hb5
    clear hans2 bw4 hW4 hX hb5
    go_wp2_with fail
    refine (eqIntS_same ag aw ks2.length cg cw (getI ks2) _ (by omega) hG.ints hW5.ints).mono ?_
    rintro e w6 ⟨rfl, hb6⟩
    have bw6 := after bw5 hb6
    have hW6 := hW5.below hb6
    have hX6 := hX5.below hb6
    have hG6 := hG.below hb6
    clear bw5 hW5 hX5 hG hb6
    go_wp2_with fail
    refine (toLockS_any ao N c K H Q _ hf HS.out (hx.below bw6)).mono ?_
    rintro e w7 ⟨g7, h7, q7, rfl, hl7, hb7⟩
    have hl7 := hl7.locks (fun i hi => (HS.out i hi).1) (fun i hi => (HS.out i hi).2)
    have bw7 := after bw6 hb7
    have hW7 := hW6.below hb7
    have hX7 := hX6.below hb7
    have hG7 := hG6.below hb7
    clear bw6 hW6 hX6 hG6 hb7
    go_wp2_with fail
    refine (eqLockS_same _ _ N N N K H Q _ hf HS.out (hX7.locks (fun i hi => (HS.out i hi).1) (fun i hi => (HS.out i hi).2)) hl7).mono ?_
    rintro e w8 ⟨rfl, hb8⟩
    have bw8 := after bw7 hb8
    have hW8 := hW7.below hb8
    have hX8 := hX7.below hb8
    have hG8 := hG7.below hb8
    clear bw7 hW7 hX7 hG7 hb8 hl7
    go_wp2_with fail
    refine (markLockS_own _ N N w3.heap.size K H Q _ _ _ hf HS.out (hX8.own hf HS.out)).mono ?_
    rintro e w9 ⟨rfl, _, hk9⟩
    have bw9 := Kept.below bw8 bw8.size hk9 (fun b hb => by have := HXB.out b hb; have := HSZ.out; omega)
    have hW9 : WaitsIs w9 w2.heap.size (.slice aw ks2.length cw) ks2 := hk9.own hW8 (fun b hb e => by have := HXB.out b e; have := HWL.out b hb; omega)
    have hG9 : WaitsIs w9 w4.heap.size (.slice ag ks2.length cg) ks2 := hk9.own hG8 (fun b hb e => by have := HXB.out b e; have := HGL.out b hb; omega)
    have hlo := markPos_lo H Q 1 N
    generalize markPos H Q 1 N = mp at *
    have e0 : decide (mp < 0) = false := by simp; omega
    clear bw8 hW8 hX8 hG8 hk9
    go_wp2_with fail
    refine (eqIntS_same ag aw ks2.length cg cw (getI ks2) _ (by omega) hG9.ints hW9.ints).mono ?_
    rintro e w10 ⟨rfl, hb10⟩
    have bw10 := after bw9 hb10
    have hW10 := hW9.below hb10
    have hG10 := hG9.below hb10
    clear bw9 hW9 hG9 hb10
    go_wp2_with fail
    refine (markIntS_own ag ks2.length cg w4.heap.size (getI ks2) 1 _ (by omega) (by omega) (by omega) hG10).mono ?_
    rintro e w11 ⟨rfl, hG11, hk11⟩
    have HK : Hid (∀ b, (∃ g, ag = some ⟨g, 0, none⟩ ∧ b = g) → w4.heap.size ≤ b) := by
      rintro b ⟨g, e1, e2⟩
      exact HGL.out b (by rw [e1, e2]; rfl)
    have bw11 := Kept.below bw10 bw10.size hk11 (fun b hb => by have := HK.out b hb; have := HSZ.out; omega)
    have hW11 : WaitsIs w11 w2.heap.size (.slice aw ks2.length cw) ks2 := hk11.own hW10 (fun b hb e => by have := HK.out b e; have := HWL.out b hb; have := HSZ.out; omega)
    clear bw10 hW10 hG10 hk11
    go_wp2_with fail
    refine (heldIntS_yes ag ks2.length cg 1 _ (by omega) (by omega) (by omega) (own_ints hG11)).mono ?_
    rintro e w' ⟨rfl, hw'⟩
    have hw11 := hw'.symm
    subst hw11
    have e1 : decide ((1 : Int) + (ks2.length : Int) < 0) = false := by simp; omega
    go_wp2_with fail
    refine (toLockS_any ao N c K H Q _ hf HS.out (hx.below bw11)).mono ?_
    rintro e w12 ⟨g12, h12, q12, rfl, hl12, hb12⟩
    have hl12 := hl12.locks (fun i hi => (HS.out i hi).1) (fun i hi => (HS.out i hi).2)
    have bw12 := after bw11 hb12
    have hW12 := hW11.below hb12
    have hG12 := own_below hb12 hG11
    clear bw11 hW11 hG11 hb12
    go_wp2_with fail
    refine (implFor_any _ N N K H Q x _ hf HS.out hl12).mono ?_
    rintro e w13 ⟨⟨vk, ok3, ks3, rfl, hK, hans3⟩, hb13⟩
    obtain ⟨rfl, rfl⟩ : ks3 = ks2 ∧ ok3 = ok2 := forAns_one hans.out hans3.out
    obtain ⟨ak, ck, rfl, _⟩ := own_form hK
    have bw13 := after bw12 hb13
    have hW13 := hW12.below hb13
    have hG13 := own_below hb13 hG12
    clear bw12 hW12 hG12 hb13 hl12 hans3
    go_wp2_with fail
    refine (eqIntS_same ak aw ks3.length ck cw (getI ks3) _ (by omega) hK.ints hW13.ints).mono ?_
    rintro e w14 ⟨rfl, hb14⟩
    have bw14 := after bw13 hb14
    have hG14 := own_below hb14 hG13
    clear bw13 hW13 hG13 hb14 hK
    go_wp2_with fail
    refine (heldIntS_yes ag ks3.length cg 1 _ (by omega) (by omega) (by omega) (own_ints hG14)).mono ?_
    rintro e w' ⟨rfl, hw'⟩
    have hw14 := hw'.symm
    subst hw14
    go_wp2
    go_ret
    exact ⟨rfl, bw14⟩

end Go.Proofs.Ytbmaiidpeafkjag
