/-
  OWN TEXT: the walk of laws.FnExactAskLock: it returns true, and nothing that was there is written.
-/
import Derived.Test.YtompknfmlnlnfaaSpecAk
import Derived.Test.YtompknfmlnlnfaaAskI
import Derived.Test.YtompknfmlnlnfaaMarkL
import Derived.Test.YtompknfmlnlnfaaHeldL
namespace Go.Proofs.Ytompknfmlnlnfaa
open Go.RowKit

set_option maxHeartbeats 6400000 in
set_option maxRecDepth 100000 in
theorem lawAsk (ao : Option Addr) (N c : Nat) (K : Nat → Int) (H Q : Nat → Line) (x key : Int) (s : Bool) (w : World) (hN : N ≤ 1000000000000000) (hs : ShortTo N H Q 1000000000000000) (hx : LocksAt w ao N K H Q) :
    Calls Try.prog 4 #[.slice ao N c, .int .i64 x, .int .i64 key, .bool s] w fun e w' => e = .returned (.bool true) ∧ Below w.heap.size w w' := by
  go_enter Try.func4, Try.ntmps4
  go_wp2_with fail
  refine (szLockS_any ao N c K H Q _ hN hs hx).mono ?_
  rintro e w1 ⟨r, rfl, hr, hb1⟩
  rcases hr with rfl | ⟨r0, hf, hs2⟩
  · go_wp2
    go_ret
    exact ⟨rfl, hb1⟩
  · have HS : Hid (ShortTo N H Q 1048576) := hs2
    have HZ : Hid (LocksAt w ao N K H Q) := hx
    have d0 : decide (r < 0) = false := by simpa using r0
    clear hs2 hs hx
    go_wp2_with fail
    refine (toLockS_any ao N c K H Q _ hf HS.out (HZ.out.below hb1)).mono ?_
    rintro e w2 ⟨g2, h2, q2, rfl, hl2, hb2⟩
    have hl2 := hl2.locks (fun i hi => (HS.out i hi).1) (fun i hi => (HS.out i hi).2)
    have bw2 := after hb1 hb2
    clear hb1 hb2
    go_wp2_with fail
    refine (specAsk_any _ N N K H Q x key s _ hf (Nat.le_refl _) HS.out hl2).mono ?_
    rintro e w3 ⟨⟨aw, cw, ls, ok, code, rfl, hW, hans⟩, hb3⟩
    obtain ⟨hl60, hsl⟩ := askAns_short hans.out
    have HSL : Hid (ShortTo ls.length (heldF ls) (queueF ls) 1048576) := fun i hi => by have := hsl.to i hi; omega
    have HW : Hid (LocksAt w3 aw ls.length (keyF ls) (heldF ls) (queueF ls)) := hW
    have B3 : Hid (Below w.heap.size w w3) := after bw2 hb3
    clear hl2 bw2 hb3 hW hsl
    go_wp2_with fail
    refine (toLockS_any ao N c K H Q _ hf HS.out (HZ.out.below B3.out)).mono ?_
    rintro e w4 ⟨gx, hh, qq, rfl, hX, hb4⟩
    have HXB : Hid (∀ b, LockBlocks N (.slice (some ⟨gx, 0, none⟩) N N) (fun i => whole (hh i) (H i).n) (fun i => whole (qq i) (Q i).n) b → w3.heap.size ≤ b ∧ b < w4.heap.size) := hX.blocks (Nat.le_refl _)
    have HSZ : Hid (w.heap.size ≤ w3.heap.size ∧ w3.heap.size ≤ w4.heap.size) := ⟨B3.out.size, hb4.size⟩
    go_wp2_with fail
    refine (implAsk_any _ N N K H Q x key s _ hf HS.out (hX.locks (fun i hi => (HS.out i hi).1) (fun i hi => (HS.out i hi).2))).mono ?_
    rintro e w5 ⟨⟨vg, ls2, ok2, code2, rfl, hG, hans2⟩, hb5⟩
    obtain ⟨rfl, rfl, rfl⟩ : ls2 = ls ∧ ok2 = ok ∧ code2 = code := askAns_one hans.out hans2.out
    obtain ⟨hv, qv, hG⟩ := hG
    obtain ⟨ag, cg, rfl, _⟩ := own_form hG.row
    have HGB : Hid (∀ b, LockBlocks ls2.length (.slice ag ls2.length cg) hv qv b → w4.heap.size ≤ b) := fun b hb => (hG.lim b hb).1
    have b5 := after hb4 hb5
    have hX5 := hX.below hb5
    clear hans2 hX hb4 hb5
    go_wp2_with fail
    refine (eqLockS_same ag aw ls2.length cg cw (keyF ls2) (heldF ls2) (queueF ls2) _ (by omega) HSL.out hG.at_ (HW.out.below b5)).mono ?_
    rintro e w6 ⟨rfl, hb6⟩
    have b6 := after b5 hb6
    have hX6 := hX5.below hb6
    have hG6 := hG.below hb6
    clear b5 hX5 hG hb6
    go_wp2_with fail
    refine (toLockS_any ao N c K H Q _ hf HS.out (HZ.out.below (after B3.out b6))).mono ?_
    rintro e w8 ⟨g8, h8, q8, rfl, hl8, hb8⟩
    have hl8 := hl8.locks (fun i hi => (HS.out i hi).1) (fun i hi => (HS.out i hi).2)
    have b8 := after b6 hb8
    have hX8 := hX6.below hb8
    have hG8 := hG6.below hb8
    clear b6 hX6 hG6 hb8
    go_wp2_with fail
    refine (eqLockS_same _ _ N N N K H Q _ hf HS.out (hX8.locks (fun i hi => (HS.out i hi).1) (fun i hi => (HS.out i hi).2)) hl8).mono ?_
    rintro e w9 ⟨rfl, hb9⟩
    have b9 := after b8 hb9
    have hX9 := hX8.below hb9
    have hG9 := hG8.below hb9
    clear b8 hX8 hG8 hb9 hl8
    go_wp2_with fail
    refine (markLockS_own _ N N w3.heap.size K H Q _ _ _ hf HS.out (hX9.own hf HS.out)).mono ?_
    rintro e w10 ⟨rfl, _, hk10⟩
    have b10 := Kept.below b9 b9.size hk10 (fun b hb => (HXB.out b hb).1)
    have hG10 := hG9.kept hk10 (fun b h1 h2 => by have := HXB.out b h2; have := HGB.out b h1; omega)
    have hlo := markPos_lo H Q 1 N
    generalize markPos H Q 1 N = mx at *
    have e0 : decide (mx < 0) = false := by simp; omega
    clear b9 hX9 hG9 hk10 hlo
    go_wp2_with fail
    refine (eqLockS_same ag aw ls2.length cg cw (keyF ls2) (heldF ls2) (queueF ls2) _ (by omega) HSL.out hG10.at_ (HW.out.below b10)).mono ?_
    rintro e w11 ⟨rfl, hb11⟩
    have b11 := after b10 hb11
    have hG11 := hG10.below hb11
    clear b10 hG10 hb11 e0
    go_wp2_with fail
    refine (markLockS_own _ ls2.length cg w4.heap.size (keyF ls2) (heldF ls2) (queueF ls2) _ _ _ (by omega) HSL.out hG11).mono ?_
    rintro e w13 ⟨rfl, hG13, hk13⟩
    have b13 := Kept.below b11 b11.size hk13 (fun b hb => by have := HGB.out b hb; have := HSZ.out; omega)
    have hlo := markPos_lo (heldF ls2) (queueF ls2) 1 ls2.length
    have hhi := markPos_hi ls2.length (heldF ls2) (queueF ls2) 1 HSL.out ls2.length (Nat.le_refl _)
    obtain ⟨mp, hmp⟩ : ∃ mp, mp = markPos (heldF ls2) (queueF ls2) 1 ls2.length := ⟨_, rfl⟩
    have HMP : Hid (mp = markPos (heldF ls2) (queueF ls2) 1 ls2.length) := hmp
    rw [← hmp] at hlo hhi ⊢
    have e1 : decide (mp < 0) = false := by simp; omega
    clear b11 hG11 hk13 hmp
    go_wp2_with fail
    refine (heldLockS_yes ag ls2.length cg w4.heap.size (heldF ls2) (queueF ls2) _ _ _ (by omega) HSL.out hG13).mono ?_
    rintro e w15 ⟨rfl, hb15⟩
    rw [← HMP.out]
    have b15 := after b13 hb15
    have hG15 := hG13.below hb15
    clear b13 hG13 hb15
    go_wp2_with fail
    refine (toLockS_any ao N c K H Q _ hf HS.out (HZ.out.below (after B3.out b15))).mono ?_
    rintro e w16 ⟨g16, h16, q16, rfl, hl16, hb16⟩
    have hl16 := hl16.locks (fun i hi => (HS.out i hi).1) (fun i hi => (HS.out i hi).2)
    have b16 := after b15 hb16
    have hG16 := hG15.below hb16
    clear b15 hG15 hb16
    go_wp2_with fail
    refine (implAsk_any _ N N K H Q x key s _ hf HS.out hl16).mono ?_
    rintro e w17 ⟨⟨vk, ls3, ok3, code3, rfl, hK, hans3⟩, hb17⟩
    obtain ⟨rfl, rfl, rfl⟩ : ls3 = ls2 ∧ ok3 = ok2 ∧ code3 = code2 := askAns_one hans.out hans3.out
    obtain ⟨hv3, qv3, hK⟩ := hK
    obtain ⟨ak, ck, rfl, _⟩ := own_form hK.row
    have b17 := after b16 hb17
    have hG17 := hG16.below hb17
    clear b16 hG16 hb17 hl16 hans3
    go_wp2_with fail
    refine (eqLockS_same ak aw ls3.length ck cw (keyF ls3) (heldF ls3) (queueF ls3) _ (by omega) HSL.out hK.at_ (HW.out.below b17)).mono ?_
    rintro e w18 ⟨rfl, hb18⟩
    have b18 := after b17 hb18
    have hG18 := hG17.below hb18
    clear b17 hG17 hb18 hK
    go_wp2_with fail
    refine (heldLockS_yes ag ls3.length cg w4.heap.size (heldF ls3) (queueF ls3) _ _ _ (by omega) HSL.out hG18).mono ?_
    rintro e w20 ⟨rfl, hb20⟩
    rw [← HMP.out]
    have b20 := after b18 hb20
    clear b18 hG18 hb20
    go_wp2
    go_ret
    exact ⟨rfl, after B3.out b20⟩

end Go.Proofs.Ytompknfmlnlnfaa
