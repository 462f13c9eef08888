/-
  OWN TEXT: the walk of laws.FnExactLeaveLocks: it returns true, and nothing that was there is written.
-/
import Derived.Test.YtompknfmlnlnfaaSpecLw
import Derived.Test.YtompknfmlnlnfaaLeaveI
import Derived.Test.YtompknfmlnlnfaaMarkL
import Derived.Test.YtompknfmlnlnfaaHeldL
import Derived.Test.YtompknfmlnlnfaaMarkInts
import Derived.Test.YtompknfmlnlnfaaIntsEq
namespace Go.Proofs.Ytompknfmlnlnfaa
open Go.RowKit

set_option maxHeartbeats 6400000 in
set_option maxRecDepth 100000 in
theorem lawLeave (ao : Option Addr) (N c : Nat) (K : Nat → Int) (H Q : Nat → Line) (x : Int) (w : World) (hN : N ≤ 1000000000000000) (hs : ShortTo N H Q 1000000000000000) (hx : LocksAt w ao N K H Q) :
    Calls Try.prog 5 #[.slice ao N c, .int .i64 x] w fun e w' => e = .returned (.bool true) ∧ Below w.heap.size w w' := by
  go_enter Try.func5, Try.ntmps5
  go_wp2_with fail
  refine (szLockS_any ao N c K H Q _ hN hs hx).mono ?_
  rintro e w1 ⟨r, rfl, hr, hb1⟩
  rcases hr with rfl | ⟨r0, hf, hs2⟩
  · go_wp2
    go_ret
    exact ⟨rfl, hb1⟩
  · have HS : Hid (ShortTo N H Q 1048576) := hs2
    have HZ : Hid (LocksAt w ao N K H Q) := hx
    have d0 : decide (r < 0) = false := by simpa using r0
    clear hs2 hs hx
    go_wp2_with fail
    refine (toLockS_any ao N c K H Q _ hf HS.out (HZ.out.below hb1)).mono ?_
    rintro e w2 ⟨g2, h2, q2, rfl, hl2, hb2⟩
    have hl2 := hl2.locks (fun i hi => (HS.out i hi).1) (fun i hi => (HS.out i hi).2)
    have bw2 := after hb1 hb2
    clear hb1 hb2
    go_wp2_with fail
    refine (specLeave_any _ N N K H Q x _ hf (Nat.le_refl _) HS.out hl2).mono ?_
    rintro e w3 ⟨⟨aw, cw, vi, ls, es, code, rfl, hW, hWI, hans⟩, hb3⟩
    obtain ⟨ai, ci, rfl, _⟩ := own_form hWI
    obtain ⟨hl60, hsl, hel⟩ := leaveAns_short hans.out
    have HSL : Hid (ShortTo ls.length (heldF ls) (queueF ls) 1048576) := fun i hi => by have := hsl.to i hi; omega
    have HW : Hid (LocksAt w3 aw ls.length (keyF ls) (heldF ls) (queueF ls)) := hW
    have HWI : Hid (WaitsIs w3 w2.heap.size (.slice ai es.length ci) es) := hWI
    have B3 : Hid (Below w.heap.size w w3) := after bw2 hb3
    clear hl2 bw2 hb3 hW hWI hsl
    go_wp2_with fail
    refine (toLockS_any ao N c K H Q _ hf HS.out (HZ.out.below B3.out)).mono ?_
    rintro e w4 ⟨gx, hh, qq, rfl, hX, hb4⟩
    have HXB : Hid (∀ b, LockBlocks N (.slice (some ⟨gx, 0, none⟩) N N) (fun i => whole (hh i) (H i).n) (fun i => whole (qq i) (Q i).n) b → w3.heap.size ≤ b ∧ b < w4.heap.size) := hX.blocks (Nat.le_refl _)
    have HSZ : Hid (w.heap.size ≤ w3.heap.size ∧ w3.heap.size ≤ w4.heap.size) := ⟨B3.out.size, hb4.size⟩
    go_wp2_with fail
    refine (leaveLoop_any _ N N K H Q x _ hf HS.out (hX.locks (fun i hi => (HS.out i hi).1) (fun i hi => (HS.out i hi).2))).mono ?_
    rintro e w5 ⟨⟨vg, vj, ls2, es2, code2, rfl, hG, hGI, hans2⟩, hb5⟩
    obtain ⟨rfl, rfl, rfl⟩ : ls2 = ls ∧ es2 = es ∧ code2 = code := leaveAns_one hans.out hans2.out
    obtain ⟨hv, qv, hG⟩ := hG
    obtain ⟨ag, cg, rfl, _⟩ := own_form hG.row
    obtain ⟨aj, cj, rfl, _⟩ := own_form hGI
    have HGB : Hid (∀ b, LockBlocks ls2.length (.slice ag ls2.length cg) hv qv b → w4.heap.size ≤ b) := fun b hb => (hG.lim b hb).1
    have HJB : Hid (∀ b, (Value.slice aj es2.length cj).ownBlock = some b → w4.heap.size ≤ b) := fun b hb => (World.ownsRow.lt hGI b hb).1
    have b5 := after hb4 hb5
    have hX5 := hX.below hb5
    clear hans2 hX hb4 hb5
    go_wp2_with fail
    refine (eqLockS_same ag aw ls2.length cg cw (keyF ls2) (heldF ls2) (queueF ls2) _ (by omega) HSL.out hG.at_ (HW.out.below b5)).mono ?_
    rintro e w6 ⟨rfl, hb6⟩
    have b6 := after b5 hb6
    have hX6 := hX5.below hb6
    have hG6 := hG.below hb6
    have hGI6 := hGI.below hb6
    clear b5 hX5 hG hGI hb6
    go_wp2_with fail
    refine (eqIntS_same aj ai es2.length cj ci (getI es2) _ (by omega) hGI6.ints (HWI.out.below b6).ints).mono ?_
    rintro e w7 ⟨rfl, hb7⟩
    have b7 := after b6 hb7
    have hX7 := hX6.below hb7
    have hG7 := hG6.below hb7
    have hGI7 := hGI6.below hb7
    clear b6 hX6 hG6 hGI6 hb7
    go_wp2_with fail
    refine (toLockS_any ao N c K H Q _ hf HS.out (HZ.out.below (after B3.out b7))).mono ?_
    rintro e w8 ⟨g8, h8, q8, rfl, hl8, hb8⟩
    have hl8 := hl8.locks (fun i hi => (HS.out i hi).1) (fun i hi => (HS.out i hi).2)
    have b8 := after b7 hb8
    have hX8 := hX7.below hb8
    have hG8 := hG7.below hb8
    have hGI8 := hGI7.below hb8
    clear b7 hX7 hG7 hGI7 hb8
    go_wp2_with fail
    refine (eqLockS_same _ _ N N N K H Q _ hf HS.out (hX8.locks (fun i hi => (HS.out i hi).1) (fun i hi => (HS.out i hi).2)) hl8).mono ?_
    rintro e w9 ⟨rfl, hb9⟩
    have b9 := after b8 hb9
    have hX9 := hX8.below hb9
    have hG9 := hG8.below hb9
    have hGI9 := hGI8.below hb9
    clear b8 hX8 hG8 hGI8 hb9 hl8
    go_wp2_with fail
    refine (markLockS_own _ N N w3.heap.size K H Q _ _ _ hf HS.out (hX9.own hf HS.out)).mono ?_
    rintro e w10 ⟨rfl, _, hk10⟩
    have b10 := Kept.below b9 b9.size hk10 (fun b hb => (HXB.out b hb).1)
    have hG10 := hG9.kept hk10 (fun b h1 h2 => by have := HXB.out b h2; have := HGB.out b h1; omega)
    have hGI10 : WaitsIs w10 w4.heap.size (.slice aj es2.length cj) es2 := hk10.own hGI9 (fun b h1 h2 => by have := HXB.out b h2; have := HJB.out b h1; omega)
    have hlo := markPos_lo H Q 1 N
    generalize markPos H Q 1 N = mx at *
    have e0 : decide (mx < 0) = false := by simp; omega
    clear b9 hX9 hG9 hGI9 hk10 hlo
    go_wp2_with fail
    refine (eqLockS_same ag aw ls2.length cg cw (keyF ls2) (heldF ls2) (queueF ls2) _ (by omega) HSL.out hG10.at_ (HW.out.below b10)).mono ?_
    rintro e w11 ⟨rfl, hb11⟩
    have b11 := after b10 hb11
    have hG11 := hG10.below hb11
    have hGI11 := hGI10.below hb11
    clear b10 hG10 hGI10 hb11
    go_wp2_with fail
    refine (eqIntS_same aj ai es2.length cj ci (getI es2) _ (by omega) hGI11.ints (HWI.out.below b11).ints).mono ?_
    rintro e w12 ⟨rfl, hb12⟩
    have b12 := after b11 hb12
    have hG12 := hG11.below hb12
    have hGI12 := hGI11.below hb12
    clear b11 hG11 hGI11 hb12 e0
    go_wp2_with fail
    refine (markLockS_own _ ls2.length cg w4.heap.size (keyF ls2) (heldF ls2) (queueF ls2) _ _ _ (by omega) HSL.out hG12).mono ?_
    rintro e w13 ⟨rfl, hG13, hk13⟩
    have b13 := Kept.below b12 b12.size hk13 (fun b hb => by have := HGB.out b hb; have := HSZ.out; omega)
    have hGI13 : WaitsIs w13 w4.heap.size (.slice aj es2.length cj) es2 := hk13.own hGI12 (fun b h1 h2 => hG12.ints_apart hGI12 b h2 h1)
    have hlo := markPos_lo (heldF ls2) (queueF ls2) 1 ls2.length
    have hhi := markPos_hi ls2.length (heldF ls2) (queueF ls2) 1 HSL.out ls2.length (Nat.le_refl _)
    obtain ⟨mp, hmp⟩ : ∃ mp, mp = markPos (heldF ls2) (queueF ls2) 1 ls2.length := ⟨_, rfl⟩
    have HMP : Hid (mp = markPos (heldF ls2) (queueF ls2) 1 ls2.length) := hmp
    rw [← hmp] at hlo hhi ⊢
    have e1 : decide (mp < 0) = false := by simp; omega
    have e2 : decide (mp + (es2.length : Int) < 0) = false := by simp; omega
    clear b12 hG12 hGI12 hk13 hmp
    go_wp2_with fail
    refine (markIntS_own aj es2.length cj w4.heap.size (getI es2) mp _ (by omega) (by omega) (by omega) hGI13).mono ?_
    rintro e w14 ⟨rfl, hJ14, hk14⟩
    have HK : Hid (∀ b, (∃ g, aj = some ⟨g, 0, none⟩ ∧ b = g) → (Value.slice aj es2.length cj).ownBlock = some b) := by
      rintro b ⟨g, e1, e2⟩
      rw [e1, e2]; rfl
    have b14 := Kept.below b13 b13.size hk14 (fun b hb => by have := HJB.out b (HK.out b hb); have := HSZ.out; omega)
    have hG14 := hG13.kept hk14 (fun b h1 h2 => hG13.ints_apart hGI13 b h1 (HK.out b h2))
    clear b13 hG13 hGI13 hk14
    go_wp2_with fail
    refine (heldLockS_yes ag ls2.length cg w4.heap.size (heldF ls2) (queueF ls2) _ _ _ (by omega) HSL.out hG14).mono ?_
    rintro e w15 ⟨rfl, hb15⟩
    rw [← HMP.out]
    have b15 := after b14 hb15
    have hG15 := hG14.below hb15
    have hJ15 := own_below hb15 hJ14
    clear b14 hG14 hJ14 hb15
    go_wp2_with fail
    refine (heldIntS_yes aj es2.length cj mp _ (by omega) (by omega) (by omega) (own_ints hJ15)).mono ?_
    rintro e w' ⟨rfl, hw'⟩
    have hw15 := hw'.symm
    subst hw15
    go_wp2_with fail
    refine (toLockS_any ao N c K H Q _ hf HS.out (HZ.out.below (after B3.out b15))).mono ?_
    rintro e w16 ⟨g16, h16, q16, rfl, hl16, hb16⟩
    have hl16 := hl16.locks (fun i hi => (HS.out i hi).1) (fun i hi => (HS.out i hi).2)
    have b16 := after b15 hb16
    have hG16 := hG15.below hb16
    have hJ16 := own_below hb16 hJ15
    clear b15 hG15 hJ15 hb16
    go_wp2_with fail
    refine (leaveLoop_any _ N N K H Q x _ hf HS.out hl16).mono ?_
    rintro e w17 ⟨⟨vk, vl, ls3, es3, code3, rfl, hK, hKI, hans3⟩, hb17⟩
    obtain ⟨rfl, rfl, rfl⟩ : ls3 = ls2 ∧ es3 = es2 ∧ code3 = code2 := leaveAns_one hans.out hans3.out
    obtain ⟨hv3, qv3, hK⟩ := hK
    obtain ⟨ak, ck, rfl, _⟩ := own_form hK.row
    obtain ⟨al, cl, rfl, _⟩ := own_form hKI
    have b17 := after b16 hb17
    have hG17 := hG16.below hb17
    have hJ17 := own_below hb17 hJ16
    clear b16 hG16 hJ16 hb17 hl16 hans3
    go_wp2_with fail
    refine (eqLockS_same ak aw ls3.length ck cw (keyF ls3) (heldF ls3) (queueF ls3) _ (by omega) HSL.out hK.at_ (HW.out.below b17)).mono ?_
    rintro e w18 ⟨rfl, hb18⟩
    have b18 := after b17 hb18
    have hG18 := hG17.below hb18
    have hJ18 := own_below hb18 hJ17
    have hKI18 := hKI.below hb18
    clear b17 hG17 hJ17 hb18 hK hKI
    go_wp2_with fail
    refine (eqIntS_same al ai es3.length cl ci (getI es3) _ (by omega) hKI18.ints (HWI.out.below b18).ints).mono ?_
    rintro e w19 ⟨rfl, hb19⟩
    have b19 := after b18 hb19
    have hG19 := hG18.below hb19
    have hJ19 := own_below hb19 hJ18
    clear b18 hG18 hJ18 hb19 hKI18
    go_wp2_with fail
    refine (heldLockS_yes ag ls3.length cg w4.heap.size (heldF ls3) (queueF ls3) _ _ _ (by omega) HSL.out hG19).mono ?_
    rintro e w20 ⟨rfl, hb20⟩
    rw [← HMP.out]
    have b20 := after b19 hb20
    have hJ20 := own_below hb20 hJ19
    clear b19 hG19 hJ19 hb20
    go_wp2_with fail
    refine (heldIntS_yes aj es3.length cj mp _ (by omega) (by omega) (by omega) (own_ints hJ20)).mono ?_
    rintro e w' ⟨rfl, hw'⟩
    have hw20 := hw'.symm
    subst hw20
    go_wp2
    go_ret
    exact ⟨rfl, after B3.out b20⟩

end Go.Proofs.Ytompknfmlnlnfaa
