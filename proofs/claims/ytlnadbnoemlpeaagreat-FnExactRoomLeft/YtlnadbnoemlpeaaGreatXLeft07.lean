/-
  OWN TEXT: LawLeft, PLeft (the last: FnExactRoomLeft holds, at every argument, with no condition).
-/
import Derived.Deep.RegionHeld3
import Derived.Test.YtlnadbnoemlpeaaGreatXLeft02
import Derived.Test.YtlnadbnoemlpeaaGreatB32
import Derived.Test.YtlnadbnoemlpeaaGreatXLeft06
import Derived.Test.YtlnadbnoemlpeaaGreatB07
import Derived.Test.YtlnadbnoemlpeaaGreatB37
namespace Go.Proofs.YtlnadbnoemlpeaaGreat
open Go.RowKit

set_option maxHeartbeats 6400000 in
set_option maxRecDepth 100000 in
theorem lawRoomLeft (cs : List Value) (x : Off) (z : Int) (w : World) (hs : Off.Short x 1000000000000000) (hi : Off.Is w cs x) :
    Calls Tryz.prog 5 #[.agg cs.toArray, .int .i64 z] w fun e w' => e = .returned (.bool true) ∧ Below w.heap.size w w' := by
  have HI : Hid (Off.Is w cs x) := hi
  obtain ⟨asa, csa, ald, cld, abk, cbk, rfl, h1, s1, h2, s2, h3, s3⟩ := hi
  clear h1 s1 h2 s2 h3 s3
  have HS : Hid (Off.Short x 1000000000000000) := hs
  clear hs
  have HB : Below w.heap.size w (w.alloc (.cells #[.slice asa x.san csa, .slice ald x.ldn cld, .slice abk x.bkn cbk] 26)) := push (Below.refl _ _) _
  have A := heap_alloc_new w (.cells #[.slice asa x.san csa, .slice ald x.ldn cld, .slice abk x.bkn cbk] 26)
  have HAW : Hid (w.heap.size < (w.alloc (.cells #[.slice asa x.san csa, .slice ald x.ldn cld, .slice abk x.bkn cbk] 26)).heap.size) := by show w.heap.size < (w.alloc (.cells #[.slice asa x.san csa, .slice ald x.ldn cld, .slice abk x.bkn cbk] 26)).heap.size; simp
  go_enter Tryz.func5, Tryz.ntmps5
  go_wp2_with fail
  generalize w.alloc (.cells #[.slice asa x.san csa, .slice ald x.ldn cld, .slice abk x.bkn cbk] 26) = wA at HB A HAW ⊢
  refine (szOffice_any [.slice asa x.san csa, .slice ald x.ldn cld, .slice abk x.bkn cbk] x _ HS.out (HI.out.below HB)).mono ?_
  rintro e w1 ⟨r, rfl, hr, hb⟩
  have HS1 : Hid (wA.heap.size ≤ w1.heap.size) := hb.size
  replace A := blk_below A hb
  replace HB := after HB hb
  clear hb
  rcases hr with rfl | ⟨r0, _, ht⟩
  · go_wp2
    go_ret
    exact ⟨rfl, HB⟩
  have d0 : decide (r < 0) = false := by simpa using r0
  have HT : Hid (Off.Short x 1048576) := ht
  clear ht HS
  obtain ⟨N1, hN1⟩ : ∃ q : Nat, q = lN1 x z := ⟨_, rfl⟩
  obtain ⟨N2, hN2⟩ : ∃ q : Nat, q = lN2 x z := ⟨_, rfl⟩
  have b1 : N1 ≤ 1048576 := by rw [hN1]; exact lN1_le z HT.out
  have b2 : N2 ≤ 1048576 := by rw [hN2]; exact lN2_le z HT.out
  obtain ⟨F1, hF1⟩ : ∃ q : Nat → Int, q = lF1 x z := ⟨_, rfl⟩
  obtain ⟨F2, hF2⟩ : ∃ q : Nat → Int, q = lF2 x z := ⟨_, rfl⟩
  obtain ⟨M, hM⟩ : ∃ q : Int, q = lM x z := ⟨_, rfl⟩
  obtain ⟨ok, hok⟩ : ∃ q : Bool, q = lOk x z := ⟨_, rfl⟩
  have HU : Hid (∀ b e W, LeftU x z b 3 e W → ∃ v1 v2, e = .returned (.tuple #[v1, v2, .int .i64 M, .bool ok]) ∧ W.ownsRow b 3 1 v1 N1 (intList F1 N1) ∧ W.ownsRow b 3 1 v2 N2 (intList F2 N2)) := by rw [hN1, hN2, hF1, hF2, hM, hok]; exact fun b e W h => h
  have HV : Hid (∀ b e W, LeftV x z b 3 e W → ∃ v1 v2, e = .returned (.tuple #[v1, v2, .int .i64 M, .bool ok]) ∧ W.ownsRow b 3 1 v1 N1 (intList F1 N1) ∧ W.ownsRow b 3 1 v2 N2 (intList F2 N2) ∧ ∀ b, v1.ownBlock = some b → v2.ownBlock ≠ some b) := by rw [hN1, hN2, hF1, hF2, hM, hok]; exact fun b e W h => h
  clear hN1 hN2 hF1 hF2 hM hok
  have q0 := blk_cell A 0 _ rfl
  have q1 := blk_cell A 1 _ rfl
  have q2 := blk_cell A 2 _ rfl
  go_wp2_with fail
  refine (toOffice_any [.slice asa x.san csa, .slice ald x.ldn cld, .slice abk x.bkn cbk] x _ HT.out (HI.out.below HB)).mono ?_
  rintro e w2 ⟨cs2, rfl, hin, hb⟩
  have HS2 : Hid (w1.heap.size ≤ w2.heap.size) := hb.size
  clear q0 q1 q2
  replace A := blk_below A hb
  replace HB := after HB hb
  clear hb
  have is2 := hin.is HT.out
  clear hin
  go_wp2_with fail
  refine (specLeft_any cs2 x z _ HT.out is2).mono ?_
  rintro e w3 ⟨hu, hb⟩
  obtain ⟨u1, u2, rfl, vw1, vw2⟩ := HU.out _ _ _ (leftU_of hu)
  have HS3 : Hid (w2.heap.size ≤ w3.heap.size) := hb.size
  clear hu is2
  replace A := blk_below A hb
  replace HB := after HB hb
  clear hb
  obtain ⟨aw1, cw1, rfl, _⟩ := own_form vw1
  have HWL1 : Hid (∀ b, (Value.slice aw1 N1 cw1).ownBlock = some b → w.heap.size ≤ b ∧ b < w3.heap.size) := fun b hb => by have := (World.ownsRow.lt vw1 b hb); have := HAW.out; have := HS1.out; have := HS2.out; exact ⟨by omega, by omega⟩
  obtain ⟨aw2, cw2, rfl, _⟩ := own_form vw2
  have HWL2 : Hid (∀ b, (Value.slice aw2 N2 cw2).ownBlock = some b → w.heap.size ≤ b ∧ b < w3.heap.size) := fun b hb => by have := (World.ownsRow.lt vw2 b hb); have := HAW.out; have := HS1.out; have := HS2.out; exact ⟨by omega, by omega⟩
  have q0 := blk_cell A 0 _ rfl
  have q1 := blk_cell A 1 _ rfl
  have q2 := blk_cell A 2 _ rfl
  go_wp2_with fail
  refine (toOffice_any [.slice asa x.san csa, .slice ald x.ldn cld, .slice abk x.bkn cbk] x _ HT.out (HI.out.below HB)).mono ?_
  rintro e w4 ⟨cs4, rfl, hin4, hb⟩
  have HS4 : Hid (w3.heap.size ≤ w4.heap.size) := hb.size
  clear q0 q1 q2
  replace A := blk_below A hb
  replace HB := after HB hb
  replace vw1 := own_below hb vw1
  replace vw2 := own_below hb vw2
  clear hb
  have HIN4 : Hid (Off.In w4 w3.heap.size w4.heap.size cs4 x) := hin4
  obtain ⟨m1, m2, gsa, l, c, gld, C, gbk, E, rfl, _, _, _, _⟩ := hin4
  unfold whole
  have hb : Below w4.heap.size w4 (w4.alloc (.cells #[.slice (some ⟨gsa, 0, none⟩) x.san x.san, .slice (some ⟨gld, 0, none⟩) x.ldn x.ldn, .slice (some ⟨gbk, 0, none⟩) x.bkn x.bkn] 33)) := push (Below.refl _ _) _
  have X := heap_alloc_new w4 (.cells #[.slice (some ⟨gsa, 0, none⟩) x.san x.san, .slice (some ⟨gld, 0, none⟩) x.ldn x.ldn, .slice (some ⟨gbk, 0, none⟩) x.bkn x.bkn] 33)
  have IN : Off.In (w4.alloc (.cells #[.slice (some ⟨gsa, 0, none⟩) x.san x.san, .slice (some ⟨gld, 0, none⟩) x.ldn x.ldn, .slice (some ⟨gbk, 0, none⟩) x.bkn x.bkn] 33)) w3.heap.size w4.heap.size [.slice (some ⟨gsa, 0, none⟩) x.san x.san, .slice (some ⟨gld, 0, none⟩) x.ldn x.ldn, .slice (some ⟨gbk, 0, none⟩) x.bkn x.bkn] x := HIN4.out.below hb
  have HS5 : Hid (w4.heap.size < (w4.alloc (.cells #[.slice (some ⟨gsa, 0, none⟩) x.san x.san, .slice (some ⟨gld, 0, none⟩) x.ldn x.ldn, .slice (some ⟨gbk, 0, none⟩) x.bkn x.bkn] 33)).heap.size) := by show w4.heap.size < (w4.alloc (.cells #[.slice (some ⟨gsa, 0, none⟩) x.san x.san, .slice (some ⟨gld, 0, none⟩) x.ldn x.ldn, .slice (some ⟨gbk, 0, none⟩) x.bkn x.bkn] 33)).heap.size; simp
  replace A := blk_below A hb
  replace HB := after HB hb
  replace vw1 := own_below hb vw1
  replace vw2 := own_below hb vw2
  clear hb HIN4
  go_wp2_with fail
  generalize w4.alloc (.cells #[.slice (some ⟨gsa, 0, none⟩) x.san x.san, .slice (some ⟨gld, 0, none⟩) x.ldn x.ldn, .slice (some ⟨gbk, 0, none⟩) x.bkn x.bkn] 33) = w5 at A HB X IN vw1 vw2 HS5 ⊢
  refine (implLeft_any [.slice (some ⟨gsa, 0, none⟩) x.san x.san, .slice (some ⟨gld, 0, none⟩) x.ldn x.ldn, .slice (some ⟨gbk, 0, none⟩) x.bkn x.bkn] x z _ HT.out (IN.is HT.out)).mono ?_
  rintro e w6 ⟨hu, hb⟩
  obtain ⟨g1, g2, rfl, vg1, vg2, hap⟩ := HV.out _ _ _ hu
  clear hu
  have HS6 : Hid (w5.heap.size ≤ w6.heap.size) := hb.size
  replace A := blk_below A hb
  replace X := blk_below X hb
  replace HB := after HB hb
  replace IN := IN.below hb
  replace vw1 := own_below hb vw1
  replace vw2 := own_below hb vw2
  clear hb
  obtain ⟨ag1, cg1, rfl, _⟩ := own_form vg1
  obtain ⟨ag2, cg2, rfl, _⟩ := own_form vg2
  have HGL1 : Hid (∀ b, (Value.slice ag1 N1 cg1).ownBlock = some b → w5.heap.size ≤ b) := fun b hb => (World.ownsRow.lt vg1 b hb).1
  have HGL2 : Hid (∀ b, (Value.slice ag2 N2 cg2).ownBlock = some b → w5.heap.size ≤ b) := fun b hb => (World.ownsRow.lt vg2 b hb).1
  have HAP : Hid (∀ b, (Value.slice ag1 N1 cg1).ownBlock = some b → (Value.slice ag2 N2 cg2).ownBlock ≠ some b) := hap
  clear hap
  go_wp2_with fail
  refine (eqIntS_same ag1 aw1 N1 cg1 cw1 F1 _ b1 (own_ints vg1) (own_ints vw1)).mono ?_
  rintro e w71 ⟨rfl, hb⟩
  replace A := blk_below A hb
  replace X := blk_below X hb
  replace HB := after HB hb
  replace IN := IN.below hb
  replace vw1 := own_below hb vw1
  replace vw2 := own_below hb vw2
  replace vg1 := own_below hb vg1
  replace vg2 := own_below hb vg2
  clear hb
  go_wp2_with fail
  refine (eqIntS_same ag2 aw2 N2 cg2 cw2 F2 _ b2 (own_ints vg2) (own_ints vw2)).mono ?_
  rintro e w72 ⟨rfl, hb⟩
  replace A := blk_below A hb
  replace X := blk_below X hb
  replace HB := after HB hb
  replace IN := IN.below hb
  replace vw1 := own_below hb vw1
  replace vw2 := own_below hb vw2
  replace vg1 := own_below hb vg1
  replace vg2 := own_below hb vg2
  clear hb
  have hne : ((M != M) = false) ∧ ((ok != ok) = false) := ⟨by simp, by simp⟩
  obtain ⟨hne1, hne2⟩ := hne
  go_upto_region 10 with fail
  have KS : Hid (∀ w', Below w72.heap.size w72 w' → ((w'.cell? ⟨w.heap.size, 0, none⟩ = some (.slice asa x.san csa) ∧ w'.cell? ⟨w.heap.size, 1, none⟩ = some (.slice ald x.ldn cld) ∧ w'.cell? ⟨w.heap.size, 2, none⟩ = some (.slice abk x.bkn cbk)) ∧ (w'.cell? ⟨w4.heap.size, 0, none⟩ = some (.slice (some ⟨gsa, 0, none⟩) x.san x.san) ∧ w'.cell? ⟨w4.heap.size, 1, none⟩ = some (.slice (some ⟨gld, 0, none⟩) x.ldn x.ldn) ∧ w'.cell? ⟨w4.heap.size, 2, none⟩ = some (.slice (some ⟨gbk, 0, none⟩) x.bkn x.bkn)))) := fun w' h => by
    have g1 := blk_below A h
    have g2 := blk_below X h
    exact ⟨⟨blk_cell g1 0 _ rfl, blk_cell g1 1 _ rfl, blk_cell g1 2 _ rfl⟩, ⟨blk_cell g2 0 _ rfl, blk_cell g2 1 _ rfl, blk_cell g2 2 _ rfl⟩⟩
  have BW : Hid (∀ w', Below w72.heap.size w72 w' → Below w.heap.size w w') := fun w' h => after HB h
  have HIN : Hid (∀ w', Below w72.heap.size w72 w' → Off.Is w' [.slice (some ⟨gsa, 0, none⟩) x.san x.san, .slice (some ⟨gld, 0, none⟩) x.ldn x.ldn, .slice (some ⟨gbk, 0, none⟩) x.bkn x.bkn] x) := fun w' h => (IN.is HT.out).below h
  go_region_held3 (fun w' => (w'.cell? ⟨w.heap.size, 0, none⟩ = some (.slice asa x.san csa) ∧ w'.cell? ⟨w.heap.size, 1, none⟩ = some (.slice ald x.ldn cld) ∧ w'.cell? ⟨w.heap.size, 2, none⟩ = some (.slice abk x.bkn cbk)) ∧ (w'.cell? ⟨w4.heap.size, 0, none⟩ = some (.slice (some ⟨gsa, 0, none⟩) x.san x.san) ∧ w'.cell? ⟨w4.heap.size, 1, none⟩ = some (.slice (some ⟨gld, 0, none⟩) x.ldn x.ldn) ∧ w'.cell? ⟨w4.heap.size, 2, none⟩ = some (.slice (some ⟨gbk, 0, none⟩) x.bkn x.bkn)))
    ((refine KS.out _ ?_; exact (by repeat (first | exact Below.refl _ _ | refine Below.drew ?_ | refine after ?_ hb9 | refine after ?_ hb8))))
    (first | (go_at_call 8; refine Calls.mono (toOffice_any [.slice asa x.san csa, .slice ald x.ldn cld, .slice abk x.bkn cbk] x _ HT.out (HI.out.below (BW.out _ (by repeat (first | exact Below.refl _ _ | refine Below.drew ?_ | refine after ?_ hb9 | refine after ?_ hb8))))) ?_; rintro e w8 ⟨cs8, rfl, hin8, hb8⟩) | (go_at_call 10; refine Calls.mono (eqOffice_same [.slice (some ⟨gsa, 0, none⟩) x.san x.san, .slice (some ⟨gld, 0, none⟩) x.ldn x.ldn, .slice (some ⟨gbk, 0, none⟩) x.bkn x.bkn] cs8 x _ HT.out (HIN.out _ (by repeat (first | exact Below.refl _ _ | refine Below.drew ?_ | refine after ?_ hb9 | refine after ?_ hb8))) ((hin8.is HT.out).below (by repeat (first | exact Below.refl _ _ | refine Below.drew ?_ | refine after ?_ hb9 | refine after ?_ hb8)))) ?_; rintro e w9 ⟨rfl, hb9⟩))
  have hb : Below w72.heap.size w72 w9 := (by repeat (first | exact Below.refl _ _ | refine Below.drew ?_ | refine after ?_ hb9 | refine after ?_ hb8))
  clear hin8 hb8 hb9 KS BW HIN
  replace A := blk_below A hb
  replace X := blk_below X hb
  replace HB := after HB hb
  replace IN := IN.below hb
  replace vw1 := own_below hb vw1
  replace vw2 := own_below hb vw2
  replace vg1 := own_below hb vg1
  replace vg2 := own_below hb vg2
  clear hb
  have x0 := blk_cell X 0 _ rfl
  have x1 := blk_cell X 1 _ rfl
  have x2 := blk_cell X 2 _ rfl
  go_wp2_with fail
  have HS9 : Hid (w.heap.size < w3.heap.size) := by have := HAW.out; have := HS1.out; have := HS2.out; have := HS3.out; show w.heap.size < w3.heap.size; omega
  refine (markOffice_own [.slice (some ⟨gsa, 0, none⟩) x.san x.san, .slice (some ⟨gld, 0, none⟩) x.ldn x.ldn, .slice (some ⟨gbk, 0, none⟩) x.bkn x.bkn] x w3.heap.size w4.heap.size w9 HT.out IN (by have := blk_lt X; omega)).mono ?_
  rintro e w10 ⟨⟨k, rfl⟩, kp⟩
  clear x0 x1 x2
  have HKX : Hid (∀ b, (w3.heap.size ≤ b ∧ b < w4.heap.size) → w3.heap.size ≤ b ∧ b < w4.heap.size) := fun b h => h
  replace A := kp.blk A (fun e => by have := HKX.out _ e; have := HS9.out; omega)
  replace HB := Kept.below HB HB.size kp (fun b e => by have := HKX.out _ e; have := HS9.out; omega)
  replace vw1 := kp.own vw1 (fun b hb e => by have := HKX.out _ e; have := HWL1.out b hb; omega)
  replace vg1 := kp.own vg1 (fun b hb e => by have := HKX.out _ e; have := HGL1.out b hb; have := HS5.out; omega)
  replace vw2 := kp.own vw2 (fun b hb e => by have := HKX.out _ e; have := HWL2.out b hb; omega)
  replace vg2 := kp.own vg2 (fun b hb e => by have := HKX.out _ e; have := HGL2.out b hb; have := HS5.out; omega)
  clear kp IN X
  have dk : decide ((k : Int) < 0) = false := by simp
  go_wp2_with fail
  refine (eqIntS_same ag1 aw1 N1 cg1 cw1 F1 _ b1 (own_ints vg1) (own_ints vw1)).mono ?_
  rintro e w111 ⟨rfl, hb⟩
  replace A := blk_below A hb
  replace HB := after HB hb
  replace vw1 := own_below hb vw1
  replace vw2 := own_below hb vw2
  replace vg1 := own_below hb vg1
  replace vg2 := own_below hb vg2
  clear hb
  go_wp2_with fail
  refine (eqIntS_same ag2 aw2 N2 cg2 cw2 F2 _ b2 (own_ints vg2) (own_ints vw2)).mono ?_
  rintro e w112 ⟨rfl, hb⟩
  replace A := blk_below A hb
  replace HB := after HB hb
  replace vw1 := own_below hb vw1
  replace vw2 := own_below hb vw2
  replace vg1 := own_below hb vg1
  replace vg2 := own_below hb vg2
  clear hb
  go_wp2_with fail
  refine (markIntS_own ag1 N1 cg1 _ F1 1 _ (by omega) (by omega) (by omega) vg1).mono ?_
  rintro e w12 ⟨rfl, vm1, kp⟩
  have HGK1 : Hid (∀ b, (∃ g, ag1 = some ⟨g, 0, none⟩ ∧ b = g) → (Value.slice ag1 N1 cg1).ownBlock = some b) := by
    rintro b ⟨g, e1, e2⟩
    rw [e1, e2]; rfl
  replace A := kp.blk A (fun e => by have := HGL1.out _ (HGK1.out _ e); have := HS9.out; have := HS4.out; have := HS5.out; omega)
  replace HB := Kept.below HB HB.size kp (fun b e => by have := HGL1.out _ (HGK1.out _ e); have := HS9.out; have := HS4.out; have := HS5.out; omega)
  replace vw1 := kp.own vw1 (fun b hb e => by have := HGL1.out _ (HGK1.out _ e); have := HWL1.out b hb; have := HS4.out; have := HS5.out; omega)
  replace vw2 := kp.own vw2 (fun b hb e => by have := HGL1.out _ (HGK1.out _ e); have := HWL2.out b hb; have := HS4.out; have := HS5.out; omega)
  replace vg2 := kp.own vg2 (fun b hb e => HAP.out b (HGK1.out _ e) hb)
  clear kp vg1
  go_wp2_with fail
  refine (markIntS_own ag2 N2 cg2 _ F2 _ _ (by omega) (by omega) (by omega) vg2).mono ?_
  rintro e w13 ⟨rfl, vm2, kp⟩
  have HGK2 : Hid (∀ b, (∃ g, ag2 = some ⟨g, 0, none⟩ ∧ b = g) → (Value.slice ag2 N2 cg2).ownBlock = some b) := by
    rintro b ⟨g, e1, e2⟩
    rw [e1, e2]; rfl
  replace A := kp.blk A (fun e => by have := HGL2.out _ (HGK2.out _ e); have := HS9.out; have := HS4.out; have := HS5.out; omega)
  replace HB := Kept.below HB HB.size kp (fun b e => by have := HGL2.out _ (HGK2.out _ e); have := HS9.out; have := HS4.out; have := HS5.out; omega)
  replace vw1 := kp.own vw1 (fun b hb e => by have := HGL2.out _ (HGK2.out _ e); have := HWL1.out b hb; have := HS4.out; have := HS5.out; omega)
  replace vw2 := kp.own vw2 (fun b hb e => by have := HGL2.out _ (HGK2.out _ e); have := HWL2.out b hb; have := HS4.out; have := HS5.out; omega)
  replace vm1 := kp.own vm1 (fun b hb e => HAP.out b hb (HGK2.out _ e))
  clear kp vg2
  have dm1 : decide ((1 : Int) + (N1 : Int) < 0) = false := by simp; omega
  have dm2 : decide ((1 : Int) + (N1 : Int) + (N2 : Int) < 0) = false := by simp; omega
  go_wp2_with fail
  refine (heldIntS_yes ag1 N1 cg1 1 _ (by omega) (by omega) (by omega) (own_ints vm1)).mono ?_
  rintro e w' ⟨rfl, hw'⟩
  have hwx := hw'.symm
  clear hw'
  subst hwx
  go_wp2_with fail
  refine (heldIntS_yes ag2 N2 cg2 _ _ (by omega) (by omega) (by omega) (own_ints vm2)).mono ?_
  rintro e w' ⟨rfl, hw'⟩
  have hwx := hw'.symm
  clear hw'
  subst hwx
  have q0 := blk_cell A 0 _ rfl
  have q1 := blk_cell A 1 _ rfl
  have q2 := blk_cell A 2 _ rfl
  go_wp2_with fail
  refine (toOffice_any [.slice asa x.san csa, .slice ald x.ldn cld, .slice abk x.bkn cbk] x _ HT.out (HI.out.below HB)).mono ?_
  rintro e w14 ⟨cs14, rfl, hin, hb⟩
  clear q0 q1 q2
  replace A := blk_below A hb
  replace HB := after HB hb
  replace vw1 := own_below hb vw1
  replace vw2 := own_below hb vw2
  replace vm1 := own_below hb vm1
  replace vm2 := own_below hb vm2
  clear hb
  have is14 := hin.is HT.out
  clear hin
  go_wp2_with fail
  refine (implLeft_any cs14 x z _ HT.out is14).mono ?_
  rintro e w15 ⟨hu, hb⟩
  obtain ⟨k1, k2, rfl, vk1, vk2, _⟩ := HV.out _ _ _ hu
  clear hu is14
  replace A := blk_below A hb
  replace HB := after HB hb
  replace vw1 := own_below hb vw1
  replace vw2 := own_below hb vw2
  replace vm1 := own_below hb vm1
  replace vm2 := own_below hb vm2
  clear hb
  obtain ⟨ak1, ck1, rfl, _⟩ := own_form vk1
  obtain ⟨ak2, ck2, rfl, _⟩ := own_form vk2
  go_wp2_with fail
  refine (eqIntS_same ak1 aw1 N1 ck1 cw1 F1 _ b1 (own_ints vk1) (own_ints vw1)).mono ?_
  rintro e w161 ⟨rfl, hb⟩
  replace A := blk_below A hb
  replace HB := after HB hb
  replace vw1 := own_below hb vw1
  replace vw2 := own_below hb vw2
  replace vm1 := own_below hb vm1
  replace vm2 := own_below hb vm2
  replace vk1 := own_below hb vk1
  replace vk2 := own_below hb vk2
  clear hb
  go_wp2_with fail
  refine (eqIntS_same ak2 aw2 N2 ck2 cw2 F2 _ b2 (own_ints vk2) (own_ints vw2)).mono ?_
  rintro e w162 ⟨rfl, hb⟩
  replace A := blk_below A hb
  replace HB := after HB hb
  replace vw1 := own_below hb vw1
  replace vw2 := own_below hb vw2
  replace vm1 := own_below hb vm1
  replace vm2 := own_below hb vm2
  replace vk1 := own_below hb vk1
  replace vk2 := own_below hb vk2
  clear hb
  go_wp2_with fail
  refine (heldIntS_yes ag1 N1 cg1 1 _ (by omega) (by omega) (by omega) (own_ints vm1)).mono ?_
  rintro e w' ⟨rfl, hw'⟩
  have hwx := hw'.symm
  clear hw'
  subst hwx
  go_wp2_with fail
  refine (heldIntS_yes ag2 N2 cg2 _ _ (by omega) (by omega) (by omega) (own_ints vm2)).mono ?_
  rintro e w' ⟨rfl, hw'⟩
  have hwx := hw'.symm
  clear hw'
  subst hwx
  go_wp2
  go_ret
  exact ⟨rfl, HB⟩

end Go.Proofs.YtlnadbnoemlpeaaGreat

namespace Go.Proofs.YtlnadbnoemlpeaaGreat
open Go.ChangeShapes Go.WideShapes Go.ChangeAt Go.RowKit Go.Deep Go.Joins

set_option maxRecDepth 100000 in
theorem roomLeft_lifted (os : Os) (started : os.Started) (H : Type) (enc : TypeId × Value → H) :
    ReturnsInHanded {} Tryz.checked os 5 .any (Rows.fnExactRoomLeftSpec.pre6 enc Tryz.prog Tryz.f5 Rows.fnExactRoomLeftRow.domain false) (Rows.fnExactRoomLeftSpec.post enc Tryz.prog Tryz.f5 false true false false) := by
  refine returnsInHanded_of_change_sized (C := Tryz.checked) Tryz.own started (by kernel_rfl) Tryz.func5
    (ChangeSpec.witness6 (enc := enc) (C := Tryz.checked) false ⟨#[], #[.agg #[.slice none 0 0, .slice none 0 0, .slice none 0 0], .int .i64 0], []⟩ 8 (by kernel_rfl) (by kernel_rfl) (by kernel_rfl) (by kernel_rfl)) ?_
  intro W base args ds gs before hval0 hW _ hsz0 _
  have hsz : (DataW.weightsEach Tryz.prog (Tryz.f5.params.toList ++ Rows.fnExactRoomLeftSpec.plain.varTypes Tryz.prog) (ds ++ gs)).all (· ≤ reachBytes) = true := hsz0
  clear hsz0
  have hval : ∀ (j : Nat) t v, Tryz.f5.params[j]? = some t → args[j]? = some v → Value.okWide Tryz.prog W .any base t v := hval0
  have hW' := hW
  obtain ⟨p, q, hA0, hV, rfl, hfz, hnd⟩ := hW
  have hA : DataW.TrodAll enc Tryz.prog W 0 (fun _ => true) true Tryz.f5.params.toList args.toList ds p := hA0
  rw [Tryz.params5] at hA hval hsz
  obtain ⟨v0, vs0, d0, ds0, p0, q0, hargs, rfl, rfl, h0, r0⟩ := trodAll_cons hA
  obtain ⟨v1, vs1, d1, ds1, p1, q1, rfl, rfl, rfl, h1, r1⟩ := trodAll_cons r0
  obtain ⟨rfl, rfl, rfl⟩ := trodAll_nil r1
  obtain rfl : args = #[v0, v1] := by cases args; simp_all
  obtain ⟨rfl, rfl⟩ := trodVars_none hV
  have k0 := h0
  have lt0 : ∀ x ∈ p0, x.block < W.heap.size := by obtain ⟨m, hm⟩ := k0; exact DataW.trod_lt m _ _ _ hm
  have hw0 : ∀ x ∈ DataW.weights Tryz.prog 26 d0, x ≤ reachBytes := by
    intro x hx
    have := List.all_eq_true.1 hsz x (by simp [DataW.weightsEach, hx])
    simpa using this
  obtain ⟨cs0, y0, rfl, hi0, hs0⟩ := open_office (hval 0 26 v0 rfl rfl) h0 hw0
  obtain ⟨z1, rfl, rfl, rfl, w1⟩ := open_int Tryz.underlying3 (hval 1 3 v1 rfl rfl) h1
  clear hA0 hval0
  refine (lawRoomLeft cs0 y0 z1 W hs0 hi0).mono fun e W' ⟨he, bel⟩ => ?_
  subst he
  exact ⟨_, rfl, _, _, _, [], _, [], hW', trodAll_mk1 (shut_bool Tryz.underlying4 _), (trodAll_cons_mk (Below.trod Tryz.laidOut (by kernel_rfl) (of_decide_eq_true (by kernel_rfl)) k0 bel lt0) (trodAll_cons_mk (shut_int Tryz.underlying3 w1) trodAll_mk0)), rfl, bel.frame _, fun h => by cases h⟩

theorem roomLeft_holds : Rows.FnExactRoomLeftSaid :=
  OpenClaim.holds_of_wide 5 Tryz.f5 rfl rfl rfl rfl rfl rfl rfl ⟨rfl, rfl, rfl, rfl, rfl⟩ rfl rfl rfl rfl rfl (by kernel_rfl) Tryz.func5 (by kernel_rfl)
    (of_decide_eq_true (by kernel_rfl)) (by unfold Func.isWrapper; first | (rw [if_pos (by decide +kernel)]; kernel_rfl) | (rw [if_neg (by decide +kernel)]; exact ⟨rfl, rfl⟩))
    (fun os started H enc _ => roomLeft_lifted os started H enc)
#print axioms roomLeft_holds

end Go.Proofs.YtlnadbnoemlpeaaGreat
