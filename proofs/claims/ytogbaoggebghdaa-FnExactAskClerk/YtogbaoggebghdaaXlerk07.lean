/-
  OWN TEXT: LawAsk, Views, ViewP.
-/
import Derived.ProofKit
import Derived.OpenShut
import Derived.ChangeOld
import Derived.SizedLaws
import Derived.Deep.Slices
import Derived.Deep.Strs
import Derived.Lib.SmallJoins
import Derived.Test.YtogbaoggebghdaaRows
import Derived.Test.YtogbaoggebghdaaXlerk04
import Derived.Test.YtogbaoggebghdaaXlerk06
import Derived.Test.YtogbaoggebghdaaB12
import Derived.Test.YtogbaoggebghdaaXlerk02
import Derived.Test.YtogbaoggebghdaaB00
import Derived.Test.YtogbaoggebghdaaB01
namespace Go.Proofs.Ytogbaoggebghdaa
open Go.RowKit

set_option maxHeartbeats 12800000 in
set_option maxRecDepth 100000 in
theorem lawAskClerk (ao : Option Addr) (N c : Nat) (S : Nat → ClkD) (nm : ByteArray) (num : Int) (w : World) (hN : N ≤ 1000000000000000) (hs : ClkDsShort N S 1000000000000000) (hx : ClkDsAt w ao N S) (hnm : nm.size ≤ 1000000000000000) :
    Calls Try.prog 5 #[.slice ao N c, .string nm, .int .i64 num] w fun e w' => e = .returned (.bool true) ∧ Below w.heap.size w w' := by
  have HX : Hid (ClkDsAt w ao N S) := hx
  have HS0 : Hid (ClkDsShort N S 1000000000000000) := hs
  clear hx hs
  go_enter Try.func5, Try.ntmps5
  by_cases hsz : nm.size ≤ 1048576
  case neg =>
    have hd : decide ((1048576 : Int) < (nm.size : Int)) = true := by simp; omega
    go_wp2
    go_ret
    exact ⟨rfl, Below.refl _ _⟩
  have hd : decide ((1048576 : Int) < (nm.size : Int)) = false := by simp; omega
  go_wp2_with fail
  refine (szClerkS_any ao N c S 1048576 _ (by omega) (by omega) hN HS0.out HX.out).mono ?_
  rintro e w1 ⟨r, rfl, hr, HB⟩
  rcases hr with rfl | ⟨r0, rl, n1, hts⟩
  · go_wp2
    go_ret
    exact ⟨rfl, HB⟩
  have d0 : decide (r < 0) = false := by simpa using r0
  have HS : Hid (ClkDsShort N S 1048576) := hts
  clear hts HS0
  go_wp2_with fail
  refine (toClerkS_any ao N c S _ n1 HS.out (HX.out.below HB)).mono ?_
  rintro e w2 ⟨g8, C8, rfl, hin8, hb⟩
  replace HB := after HB hb
  clear hb
  go_wp2_with fail
  refine (specAsk_any (some ⟨g8, 0, none⟩) N N S nm num _ n1 HS.out (hin8.at HS.out) hsz).mono ?_
  rintro e w3 ⟨⟨vw, vr, M, U, RW, a, z, rfl, hWO, hz⟩, hb⟩
  replace HB := after HB hb
  clear hb
  clear hin8
  have HM0 := ask_short hz.out n1 HS.out hsz
  obtain ⟨aw, cw, rfl, _⟩ := own_form hWO.own.row
  obtain ⟨ra, rc, rfl, _⟩ := own_form hWO.ans
  have hW := hWO.own
  have hWr := hWO.ans
  have HWL : Hid (∀ b, ckBlocks (.slice aw M cw) M RW b → b < w3.heap.size) := fun b hb => (hW.blocks b hb).2
  have HWR : Hid (∀ b, (Value.slice ra a.rwn rc).ownBlock = some b → b < w3.heap.size) := fun b hb => (hWr.lt b hb).2
  have HZ3 : Hid (w.heap.size ≤ w3.heap.size) := HB.size
  clear hWO
  have X := heap_alloc_new w3 (.cells #[.int .i64 a.code, .int .i64 a.anam, .int .i64 a.price, .slice ra a.rwn rc] 28)
  have hb : Below w3.heap.size w3 (w3.alloc (.cells #[.int .i64 a.code, .int .i64 a.anam, .int .i64 a.price, .slice ra a.rwn rc] 28)) := push (Below.refl _ _) _
  replace HB := after HB hb
  replace hW := hW.below hb
  replace hWr := own_below hb hWr
  clear hb
  go_upto_region 8 with fail
  generalize w3.alloc (.cells #[.int .i64 a.code, .int .i64 a.anam, .int .i64 a.price, .slice ra a.rwn rc] 28) = w4 at X HB hW hWr ⊢
  obtain ⟨wB, hwB⟩ : ∃ u, u = w3.heap.size := ⟨_, rfl⟩
  rw [← hwB] at X ⊢
  have HwB : Hid (wB = w3.heap.size ∧ wB < w4.heap.size) := ⟨hwB, blk_lt X⟩
  clear hwB
  go_wp2_with fail
  refine (toClerkS_any ao N c S _ n1 HS.out (HX.out.below HB)).mono ?_
  rintro e w5 ⟨gx, CX, rfl, hX, hb⟩
  have HZ5 : Hid (w4.heap.size ≤ w5.heap.size) := hb.size
  replace X := blk_below X hb
  replace hW := hW.below hb
  replace hWr := own_below hb hWr
  replace HB := after HB hb
  clear hb
  go_wp2_with fail
  refine (implAskC_any (some ⟨gx, 0, none⟩) N N S nm num _ n1 HS.out (hX.at HS.out) hsz).mono ?_
  rintro e w6 ⟨⟨vg, vgr, M', U', RG, a', z', rfl, hGO, hz'⟩, hb⟩
  obtain ⟨rfl, rfl, rfl, hU⟩ := AskIs.one hz.out hz'.out
  have HM : Hid (M' ≤ 1048577 ∧ M' ≤ 1048576 ∧ ClkDsShort M' U 1048576 ∧ AnsD.Short a' 1048576) := HM0
  have hM := HM.out.2.1
  clear HM0
  have hG := hGO.own.congr hU
  have hGr := hGO.ans
  obtain ⟨ag, cg, rfl, _⟩ := own_form hG.row
  obtain ⟨rg, rgc, rfl, _⟩ := own_form hGr
  have HGL : Hid (∀ b, ckBlocks (.slice ag M' cg) M' RG b → w5.heap.size ≤ b ∧ b < w6.heap.size) := hG.blocks
  have HGR : Hid (∀ b, (Value.slice rg a'.rwn rgc).ownBlock = some b → w5.heap.size ≤ b ∧ b < w6.heap.size) := fun b hb => hGr.lt b hb
  have HFAR : Hid (∀ b, ckBlocks (.slice ag M' cg) M' RG b → (Value.slice rg a'.rwn rgc).ownBlock ≠ some b) := by
    rintro b (h1 | ⟨i, hi, h1⟩) h2
    · exact own_apart hG.row hGr (by decide) b h1 h2
    · exact hGO.far i hi b h1 h2
  have HZ56 : Hid (w5.heap.size ≤ w6.heap.size) := hb.size
  clear hGO hU
  replace X := blk_below X hb
  replace hW := hW.below hb
  replace hWr := own_below hb hWr
  replace hX := hX.below hb
  replace HB := after HB hb
  clear hb
  have G := heap_alloc_new w6 (.cells #[.int .i64 a'.code, .int .i64 a'.anam, .int .i64 a'.price, .slice rg a'.rwn rgc] 28)
  have hb : Below w6.heap.size w6 (w6.alloc (.cells #[.int .i64 a'.code, .int .i64 a'.anam, .int .i64 a'.price, .slice rg a'.rwn rgc] 28)) := push (Below.refl _ _) _
  replace X := blk_below X hb
  replace hW := hW.below hb
  replace hWr := own_below hb hWr
  replace hX := hX.below hb
  replace hG := hG.below hb
  replace hGr := own_below hb hGr
  replace HB := after HB hb
  clear hb
  go_upto_region 10 with fail
  generalize w6.alloc (.cells #[.int .i64 a'.code, .int .i64 a'.anam, .int .i64 a'.price, .slice rg a'.rwn rgc] 28) = w7 at X G HB hW hWr hX hG hGr ⊢
  obtain ⟨gB, hgB⟩ : ∃ u, u = w6.heap.size := ⟨_, rfl⟩
  rw [← hgB] at G ⊢
  have HgB : Hid (gB = w6.heap.size ∧ gB < w7.heap.size) := ⟨hgB, blk_lt G⟩
  clear hgB
  have hne : (z' != z') = false := by simp
  go_wp2_with fail
  refine (eqClerkS_same ag aw M' cg cw U _ hM HM.out.2.2.1 hG.at hW.at).mono ?_
  rintro e WW ⟨rfl, hb⟩
  replace X := blk_below X hb
  replace hW := hW.below hb
  replace hWr := own_below hb hWr
  replace hX := hX.below hb
  replace hG := hG.below hb
  replace hGr := own_below hb hGr
  replace G := blk_below G hb
  replace HB := after HB hb
  clear hb
  have q0 := blk_cell G 0 _ rfl
  have r0 := blk_cell X 0 _ rfl
  have q1 := blk_cell G 1 _ rfl
  have r1 := blk_cell X 1 _ rfl
  have q2 := blk_cell G 2 _ rfl
  have r2 := blk_cell X 2 _ rfl
  have q3 := blk_cell G 3 _ rfl
  have r3 := blk_cell X 3 _ rfl
  go_wp2_with fail
  clear q0 q1 q2 q3 r0 r1 r2 r3
  refine (eqAnswer_raw a'.code a'.anam a'.price rg a'.rwn rgc a'.rw ra rc _ HM.out.2.2.2.1 (rows_of_own hGr) (rows_of_own hWr)).mono ?_
  rintro e WV ⟨rfl, hb⟩
  replace X := blk_below X hb
  replace hW := hW.below hb
  replace hWr := own_below hb hWr
  replace hX := hX.below hb
  replace hG := hG.below hb
  replace hGr := own_below hb hGr
  replace G := blk_below G hb
  replace HB := after HB hb
  clear hb
  go_wp2_with fail
  refine (toClerkS_any ao N c S _ n1 HS.out (HX.out.below HB)).mono ?_
  rintro e w9 ⟨g9, C9, rfl, hl9, hb⟩
  replace X := blk_below X hb
  replace hW := hW.below hb
  replace hWr := own_below hb hWr
  replace hX := hX.below hb
  replace hG := hG.below hb
  replace hGr := own_below hb hGr
  replace G := blk_below G hb
  replace HB := after HB hb
  clear hb
  go_wp2_with fail
  refine (eqClerkS_same _ _ N N N S _ n1 HS.out (hX.at HS.out) (hl9.at HS.out)).mono ?_
  rintro e wC ⟨rfl, hb⟩
  replace X := blk_below X hb
  replace hW := hW.below hb
  replace hWr := own_below hb hWr
  replace hX := hX.below hb
  replace hG := hG.below hb
  replace hGr := own_below hb hGr
  replace G := blk_below G hb
  replace HB := after HB hb
  clear hb
  clear hl9
  go_wp2_with fail
  refine (markClerkS_own gx N _ _ 1 S CX _ n1 (by omega) HS.out hX).mono ?_
  rintro e wD ⟨⟨kk, hkk, rfl⟩, hk⟩
  have hwx : Kept wC wD (fun b => w4.heap.size ≤ b ∧ b < w5.heap.size) := hk
  clear hk hX
  replace X := hwx.blk X (fun e => by have := HwB.out; have e := e.1; omega)
  replace G := hwx.blk G (fun e => by have := HgB.out; have := HZ56.out; have e := e.2; omega)
  replace HB := Kept.below HB HB.size hwx (fun b e => by have := HZ3.out; have := HwB.out; have e := e.1; omega)
  replace hW := hW.keep hwx (fun b hb e => by have := HWL.out b hb; have := HwB.out; have e := e.1; omega)
  replace hWr := hwx.own hWr (fun b hb e => by have := HWR.out b hb; have := HwB.out; have e := e.1; omega)
  replace hG := hG.keep hwx (fun b hb e => by have := HGL.out b hb; have e := e.2; omega)
  replace hGr := hwx.own hGr (fun b hb e => by have := HGR.out b hb; have e := e.2; omega)
  clear hwx
  have e0 : decide ((kk : Int) < 0) = false := by simp
  go_wp2_with fail
  refine (eqClerkS_same ag aw M' cg cw U _ hM HM.out.2.2.1 hG.at hW.at).mono ?_
  rintro e WW ⟨rfl, hb⟩
  replace X := blk_below X hb
  replace hW := hW.below hb
  replace hWr := own_below hb hWr
  replace hG := hG.below hb
  replace hGr := own_below hb hGr
  replace G := blk_below G hb
  replace HB := after HB hb
  clear hb
  have q0 := blk_cell G 0 _ rfl
  have r0 := blk_cell X 0 _ rfl
  have q1 := blk_cell G 1 _ rfl
  have r1 := blk_cell X 1 _ rfl
  have q2 := blk_cell G 2 _ rfl
  have r2 := blk_cell X 2 _ rfl
  have q3 := blk_cell G 3 _ rfl
  have r3 := blk_cell X 3 _ rfl
  go_wp2_with fail
  clear q0 q1 q2 q3 r0 r1 r2 r3
  refine (eqAnswer_raw a'.code a'.anam a'.price rg a'.rwn rgc a'.rw ra rc _ HM.out.2.2.2.1 (rows_of_own hGr) (rows_of_own hWr)).mono ?_
  rintro e WV ⟨rfl, hb⟩
  replace X := blk_below X hb
  replace hW := hW.below hb
  replace hWr := own_below hb hWr
  replace hG := hG.below hb
  replace hGr := own_below hb hGr
  replace G := blk_below G hb
  replace HB := after HB hb
  clear hb
  have HRN : Hid (∀ i, i < M' → (U i).rwn ≤ 2097152) := fun i hi => by have := (HM.out.2.2.1 i hi).2.1; omega
  have hrn := HM.out.2.2.2.1
  go_wp2_with fail
  refine (markClerkS_fine ag M' cg w5.heap.size 1 U RG _ (by omega) (by omega) HRN.out hG).mono ?_
  rintro e wG ⟨rfl, hGm, hwx⟩
  replace X := hwx.blk X (fun e => by have := (HGL.out _ e); have := HwB.out; have := HZ5.out; omega)
  replace G := hwx.blk G (fun e => by have := (HGL.out _ e); have := HgB.out; omega)
  replace HB := Kept.below HB HB.size hwx (fun b e => by have := (HGL.out _ e); have := HZ3.out; have := HwB.out; have := HZ5.out; omega)
  replace hW := hW.keep hwx (fun b hb e => by have := HWL.out b hb; have := (HGL.out _ e); have := HwB.out; have := HZ5.out; omega)
  replace hWr := hwx.own hWr (fun b hb e => by have := HWR.out b hb; have := (HGL.out _ e); have := HwB.out; have := HZ5.out; omega)
  replace hGr := hwx.own hGr (fun b hb e => HFAR.out b e hb)
  clear hwx hG
  obtain ⟨mm, hmm⟩ : ∃ mm : Nat, mm = ckPos U 1 M' := ⟨_, rfl⟩
  have HMM : Hid (ckPos U 1 M' = mm) := hmm.symm
  have hmb : mm ≤ 20000000000000 := by
    have h1 := ckPos_le U 1 M' HRN.out M' (Nat.le_refl _)
    rw [← hmm] at h1
    omega
  have e1 : decide ((mm : Int) < 0) = false := by simp
  have e3 : decide ((mm : Int) + 5 * (a'.rwn : Int) < 0) = false := by simp; omega
  have e4 : ((mm : Int) + 5 * (a'.rwn : Int) != (mm : Int) + 5 * (a'.rwn : Int)) = false := by simp
  rw [HMM.out]
  clear hmm
  have q0 := blk_cell G 0 _ rfl
  have q1 := blk_cell G 1 _ rfl
  have q2 := blk_cell G 2 _ rfl
  have q3 := blk_cell G 3 _ rfl
  go_wp2_with fail
  clear q0 q1 q2 q3
  refine (markAnswer_own _ _ _ rg a'.rwn rgc w5.heap.size (mm : Int) a'.rw _ (by omega) (by omega) (by omega) hGr).mono ?_
  rintro e wH ⟨rfl, hGs, hwx⟩
  rw [show ((mm : Int)).toNat = mm by omega] at hGs
  replace X := hwx.blk X (fun e => by have := (HGR.out _ e); have := HwB.out; have := HZ5.out; omega)
  replace G := hwx.blk G (fun e => by have := (HGR.out _ e); have := HgB.out; omega)
  replace HB := Kept.below HB HB.size hwx (fun b e => by have := (HGR.out _ e); have := HZ3.out; have := HwB.out; have := HZ5.out; omega)
  replace hW := hW.keep hwx (fun b hb e => by have := HWL.out b hb; have := (HGR.out _ e); have := HwB.out; have := HZ5.out; omega)
  replace hWr := hwx.own hWr (fun b hb e => by have := HWR.out b hb; have := (HGR.out _ e); have := HwB.out; have := HZ5.out; omega)
  replace hGm := hGm.keep hwx (fun b hb e => HFAR.out b hb e)
  clear hwx hGr
  go_wp2_with fail
  refine (heldClerkS_yes ag M' cg 1 U _ (by omega) (by omega) HRN.out hGm.at).mono ?_
  rintro e wI ⟨he, hb⟩
  rw [HMM.out] at he
  subst he
  replace X := blk_below X hb
  replace G := blk_below G hb
  replace hW := hW.below hb
  replace hWr := own_below hb hWr
  replace hGm := hGm.below hb
  replace hGs := own_below hb hGs
  replace HB := after HB hb
  clear hb
  have q0 := blk_cell G 0 _ rfl
  have q1 := blk_cell G 1 _ rfl
  have q2 := blk_cell G 2 _ rfl
  have q3 := blk_cell G 3 _ rfl
  go_wp2_with fail
  clear q0 q1 q2 q3
  refine (heldAnswer_yes _ _ _ rg a'.rwn rgc mm _ (by omega) (by omega) (rows_of_own hGs)).mono ?_
  rintro e wJ ⟨rfl, hb⟩
  replace X := blk_below X hb
  replace G := blk_below G hb
  replace hW := hW.below hb
  replace hWr := own_below hb hWr
  replace hGm := hGm.below hb
  replace hGs := own_below hb hGs
  replace HB := after HB hb
  clear hb
  go_wp2_with fail
  refine (toClerkS_any ao N c S _ n1 HS.out (HX.out.below HB)).mono ?_
  rintro e wK ⟨gk, CK, rfl, hK9, hb⟩
  replace X := blk_below X hb
  replace G := blk_below G hb
  replace hW := hW.below hb
  replace hWr := own_below hb hWr
  replace hGm := hGm.below hb
  replace hGs := own_below hb hGs
  replace HB := after HB hb
  clear hb
  go_wp2_with fail
  refine (implAskC_any (some ⟨gk, 0, none⟩) N N S nm num _ n1 HS.out (hK9.at HS.out) hsz).mono ?_
  rintro e wL ⟨⟨vk, vkr, M2, U2, RK, a2, z2, rfl, hKO, hz2⟩, hb⟩
  clear hK9
  obtain ⟨e5, e6, e7, hU⟩ := AskIs.one hz.out hz2.out
  have e5 := e5.symm
  have e6 := e6.symm
  have e7 := e7.symm
  subst e5 e6 e7
  have hK := hKO.own.congr hU
  have hKr := hKO.ans
  obtain ⟨ak, ck, rfl, _⟩ := own_form hK.row
  obtain ⟨rk, rkc, rfl, _⟩ := own_form hKr
  clear hKO hU
  replace X := blk_below X hb
  replace G := blk_below G hb
  replace hW := hW.below hb
  replace hWr := own_below hb hWr
  replace hGm := hGm.below hb
  replace hGs := own_below hb hGs
  replace HB := after HB hb
  clear hb
  have KX := heap_alloc_new wL (.cells #[.int .i64 a'.code, .int .i64 a'.anam, .int .i64 a'.price, .slice rk a'.rwn rkc] 28)
  have hb : Below wL.heap.size wL (wL.alloc (.cells #[.int .i64 a'.code, .int .i64 a'.anam, .int .i64 a'.price, .slice rk a'.rwn rkc] 28)) := push (Below.refl _ _) _
  replace X := blk_below X hb
  replace G := blk_below G hb
  replace hW := hW.below hb
  replace hWr := own_below hb hWr
  replace hGm := hGm.below hb
  replace hGs := own_below hb hGs
  replace hK := hK.below hb
  replace hKr := own_below hb hKr
  replace HB := after HB hb
  clear hb
  go_upto_region 31 with fail
  generalize wL.alloc (.cells #[.int .i64 a'.code, .int .i64 a'.anam, .int .i64 a'.price, .slice rk a'.rwn rkc] 28) = wM at X G KX HB hW hWr hGm hGs hK hKr ⊢
  obtain ⟨kB, hkB⟩ : ∃ u, u = wL.heap.size := ⟨_, rfl⟩
  rw [← hkB] at KX ⊢
  clear hkB
  go_wp2_with fail
  refine (eqClerkS_same ak aw M' ck cw U _ hM HM.out.2.2.1 hK.at hW.at).mono ?_
  rintro e WW ⟨rfl, hb⟩
  replace X := blk_below X hb
  replace G := blk_below G hb
  replace hW := hW.below hb
  replace hWr := own_below hb hWr
  replace hGm := hGm.below hb
  replace hGs := own_below hb hGs
  replace hK := hK.below hb
  replace hKr := own_below hb hKr
  replace KX := blk_below KX hb
  replace HB := after HB hb
  clear hb
  have q0 := blk_cell KX 0 _ rfl
  have r0 := blk_cell X 0 _ rfl
  have q1 := blk_cell KX 1 _ rfl
  have r1 := blk_cell X 1 _ rfl
  have q2 := blk_cell KX 2 _ rfl
  have r2 := blk_cell X 2 _ rfl
  have q3 := blk_cell KX 3 _ rfl
  have r3 := blk_cell X 3 _ rfl
  go_wp2_with fail
  clear q0 q1 q2 q3 r0 r1 r2 r3
  refine (eqAnswer_raw a'.code a'.anam a'.price rk a'.rwn rkc a'.rw ra rc _ HM.out.2.2.2.1 (rows_of_own hKr) (rows_of_own hWr)).mono ?_
  rintro e WV ⟨rfl, hb⟩
  replace X := blk_below X hb
  replace G := blk_below G hb
  replace hW := hW.below hb
  replace hWr := own_below hb hWr
  replace hGm := hGm.below hb
  replace hGs := own_below hb hGs
  replace hK := hK.below hb
  replace hKr := own_below hb hKr
  replace KX := blk_below KX hb
  replace HB := after HB hb
  clear hb
  clear hW hWr X hK hKr KX
  go_wp2_with fail
  refine (heldClerkS_yes ag M' cg 1 U _ (by omega) (by omega) HRN.out hGm.at).mono ?_
  rintro e wI ⟨he, hb⟩
  rw [HMM.out] at he
  subst he
  replace G := blk_below G hb
  replace hGm := hGm.below hb
  replace hGs := own_below hb hGs
  replace HB := after HB hb
  clear hb
  have q0 := blk_cell G 0 _ rfl
  have q1 := blk_cell G 1 _ rfl
  have q2 := blk_cell G 2 _ rfl
  have q3 := blk_cell G 3 _ rfl
  go_wp2_with fail
  clear q0 q1 q2 q3
  refine (heldAnswer_yes _ _ _ rg a'.rwn rgc mm _ (by omega) (by omega) (rows_of_own hGs)).mono ?_
  rintro e wJ ⟨rfl, hb⟩
  replace G := blk_below G hb
  replace hGm := hGm.below hb
  replace hGs := own_below hb hGs
  replace HB := after HB hb
  clear hb
  go_wp2
  go_ret
  exact ⟨rfl, HB⟩

end Go.Proofs.Ytogbaoggebghdaa

namespace Go.Proofs.Ytogbaoggebghdaa
open Go.ChangeShapes Go.WideShapes Go.ChangeAt Go.RowKit Go.Deep

section
variable {H : Type} {enc : TypeId × Value → H} {P : Program} {w : World} {base : Nat} {spare : Nat → Bool} {held : Bool}

/-- How a list's datum tells its length. -/
def LenIs (d : DataW H) (n : Nat) : Prop := (d = .nil ∧ n = 0) ∨ ∃ els rest, d = .slice els rest ∧ els.length = n

theorem view_ints {t e fuel : Nat} {v : Value} {x : DataW H × List MemPlace} (ht : P.underlying t = some (.slice e)) (he : P.underlying e = some (.int .i64)) (hc : P.cellsOf e = 1)
    (h : DataW.trod enc P w base spare held fuel t [v] = some x) :
    ∃ ao n cap F, v = .slice ao n cap ∧ n ≤ cap ∧ cap ≤ maxLen ∧ (ao = none → n = 0 ∧ cap = 0) ∧ IntsAt w ao n F ∧ LenIs x.1 n := by
  rcases open_ints ht he hc h with ⟨hcs, hx⟩ | ⟨a, n, cap, zs, hcs, _, hl, hm, hz, hx, hcell, _⟩
  · simp at hcs
    subst hcs
    refine ⟨none, 0, 0, fun _ => 0, rfl, Nat.le_refl _, Nat.zero_le _, fun _ => ⟨rfl, rfl⟩, fun k hk => by omega, .inl ⟨by rw [hx], rfl⟩⟩
  · simp at hcs
    subst hcs
    have hzl : n ≤ zs.length := by rw [hz]; split <;> omega
    refine ⟨some a, n, cap, fun k => zs.getD k 0, rfl, hl, hm, (fun h => by cases h), (fun k hk => ?_), .inr ⟨_, _, by rw [hx], by simp [lits]; omega⟩⟩
    obtain ⟨b, off, rfl, hc2⟩ := ints_at hcell (by omega)
    exact ⟨b, off, rfl, hc2 k (by omega)⟩

theorem view_slots {t e fuel ti tb : Nat} {f0 f1 f2 : Field} {v : Value} {x : DataW H × List MemPlace} (ht : P.underlying t = some (.slice e)) (he : P.underlying e = some (.struct #[f0, f1, f2])) (hc : P.cellsOf e = 3)
    (t0 : f0.type = ti) (t1 : f1.type = tb) (t2 : f2.type = ti) (o0 : f0.offset = 0) (o1 : f1.offset = 1) (o2 : f2.offset = 2)
    (hi : P.underlying ti = some (.int .i64)) (hb : P.underlying tb = some .bool) (ci : P.cellsOf ti = 1) (cb : P.cellsOf tb = 1)
    (h : DataW.trod enc P w base spare held fuel t [v] = some x) :
    ∃ ao n cap A U V, v = .slice ao n cap ∧ n ≤ cap ∧ cap ≤ maxLen ∧ (ao = none → n = 0 ∧ cap = 0) ∧ SlotsAt w ao n A U V ∧ LenIs x.1 n := by
  rcases open_slice ht h with ⟨hcs, hx⟩ | ⟨a, n, cap, m, fl, D, Pl, hcs, _, hl, hm, hmm, hx, hcell⟩
  · simp at hcs
    subst hcs
    refine ⟨none, 0, 0, fun _ => 0, fun _ => false, fun _ => 0, rfl, Nat.le_refl _, Nat.zero_le _, fun _ => ⟨rfl, rfl⟩, fun k hk => by omega, .inl ⟨by rw [hx], rfl⟩⟩
  · simp at hcs
    subst hcs
    have hnm : n ≤ m := by rw [hmm]; split <;> omega
    by_cases hn0 : n = 0
    · subst hn0
      exact ⟨some a, 0, cap, fun _ => 0, fun _ => false, fun _ => 0, rfl, hl, hm, (fun h => by cases h), (fun k hk => by omega), .inr ⟨_, _, by rw [hx], by simp⟩⟩
    have hspot : a.spot = none := by
      obtain ⟨cs, hcl, _⟩ := hcell 0 (by omega)
      rw [hc] at hcl
      obtain ⟨_, hlen, hget⟩ := World.cells?_some hcl
      have g0 := hget 0 (by omega)
      rw [List.getElem?_eq_getElem (by omega)] at g0
      have := World.cell?_spot g0
      simpa [Addr.add] using this
    obtain ⟨b, off, spot⟩ := a
    simp only at hspot
    subst hspot
    have key : ∀ k, k < n → ∃ (y : Int × Bool × Int), w.cell? ⟨b, off + k * 3, none⟩ = some (.int .i64 y.1) ∧ w.cell? ⟨b, off + k * 3 + 1, none⟩ = some (.bool y.2.1) ∧ w.cell? ⟨b, off + k * 3 + 2, none⟩ = some (.int .i64 y.2.2) := by
      intro k hk
      obtain ⟨cs, hcl, htr⟩ := hcell k (by omega)
      rw [hc] at hcl
      obtain ⟨_, hlen, hget⟩ := World.cells?_some hcl
      obtain ⟨y0, y1, y2, n', _, _, h0, h1, h2⟩ := trod_struct3 he htr
      rw [t0, o0, ci] at h0
      rw [t1, o1, cb] at h1
      rw [t2, o2, ci] at h2
      match cs, hlen with
      | [p, q, r], _ =>
        obtain ⟨i0, e0, _, _⟩ := DataW.trod_int hi h0
        obtain ⟨i1, e1, _⟩ := DataW.trod_bool hb h1
        obtain ⟨i2, e2, _, _⟩ := DataW.trod_int hi h2
        simp at e0 e1 e2
        subst e0 e1 e2
        have g0 := hget 0 (by omega)
        have g1 := hget 1 (by omega)
        have g2 := hget 2 (by omega)
        simp only [List.getElem?_cons_zero, List.getElem?_cons_succ, Addr.add_lit, Nat.add_zero] at g0 g1 g2
        exact ⟨(i0, i1, i2), g0, g1, g2⟩
    obtain ⟨f, hf⟩ := choose_lt key
    exact ⟨some ⟨b, off, none⟩, n, cap, fun k => (f k).1, fun k => (f k).2.1, fun k => (f k).2.2, rfl, hl, hm, (fun h => by cases h), (fun k hk => ⟨b, off, rfl, hf k hk⟩), .inr ⟨_, _, by rw [hx], by simp⟩⟩

/-- The reach of a list: so many elements at most. -/
theorem len_reach {t e n : Nat} {d : DataW H} {bytes : Nat} (ht : P.underlying t = some (.slice e)) (hb : P.bytesOf e = bytes) (hd : LenIs d n) (hw : ∀ x ∈ DataW.weights P t d, x ≤ reachBytes) : n * bytes ≤ reachBytes := by
  rcases hd with ⟨_, rfl⟩ | ⟨els, rest, rfl, rfl⟩
  · omega
  · have := hw ((els.length + rest.length) * P.bytesOf e) (by simp [DataW.weights, ht])
    rw [hb] at this
    exact Nat.le_trans (Nat.mul_le_mul_right _ (Nat.le_add_right _ _)) this

end
end Go.Proofs.Ytogbaoggebghdaa

namespace Go.Proofs.Ytogbaoggebghdaa
open Go.ChangeShapes Go.WideShapes Go.ChangeAt Go.RowKit Go.Deep Go.Joins

section
variable {H : Type} {enc : TypeId × Value → H} {P : Program} {w : World} {base : Nat} {spare : Nat → Bool} {held : Bool}

theorem view_pairs {t e fuel ti bytes : Nat} {f0 f1 : Field} {v : Value} {x : DataW H × List MemPlace} (ht : P.underlying t = some (.slice e)) (he : P.underlying e = some (.struct #[f0, f1])) (hc : P.cellsOf e = 2)
    (t0 : f0.type = ti) (t1 : f1.type = ti) (o0 : f0.offset = 0) (o1 : f1.offset = 1)
    (hi : P.underlying ti = some (.int .i64)) (ci : P.cellsOf ti = 1) (hby : P.bytesOf e = bytes)
    (h : DataW.trod enc P w base (fun _ => true) held fuel t [v] = some x) (hw : ∀ y ∈ DataW.weights P t x.1, y ≤ reachBytes) :
    ∃ ao cap l, v = .slice ao l.n cap ∧ PairsAt w ao l ∧ l.n ≤ cap ∧ (ao = none → l.n = 0 ∧ cap = 0) ∧ cap * bytes ≤ reachBytes := by
  rcases open_slice ht h with ⟨hcs, hx⟩ | ⟨a, n, cap, m, fl, D, Pl, hcs, _, hl, hm, hmm, hx, hcell⟩
  · simp at hcs
    subst hcs
    exact ⟨none, 0, ⟨0, fun _ => 0, fun _ => 0⟩, rfl, fun k hk => absurd hk (Nat.not_lt_zero _), Nat.le_refl _, fun _ => ⟨rfl, rfl⟩, by omega⟩
  · simp at hcs
    subst hcs
    rw [if_pos rfl] at hmm
    subst hmm
    have hcap : m * bytes ≤ reachBytes := by
      have := hw ((n + (m - n)) * P.bytesOf e) (by rw [hx]; simp [DataW.weights, ht])
      rw [hby, show n + (m - n) = m by omega] at this
      exact this
    by_cases hn0 : n = 0
    · subst hn0
      exact ⟨some a, m, ⟨0, fun _ => 0, fun _ => 0⟩, rfl, fun k hk => absurd hk (Nat.not_lt_zero _), hl, (fun h => by cases h), hcap⟩
    have hspot : a.spot = none := by
      obtain ⟨cs, hcl, _⟩ := hcell 0 (by omega)
      rw [hc] at hcl
      obtain ⟨_, hlen, hget⟩ := World.cells?_some hcl
      have g0 := hget 0 (by omega)
      rw [List.getElem?_eq_getElem (by omega)] at g0
      have := World.cell?_spot g0
      simpa [Addr.add] using this
    obtain ⟨b, off, spot⟩ := a
    simp only at hspot
    subst hspot
    have key : ∀ k, k < n → ∃ (y : Int × Int), w.cell? ⟨b, off + k * 2, none⟩ = some (.int .i64 y.1) ∧ w.cell? ⟨b, off + k * 2 + 1, none⟩ = some (.int .i64 y.2) := by
      intro k hk
      obtain ⟨cs, hcl, htr⟩ := hcell k (by omega)
      rw [hc] at hcl
      obtain ⟨_, hlen, hget⟩ := World.cells?_some hcl
      obtain ⟨y0, y1, n', _, _, h0, h1⟩ := trod_struct2 he htr
      rw [t0, o0, ci] at h0
      rw [t1, o1, ci] at h1
      match cs, hlen with
      | [p, q], _ =>
        obtain ⟨i0, e0, _, _⟩ := DataW.trod_int hi h0
        obtain ⟨i1, e1, _, _⟩ := DataW.trod_int hi h1
        simp at e0 e1
        subst e0 e1
        have g0 := hget 0 (by omega)
        have g1 := hget 1 (by omega)
        simp only [List.getElem?_cons_zero, List.getElem?_cons_succ, Addr.add_lit, Nat.add_zero] at g0 g1
        exact ⟨(i0, i1), g0, g1⟩
    obtain ⟨f, hf⟩ := choose_lt key
    exact ⟨some ⟨b, off, none⟩, m, ⟨n, fun k => (f k).1, fun k => (f k).2⟩, rfl, fun k hk => ⟨b, off, rfl, hf k hk⟩, hl, (fun h => by cases h), hcap⟩
end

theorem Try.own : ownKnob Try.prog.godebug = none := by kernel_rfl
theorem Try.laidOut : laidOutB Try.prog = true := by kernel_rfl
theorem Try.cellsInt : Try.prog.cellsOf 3 = 1 := by kernel_rfl
theorem Try.cellsBool : Try.prog.cellsOf 4 = 1 := by kernel_rfl
theorem okWide_slice_is {P : Program} {t e : Nat} {w : World} {r : Reach} {base : Nat} {v : Value} (ht : P.underlying t = some (.slice e)) (h : Value.okWide P w r base t v) : v.cells.toList = [v] := by
  simp only [Value.okWide, ht, Cell.okWide] at h
  cases v <;> simp_all [Cell.ok, Value.cells]

end Go.Proofs.Ytogbaoggebghdaa
