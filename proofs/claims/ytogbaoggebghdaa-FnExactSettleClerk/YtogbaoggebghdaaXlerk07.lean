/-
  OWN TEXT: LawSettle, Views.
-/
import Derived.ProofKit
import Derived.OpenShut
import Derived.ChangeOld
import Derived.SizedLaws
import Derived.Deep.Slices
import Derived.Deep.Strs
import Derived.Lib.SmallJoins
import Derived.Test.YtogbaoggebghdaaB23
import Derived.Test.YtogbaoggebghdaaXlerk02
import Derived.Test.YtogbaoggebghdaaB12
import Derived.Test.YtogbaoggebghdaaXlerk04
import Derived.Test.YtogbaoggebghdaaXlerk06
import Derived.Test.YtogbaoggebghdaaB00
namespace Go.Proofs.Ytogbaoggebghdaa
open Go.RowKit

set_option maxHeartbeats 12800000 in
set_option maxRecDepth 100000 in
theorem lawSettleClerk (ao : Option Addr) (N c : Nat) (S : Nat → ClkD) (nm : ByteArray) (cs : List Value) (x : AnsD) (w : World) (hN : N ≤ 1000000000000000) (hs : ClkDsShort N S 1000000000000000) (hx : ClkDsAt w ao N S) (hnm : nm.size ≤ 1000000000000000) (ht : AnsD.Short x 1000000000000000) (hi : AnsD.Is w cs x) :
    Calls Try.prog 6 #[.slice ao N c, .string nm, .agg cs.toArray] w fun e w' => e = .returned (.bool true) ∧ Below w.heap.size w w' := by
  have HX : Hid (ClkDsAt w ao N S) := hx
  have HS0 : Hid (ClkDsShort N S 1000000000000000) := hs
  have HT0 : Hid (AnsD.Short x 1000000000000000) := ht
  have HI : Hid (AnsD.Is w cs x) := hi
  obtain ⟨arw, crw, rfl, hrw, srw⟩ := hi
  have HR : Hid (MRowsAt w arw x.rwn x.rw) := hrw
  clear hx hs ht hrw srw
  have HB : Below w.heap.size w (w.alloc (.cells #[.int .i64 x.code, .int .i64 x.anam, .int .i64 x.price, .slice arw x.rwn crw] 49)) := push (Below.refl _ _) _
  have A := heap_alloc_new w (.cells #[.int .i64 x.code, .int .i64 x.anam, .int .i64 x.price, .slice arw x.rwn crw] 49)
  go_enter Try.func6, Try.ntmps6
  by_cases hsz : nm.size ≤ 1048576
  case neg =>
    have hd : decide ((1048576 : Int) < (nm.size : Int)) = true := by simp; omega
    go_wp2
    go_ret
    exact ⟨rfl, HB⟩
  have hd : decide ((1048576 : Int) < (nm.size : Int)) = false := by simp; omega
  go_wp2_with fail
  generalize w.alloc (.cells #[.int .i64 x.code, .int .i64 x.anam, .int .i64 x.price, .slice arw x.rwn crw] 49) = wA at HB A ⊢
  obtain ⟨aB, haB⟩ : ∃ u, u = w.heap.size := ⟨_, rfl⟩
  rw [← haB] at A ⊢
  have HaB : Hid (aB = w.heap.size) := haB
  clear haB
  replace HB : Below w.heap.size w wA := HB
  refine (szClerkS_any ao N c S 1048576 _ (by omega) (by omega) hN HS0.out (HX.out.below HB)).mono ?_
  rintro e w1 ⟨r, rfl, hr, hb⟩
  replace A := blk_below A hb
  replace HB := after HB hb
  clear hb
  rcases hr with rfl | ⟨r0, rl, n1, hts⟩
  · go_wp2
    go_ret
    exact ⟨rfl, HB⟩
  have d0 : decide (r < 0) = false := by simpa using r0
  have HS : Hid (ClkDsShort N S 1048576) := hts
  clear hts HS0
  have q0 := blk_cell A 0 _ rfl
  have q1 := blk_cell A 1 _ rfl
  have q2 := blk_cell A 2 _ rfl
  have q3 := blk_cell A 3 _ rfl
  go_wp2_with fail
  clear q0 q1 q2 q3
  refine (szAnswer_any [.int .i64 x.code, .int .i64 x.anam, .int .i64 x.price, .slice arw x.rwn crw] x r _ r0 rl HT0.out (HI.out.below HB)).mono ?_
  rintro e w2 ⟨s, rfl, hr, hb⟩
  replace A := blk_below A hb
  replace HB := after HB hb
  clear hb
  rcases hr with rfl | ⟨s0, _, htt⟩
  · go_wp2
    go_ret
    exact ⟨rfl, HB⟩
  have d1 : decide (s < 0) = false := by simpa using s0
  have HT : Hid (AnsD.Short x 1048576) := htt
  clear htt HT0
  have HaL : Hid (aB < w2.heap.size) := blk_lt A
  go_upto_region 10 with fail
  have KS : Hid (∀ w', Below w2.heap.size w2 w' → (w'.cell? ⟨aB, 0, none⟩ = some (.int .i64 x.code) ∧ w'.cell? ⟨aB, 1, none⟩ = some (.int .i64 x.anam) ∧ w'.cell? ⟨aB, 2, none⟩ = some (.int .i64 x.price) ∧ w'.cell? ⟨aB, 3, none⟩ = some (.slice arw x.rwn crw))) := fun w' h => by
    have g1 := blk_below A h
    exact ⟨blk_cell g1 0 _ rfl, blk_cell g1 1 _ rfl, blk_cell g1 2 _ rfl, blk_cell g1 3 _ rfl⟩
  have BW : Hid (∀ w', Below w2.heap.size w2 w' → Below w.heap.size w w') := fun w' h => after HB h
  have HO1 : Hid (∀ w', Below w2.heap.size w2 w' → Calls Try.prog 16 #[.slice ao N c] w' fun e w2 => ∃ g C, e = .returned (.slice (some ⟨g, 0, none⟩) N N) ∧ ClkDsTo w2 N w'.heap.size w2.heap.size g N S C ∧ Below w'.heap.size w' w2) := fun w' h => toClerkS_any ao N c S w' n1 HS.out (HX.out.below (BW.out _ h))
  have HO2 : Hid (∀ w', Below w2.heap.size w2 w' → Calls Try.prog 26 #[.agg #[.int .i64 x.code, .int .i64 x.anam, .int .i64 x.price, .slice arw x.rwn crw]] w' fun e w2 => ∃ lrw, e = .returned (.agg #[.int .i64 x.code, .int .i64 x.anam, .int .i64 x.price, .slice (some ⟨lrw, 0, none⟩) x.rwn x.rwn]) ∧ (w'.heap.size ≤ lrw ∧ lrw < w2.heap.size ∧ w2.rowIs lrw 84 (x.rwn * 5) (rowCell x.rw)) ∧ Below w'.heap.size w' w2) := fun w' h => toAnswer_raw _ _ _ arw x.rwn crw x.rw w' HT.out.1 (HR.out.below (BW.out _ h))
  go_cut [8, 9] (fun p b wx => ∃ Zq N' S' R z, Zq = wx ∧ b = .int .i64 z ∧ OwnClks Zq w2.heap.size p N' S' R ∧ Hid (SettleIs N S nm x N' S' z) ∧ Below w2.heap.size w2 Zq)
  case first =>
    go_region_held3 (fun w' => (w'.cell? ⟨aB, 0, none⟩ = some (.int .i64 x.code) ∧ w'.cell? ⟨aB, 1, none⟩ = some (.int .i64 x.anam) ∧ w'.cell? ⟨aB, 2, none⟩ = some (.int .i64 x.price) ∧ w'.cell? ⟨aB, 3, none⟩ = some (.slice arw x.rwn crw)))
      ((refine KS.out _ ?_; exact (by repeat (first | exact Below.refl _ _ | refine Below.drew ?_ | refine after ?_ hb10 | refine after ?_ hb9 | refine after ?_ hb8))))
      (first | (go_at_call 16; (with_reducible refine Calls.mono (HO1.out _ ?_) ?_); (focus exact (by repeat (first | exact Below.refl _ _ | refine Below.drew ?_ | refine after ?_ hb10 | refine after ?_ hb9 | refine after ?_ hb8))); rintro e w8 ⟨g8, C8, rfl, hin8, hb8⟩) | (go_at_call 26; (with_reducible refine Calls.mono (HO2.out _ ?_) ?_); (focus exact (by repeat (first | exact Below.refl _ _ | refine Below.drew ?_ | refine after ?_ hb10 | refine after ?_ hb9 | refine after ?_ hb8))); rintro e w9 ⟨l9, rfl, ⟨_, _, hr9⟩, hb9⟩) | (go_at_call 25; refine Calls.mono (specSettle_any (some ⟨g8, 0, none⟩) N N S nm x (some ⟨l9, 0, none⟩) x.rwn _ n1 HS.out ?_ HT.out.1 ?_ (fun h => by cases h)) ?_; (focus (first | exact hin8.at HS.out | exact (hin8.below hb9).at HS.out)); (focus (first | exact MRowsAt.of_row hr9 | exact MRowsAt.of_row (row_below hr9 hb8))); rintro e w10 ⟨⟨vv, N', S', R, z, rfl, hO, hz⟩, hb10⟩))
    all_goals
      go_wp2
      go_meet
      exact ⟨_, _, _, _, _, rfl, rfl, hO.lower (show w2.heap.size ≤ _ from (Below.size (by repeat (first | exact Below.refl _ _ | refine Below.drew ?_ | refine after ?_ hb10 | refine after ?_ hb9 | refine after ?_ hb8)))), hz, (by repeat (first | exact Below.refl _ _ | refine Below.drew ?_ | refine after ?_ hb10 | refine after ?_ hb9 | refine after ?_ hb8))⟩
  case rest =>
  obtain ⟨w3, M, U, RW, z, rfl, rfl, hW, hz, hb⟩ := hcut
  clear KS BW HO1 HO2
  have HM : Hid (M ≤ 1048576 ∧ ClkDsShort M U 1048576) := settle_short hz.out n1 HS.out HT.out
  have hM := HM.out.1
  obtain ⟨aw, cw, rfl, _⟩ := own_form hW.row
  have HZ : Hid (w.heap.size ≤ w2.heap.size ∧ w2.heap.size ≤ w3.heap.size) := ⟨HB.size, hb.size⟩
  have HWL : Hid (∀ b, ckBlocks (.slice aw M cw) M RW b → w2.heap.size ≤ b ∧ b < w3.heap.size) := hW.blocks
  replace A := blk_below A hb
  replace HB := after HB hb
  clear hb
  go_wp2_with fail
  refine (toClerkS_any ao N c S _ n1 HS.out (HX.out.below HB)).mono ?_
  rintro e w4 ⟨gx, CX, rfl, hX, hb⟩
  have HZ4 : Hid (w3.heap.size ≤ w4.heap.size) := hb.size
  replace A := blk_below A hb
  replace HB := after HB hb
  replace hW := hW.below hb
  clear hb
  have q0 := blk_cell A 0 _ rfl
  have q1 := blk_cell A 1 _ rfl
  have q2 := blk_cell A 2 _ rfl
  have q3 := blk_cell A 3 _ rfl
  go_wp2_with fail
  clear q0 q1 q2 q3
  refine (toAnswer_raw _ _ _ arw x.rwn crw x.rw _ HT.out.1 (HR.out.below HB)).mono ?_
  rintro e w5 ⟨lx, rfl, ⟨hl1, hl2, hlr⟩, hb⟩
  have HL : Hid (w4.heap.size ≤ lx ∧ lx < w5.heap.size) := ⟨hl1, hl2⟩
  have HZ5 : Hid (w4.heap.size ≤ w5.heap.size) := hb.size
  replace A := blk_below A hb
  replace HB := after HB hb
  replace hW := hW.below hb
  replace hX := hX.below hb
  clear hb hl1 hl2
  have X := heap_alloc_new w5 (.cells #[.int .i64 x.code, .int .i64 x.anam, .int .i64 x.price, .slice (some ⟨lx, 0, none⟩) x.rwn x.rwn] 28)
  have hb : Below w5.heap.size w5 (w5.alloc (.cells #[.int .i64 x.code, .int .i64 x.anam, .int .i64 x.price, .slice (some ⟨lx, 0, none⟩) x.rwn x.rwn] 28)) := push (Below.refl _ _) _
  replace A := blk_below A hb
  replace HB := after HB hb
  replace hW := hW.below hb
  replace hX := hX.below hb
  replace hlr := row_below hlr hb
  clear hb
  go_upto_region 13 with fail
  generalize w5.alloc (.cells #[.int .i64 x.code, .int .i64 x.anam, .int .i64 x.price, .slice (some ⟨lx, 0, none⟩) x.rwn x.rwn] 28) = w6 at A HB hW hX hlr X ⊢
  have HZ6 : Hid (w5.heap.size < w6.heap.size) := blk_lt X
  have q0 := blk_cell X 0 _ rfl
  have q1 := blk_cell X 1 _ rfl
  have q2 := blk_cell X 2 _ rfl
  have q3 := blk_cell X 3 _ rfl
  go_wp2_with fail
  clear q0 q1 q2 q3
  refine (implSettle_any (some ⟨gx, 0, none⟩) N N S nm x (some ⟨lx, 0, none⟩) x.rwn _ n1 HS.out (hX.at HS.out) hsz HT.out.1 (MRowsAt.of_row hlr) (fun h => by cases h)).mono ?_
  rintro e w7 ⟨⟨vg, M', U', RG, z', rfl, hG, hz'⟩, hb⟩
  obtain ⟨rfl, rfl, hU⟩ := SettleIs.one hz.out hz'.out
  replace hG := hG.congr hU
  obtain ⟨ag, cg, rfl, _⟩ := own_form hG.row
  have HGL : Hid (∀ b, ckBlocks (.slice ag M' cg) M' RG b → w6.heap.size ≤ b ∧ b < w7.heap.size) := hG.blocks
  replace A := blk_below A hb
  replace X := blk_below X hb
  replace HB := after HB hb
  replace hW := hW.below hb
  replace hX := hX.below hb
  replace hlr := row_below hlr hb
  clear hb hU
  go_wp2_with fail
  refine (eqClerkS_same ag aw M' cg cw U _ hM HM.out.2 hG.at hW.at).mono ?_
  rintro e w8 ⟨rfl, hb⟩
  replace A := blk_below A hb
  replace X := blk_below X hb
  replace HB := after HB hb
  replace hW := hW.below hb
  replace hX := hX.below hb
  replace hG := hG.below hb
  replace hlr := row_below hlr hb
  clear hb
  have hne : (z' != z') = false := by simp
  go_wp2_with fail
  refine (toClerkS_any ao N c S _ n1 HS.out (HX.out.below HB)).mono ?_
  rintro e w9 ⟨g9, C9, rfl, hl9, hb⟩
  replace A := blk_below A hb
  replace X := blk_below X hb
  replace HB := after HB hb
  replace hW := hW.below hb
  replace hX := hX.below hb
  replace hG := hG.below hb
  replace hlr := row_below hlr hb
  clear hb
  go_wp2_with fail
  refine (eqClerkS_same _ _ N N N S _ n1 HS.out (hX.at HS.out) (hl9.at HS.out)).mono ?_
  rintro e wB ⟨rfl, hb⟩
  replace A := blk_below A hb
  replace X := blk_below X hb
  replace HB := after HB hb
  replace hW := hW.below hb
  replace hX := hX.below hb
  replace hG := hG.below hb
  replace hlr := row_below hlr hb
  clear hb hl9
  go_upto_region 18 with fail
  have KS : Hid (∀ w', Below wB.heap.size wB w' → (w'.cell? ⟨aB, 0, none⟩ = some (.int .i64 x.code) ∧ w'.cell? ⟨aB, 1, none⟩ = some (.int .i64 x.anam) ∧ w'.cell? ⟨aB, 2, none⟩ = some (.int .i64 x.price) ∧ w'.cell? ⟨aB, 3, none⟩ = some (.slice arw x.rwn crw)) ∧ (w'.cell? ⟨w5.heap.size, 0, none⟩ = some (.int .i64 x.code) ∧ w'.cell? ⟨w5.heap.size, 1, none⟩ = some (.int .i64 x.anam) ∧ w'.cell? ⟨w5.heap.size, 2, none⟩ = some (.int .i64 x.price) ∧ w'.cell? ⟨w5.heap.size, 3, none⟩ = some (.slice (some ⟨lx, 0, none⟩) x.rwn x.rwn))) := fun w' h => by
    have g1 := blk_below A h
    have g2 := blk_below X h
    exact ⟨⟨blk_cell g1 0 _ rfl, blk_cell g1 1 _ rfl, blk_cell g1 2 _ rfl, blk_cell g1 3 _ rfl⟩, ⟨blk_cell g2 0 _ rfl, blk_cell g2 1 _ rfl, blk_cell g2 2 _ rfl, blk_cell g2 3 _ rfl⟩⟩
  have BW : Hid (∀ w', Below wB.heap.size wB w' → Below w.heap.size w w') := fun w' h => after HB h
  have HIS : Hid (∀ w', Below wB.heap.size wB w' → MRowsAt w' (some ⟨lx, 0, none⟩) x.rwn x.rw) := fun w' h => MRowsAt.of_row (row_below hlr h)
  go_region_held3 (fun w' => (w'.cell? ⟨aB, 0, none⟩ = some (.int .i64 x.code) ∧ w'.cell? ⟨aB, 1, none⟩ = some (.int .i64 x.anam) ∧ w'.cell? ⟨aB, 2, none⟩ = some (.int .i64 x.price) ∧ w'.cell? ⟨aB, 3, none⟩ = some (.slice arw x.rwn crw)) ∧ (w'.cell? ⟨w5.heap.size, 0, none⟩ = some (.int .i64 x.code) ∧ w'.cell? ⟨w5.heap.size, 1, none⟩ = some (.int .i64 x.anam) ∧ w'.cell? ⟨w5.heap.size, 2, none⟩ = some (.int .i64 x.price) ∧ w'.cell? ⟨w5.heap.size, 3, none⟩ = some (.slice (some ⟨lx, 0, none⟩) x.rwn x.rwn)))
    ((refine KS.out _ ?_; exact (by repeat (first | exact Below.refl _ _ | refine Below.drew ?_ | refine after ?_ hb10 | refine after ?_ hb9 | refine after ?_ hb8))))
    (first | (go_at_call 26; refine Calls.mono (toAnswer_raw _ _ _ arw x.rwn crw x.rw _ HT.out.1 (HR.out.below (BW.out _ (by repeat (first | exact Below.refl _ _ | refine Below.drew ?_ | refine after ?_ hb10 | refine after ?_ hb9 | refine after ?_ hb8))))) ?_; rintro e w8' ⟨l8, rfl, ⟨_, _, hr8⟩, hb8⟩) | (go_at_call 19; refine Calls.mono (eqAnswer_raw x.code x.anam x.price (some ⟨lx, 0, none⟩) x.rwn x.rwn x.rw (some ⟨l8, 0, none⟩) x.rwn _ HT.out.1 (HIS.out _ (by repeat (first | exact Below.refl _ _ | refine Below.drew ?_ | refine after ?_ hb10 | refine after ?_ hb9 | refine after ?_ hb8))) (MRowsAt.of_row hr8)) ?_; rintro e wC ⟨rfl, hb9⟩))
  have hb : Below wB.heap.size wB wC := (by repeat (first | exact Below.refl _ _ | refine Below.drew ?_ | refine after ?_ hb10 | refine after ?_ hb9 | refine after ?_ hb8))
  clear hr8 hb8 hb9 KS BW HIS
  replace A := blk_below A hb
  replace X := blk_below X hb
  replace HB := after HB hb
  replace hW := hW.below hb
  replace hX := hX.below hb
  replace hG := hG.below hb
  replace hlr := row_below hlr hb
  clear hb
  go_wp2_with fail
  refine (markClerkS_own gx N _ _ 1 S CX _ n1 (by omega) HS.out hX).mono ?_
  rintro e wD ⟨⟨kk, hkk, rfl⟩, hk⟩
  have hwx : Kept wC wD (fun b => w3.heap.size ≤ b ∧ b < w4.heap.size) := hk
  clear hk
  have HD : Hid (w.heap.size ≤ wC.heap.size) := HB.size
  replace A := hwx.blk A (fun e => by have := HaL.out; have := HZ.out; have e := e.1; omega)
  replace X := hwx.blk X (fun e => by have := HZ5.out; have e := e.2; omega)
  replace HB := Kept.below HB HB.size hwx (fun b e => by have := HZ.out; have e := e.1; omega)
  replace hW := hW.keep hwx (fun b hb e => by have := HWL.out b hb; have e := e.1; omega)
  replace hG := hG.keep hwx (fun b hb e => by have := HGL.out b hb; have := HZ5.out; have := HZ6.out; have e := e.2; omega)
  replace hlr := hlr.of_block (hwx.block _ hlr.lt (fun e => by have := HL.out; have e := e.2; omega))
  clear hwx hX
  have q0 := blk_cell X 0 _ rfl
  have q1 := blk_cell X 1 _ rfl
  have q2 := blk_cell X 2 _ rfl
  have q3 := blk_cell X 3 _ rfl
  go_wp2_with fail
  clear q0 q1 q2 q3
  have hro : wD.ownsRow w4.heap.size 84 5 (.slice (some ⟨lx, 0, none⟩) x.rwn x.rwn) x.rwn (rowList x.rw x.rwn) := own_of_row (size := 5) (n := x.rwn) hlr HL.out.1 (by have := HT.out.1; unfold maxLen; omega)
  refine (markAnswer_own _ _ _ _ x.rwn _ w4.heap.size (kk : Int) x.rw _ (by have := HT.out.1; omega) (by omega) (by omega) hro).mono ?_
  rintro e wE ⟨rfl, _, hk⟩
  have hwx : Kept wD wE (fun b => b = lx) := hk.mono (fun b e => by simp only [Value.ownBlock, Option.some.injEq] at e; exact e.symm)
  clear hk hro hlr
  replace A := hwx.blk A (fun e => by have := HaL.out; have := HZ.out; have := HZ4.out; have := HL.out; omega)
  replace HB := Kept.below HB HB.size hwx (fun b e => by have e : b = lx := e; have := HZ.out; have := HZ4.out; have := HL.out; omega)
  replace hW := hW.keep hwx (fun b hb e => by have := HWL.out b hb; have := HZ4.out; have := HL.out; have e : b = lx := e; omega)
  replace hG := hG.keep hwx (fun b hb e => by have := HGL.out b hb; have := HL.out; have := HZ6.out; have e : b = lx := e; omega)
  clear hwx X
  have e0 : decide ((kk : Int) + 5 * (x.rwn : Int) < 0) = false := by simp; omega
  go_wp2_with fail
  refine (eqClerkS_same ag aw M' cg cw U _ hM HM.out.2 hG.at hW.at).mono ?_
  rintro e wF ⟨rfl, hb⟩
  replace A := blk_below A hb
  replace HB := after HB hb
  replace hW := hW.below hb
  replace hG := hG.below hb
  clear hb
  have HRN : Hid (∀ i, i < M' → (U i).rwn ≤ 2097152) := fun i hi => by have := (HM.out.2 i hi).2.1; omega
  go_wp2_with fail
  refine (markClerkS_told ag M' cg w6.heap.size 1 U RG _ (by omega) (by omega) HRN.out hG).mono ?_
  rintro e wG ⟨rfl, hGm, hwx⟩
  have HZ7 : Hid (w.heap.size ≤ w6.heap.size ∧ w3.heap.size ≤ w6.heap.size) := by have := HZ.out; have := HZ4.out; have := HZ5.out; have := HZ6.out; exact ⟨by omega, by omega⟩
  have HZa : Hid (aB < w6.heap.size) := by have := HaB.out; have := HZ7.out; have := HZ6.out; have := HZ.out; have := HZ4.out; have := HZ5.out; show aB < w6.heap.size; omega
  replace A := hwx.blk A (fun e => by have := HZa.out; have e : w6.heap.size ≤ aB := e; omega)
  replace HB := Kept.below HB HB.size hwx (fun b e => by have e : w6.heap.size ≤ b := e; have := HZ7.out; omega)
  replace hW := hW.keep hwx (fun b hb e => by have := HWL.out b hb; have e : w6.heap.size ≤ b := e; have := HZ7.out; omega)
  clear hwx hG
  obtain ⟨mm, hmm⟩ : ∃ mm : Nat, mm = ckPos U 1 M' := ⟨_, rfl⟩
  have HMM : Hid (ckPos U 1 M' = mm) := hmm.symm
  have e1 : decide ((mm : Int) < 0) = false := by simp
  have e2 : ((mm : Int) != (mm : Int)) = false := by simp
  rw [HMM.out]
  clear hmm
  go_wp2_with fail
  refine (heldClerkS_yes ag M' cg 1 U _ (by omega) (by omega) HRN.out hGm.at).mono ?_
  rintro e wH ⟨he, hb⟩
  rw [HMM.out] at he
  subst he
  replace A := blk_below A hb
  replace HB := after HB hb
  replace hW := hW.below hb
  replace hGm := hGm.below hb
  clear hb
  go_upto_region 33 with fail
  have KS : Hid (∀ w', Below wH.heap.size wH w' → (w'.cell? ⟨aB, 0, none⟩ = some (.int .i64 x.code) ∧ w'.cell? ⟨aB, 1, none⟩ = some (.int .i64 x.anam) ∧ w'.cell? ⟨aB, 2, none⟩ = some (.int .i64 x.price) ∧ w'.cell? ⟨aB, 3, none⟩ = some (.slice arw x.rwn crw))) := fun w' h => by
    have g1 := blk_below A h
    exact ⟨blk_cell g1 0 _ rfl, blk_cell g1 1 _ rfl, blk_cell g1 2 _ rfl, blk_cell g1 3 _ rfl⟩
  have BW : Hid (∀ w', Below wH.heap.size wH w' → Below w.heap.size w w') := fun w' h => after HB h
  have HO1 : Hid (∀ w', Below wH.heap.size wH w' → Calls Try.prog 16 #[.slice ao N c] w' fun e w2 => ∃ g C, e = .returned (.slice (some ⟨g, 0, none⟩) N N) ∧ ClkDsTo w2 N w'.heap.size w2.heap.size g N S C ∧ Below w'.heap.size w' w2) := fun w' h => toClerkS_any ao N c S w' n1 HS.out (HX.out.below (BW.out _ h))
  have HO2 : Hid (∀ w', Below wH.heap.size wH w' → Calls Try.prog 26 #[.agg #[.int .i64 x.code, .int .i64 x.anam, .int .i64 x.price, .slice arw x.rwn crw]] w' fun e w2 => ∃ lrw, e = .returned (.agg #[.int .i64 x.code, .int .i64 x.anam, .int .i64 x.price, .slice (some ⟨lrw, 0, none⟩) x.rwn x.rwn]) ∧ (w'.heap.size ≤ lrw ∧ lrw < w2.heap.size ∧ w2.rowIs lrw 84 (x.rwn * 5) (rowCell x.rw)) ∧ Below w'.heap.size w' w2) := fun w' h => toAnswer_raw _ _ _ arw x.rwn crw x.rw w' HT.out.1 (HR.out.below (BW.out _ h))
  go_cut [17, 18] (fun p b wx => ∃ Zq N' S' R z, Zq = wx ∧ b = .int .i64 z ∧ OwnClks Zq wH.heap.size p N' S' R ∧ Hid (SettleIs N S nm x N' S' z) ∧ Below wH.heap.size wH Zq)
  case first =>
    go_region_held3 (fun w' => (w'.cell? ⟨aB, 0, none⟩ = some (.int .i64 x.code) ∧ w'.cell? ⟨aB, 1, none⟩ = some (.int .i64 x.anam) ∧ w'.cell? ⟨aB, 2, none⟩ = some (.int .i64 x.price) ∧ w'.cell? ⟨aB, 3, none⟩ = some (.slice arw x.rwn crw)))
      ((refine KS.out _ ?_; exact (by repeat (first | exact Below.refl _ _ | refine Below.drew ?_ | refine after ?_ hb10 | refine after ?_ hb9 | refine after ?_ hb8))))
      (first | (go_at_call 16; (with_reducible refine Calls.mono (HO1.out _ ?_) ?_); (focus exact (by repeat (first | exact Below.refl _ _ | refine Below.drew ?_ | refine after ?_ hb10 | refine after ?_ hb9 | refine after ?_ hb8))); rintro e w8 ⟨g8, C8, rfl, hin8, hb8⟩) | (go_at_call 26; (with_reducible refine Calls.mono (HO2.out _ ?_) ?_); (focus exact (by repeat (first | exact Below.refl _ _ | refine Below.drew ?_ | refine after ?_ hb10 | refine after ?_ hb9 | refine after ?_ hb8))); rintro e w9 ⟨l9, rfl, ⟨_, _, hr9⟩, hb9⟩) | (go_at_call 12; refine Calls.mono (implSettle_any (some ⟨g8, 0, none⟩) N N S nm x (some ⟨l9, 0, none⟩) x.rwn _ n1 HS.out ?_ hsz HT.out.1 ?_ (fun h => by cases h)) ?_; (focus (first | exact hin8.at HS.out | exact (hin8.below hb9).at HS.out)); (focus (first | exact MRowsAt.of_row hr9 | exact MRowsAt.of_row (row_below hr9 hb8))); rintro e w10 ⟨⟨vv, N', S', R, z, rfl, hO, hz⟩, hb10⟩))
    all_goals
      go_wp2
      go_meet
      exact ⟨_, _, _, _, _, rfl, rfl, hO.lower (show wH.heap.size ≤ _ from (Below.size (by repeat (first | exact Below.refl _ _ | refine Below.drew ?_ | refine after ?_ hb10 | refine after ?_ hb9 | refine after ?_ hb8)))), hz, (by repeat (first | exact Below.refl _ _ | refine Below.drew ?_ | refine after ?_ hb10 | refine after ?_ hb9 | refine after ?_ hb8))⟩
  case rest =>
  obtain ⟨wI, M2, U2, RK, z2, rfl, rfl, hK, hz2, hb⟩ := hcut
  clear KS BW HO1 HO2
  obtain ⟨rfl, rfl, hU⟩ := SettleIs.one hz.out hz2.out
  replace hK := hK.congr hU
  obtain ⟨ak, ck, rfl, _⟩ := own_form hK.row
  replace HB := after HB hb
  replace hW := hW.below hb
  replace hGm := hGm.below hb
  clear hb hU A
  go_wp2_with fail
  refine (eqClerkS_same ak aw M2 ck cw U _ hM HM.out.2 hK.at hW.at).mono ?_
  rintro e wJ ⟨rfl, hb⟩
  replace HB := after HB hb
  replace hGm := hGm.below hb
  clear hb hK hW
  go_wp2_with fail
  refine (heldClerkS_yes ag M2 cg 1 U _ (by omega) (by omega) HRN.out hGm.at).mono ?_
  rintro e wK ⟨he, hb⟩
  rw [HMM.out] at he
  subst he
  replace HB := after HB hb
  go_wp2
  go_ret
  exact ⟨rfl, HB⟩

end Go.Proofs.Ytogbaoggebghdaa

namespace Go.Proofs.Ytogbaoggebghdaa
open Go.ChangeShapes Go.WideShapes Go.ChangeAt Go.RowKit Go.Deep

section
variable {H : Type} {enc : TypeId × Value → H} {P : Program} {w : World} {base : Nat} {spare : Nat → Bool} {held : Bool}

/-- How a list's datum tells its length. -/
def LenIs (d : DataW H) (n : Nat) : Prop := (d = .nil ∧ n = 0) ∨ ∃ els rest, d = .slice els rest ∧ els.length = n

theorem view_ints {t e fuel : Nat} {v : Value} {x : DataW H × List MemPlace} (ht : P.underlying t = some (.slice e)) (he : P.underlying e = some (.int .i64)) (hc : P.cellsOf e = 1)
    (h : DataW.trod enc P w base spare held fuel t [v] = some x) :
    ∃ ao n cap F, v = .slice ao n cap ∧ n ≤ cap ∧ cap ≤ maxLen ∧ (ao = none → n = 0 ∧ cap = 0) ∧ IntsAt w ao n F ∧ LenIs x.1 n := by
  rcases open_ints ht he hc h with ⟨hcs, hx⟩ | ⟨a, n, cap, zs, hcs, _, hl, hm, hz, hx, hcell, _⟩
  · simp at hcs
    subst hcs
    refine ⟨none, 0, 0, fun _ => 0, rfl, Nat.le_refl _, Nat.zero_le _, fun _ => ⟨rfl, rfl⟩, fun k hk => by omega, .inl ⟨by rw [hx], rfl⟩⟩
  · simp at hcs
    subst hcs
    have hzl : n ≤ zs.length := by rw [hz]; split <;> omega
    refine ⟨some a, n, cap, fun k => zs.getD k 0, rfl, hl, hm, (fun h => by cases h), (fun k hk => ?_), .inr ⟨_, _, by rw [hx], by simp [lits]; omega⟩⟩
    obtain ⟨b, off, rfl, hc2⟩ := ints_at hcell (by omega)
    exact ⟨b, off, rfl, hc2 k (by omega)⟩

theorem view_slots {t e fuel ti tb : Nat} {f0 f1 f2 : Field} {v : Value} {x : DataW H × List MemPlace} (ht : P.underlying t = some (.slice e)) (he : P.underlying e = some (.struct #[f0, f1, f2])) (hc : P.cellsOf e = 3)
    (t0 : f0.type = ti) (t1 : f1.type = tb) (t2 : f2.type = ti) (o0 : f0.offset = 0) (o1 : f1.offset = 1) (o2 : f2.offset = 2)
    (hi : P.underlying ti = some (.int .i64)) (hb : P.underlying tb = some .bool) (ci : P.cellsOf ti = 1) (cb : P.cellsOf tb = 1)
    (h : DataW.trod enc P w base spare held fuel t [v] = some x) :
    ∃ ao n cap A U V, v = .slice ao n cap ∧ n ≤ cap ∧ cap ≤ maxLen ∧ (ao = none → n = 0 ∧ cap = 0) ∧ SlotsAt w ao n A U V ∧ LenIs x.1 n := by
  rcases open_slice ht h with ⟨hcs, hx⟩ | ⟨a, n, cap, m, fl, D, Pl, hcs, _, hl, hm, hmm, hx, hcell⟩
  · simp at hcs
    subst hcs
    refine ⟨none, 0, 0, fun _ => 0, fun _ => false, fun _ => 0, rfl, Nat.le_refl _, Nat.zero_le _, fun _ => ⟨rfl, rfl⟩, fun k hk => by omega, .inl ⟨by rw [hx], rfl⟩⟩
  · simp at hcs
    subst hcs
    have hnm : n ≤ m := by rw [hmm]; split <;> omega
    by_cases hn0 : n = 0
    · subst hn0
      exact ⟨some a, 0, cap, fun _ => 0, fun _ => false, fun _ => 0, rfl, hl, hm, (fun h => by cases h), (fun k hk => by omega), .inr ⟨_, _, by rw [hx], by simp⟩⟩
    have hspot : a.spot = none := by
      obtain ⟨cs, hcl, _⟩ := hcell 0 (by omega)
      rw [hc] at hcl
      obtain ⟨_, hlen, hget⟩ := World.cells?_some hcl
      have g0 := hget 0 (by omega)
      rw [List.getElem?_eq_getElem (by omega)] at g0
      have := World.cell?_spot g0
      simpa [Addr.add] using this
    obtain ⟨b, off, spot⟩ := a
    simp only at hspot
    subst hspot
    have key : ∀ k, k < n → ∃ (y : Int × Bool × Int), w.cell? ⟨b, off + k * 3, none⟩ = some (.int .i64 y.1) ∧ w.cell? ⟨b, off + k * 3 + 1, none⟩ = some (.bool y.2.1) ∧ w.cell? ⟨b, off + k * 3 + 2, none⟩ = some (.int .i64 y.2.2) := by
      intro k hk
      obtain ⟨cs, hcl, htr⟩ := hcell k (by omega)
      rw [hc] at hcl
      obtain ⟨_, hlen, hget⟩ := World.cells?_some hcl
      obtain ⟨y0, y1, y2, n', _, _, h0, h1, h2⟩ := trod_struct3 he htr
      rw [t0, o0, ci] at h0
      rw [t1, o1, cb] at h1
      rw [t2, o2, ci] at h2
      match cs, hlen with
      | [p, q, r], _ =>
        obtain ⟨i0, e0, _, _⟩ := DataW.trod_int hi h0
        obtain ⟨i1, e1, _⟩ := DataW.trod_bool hb h1
        obtain ⟨i2, e2, _, _⟩ := DataW.trod_int hi h2
        simp at e0 e1 e2
        subst e0 e1 e2
        have g0 := hget 0 (by omega)
        have g1 := hget 1 (by omega)
        have g2 := hget 2 (by omega)
        simp only [List.getElem?_cons_zero, List.getElem?_cons_succ, Addr.add_lit, Nat.add_zero] at g0 g1 g2
        exact ⟨(i0, i1, i2), g0, g1, g2⟩
    obtain ⟨f, hf⟩ := choose_lt key
    exact ⟨some ⟨b, off, none⟩, n, cap, fun k => (f k).1, fun k => (f k).2.1, fun k => (f k).2.2, rfl, hl, hm, (fun h => by cases h), (fun k hk => ⟨b, off, rfl, hf k hk⟩), .inr ⟨_, _, by rw [hx], by simp⟩⟩

/-- The reach of a list: so many elements at most. -/
theorem len_reach {t e n : Nat} {d : DataW H} {bytes : Nat} (ht : P.underlying t = some (.slice e)) (hb : P.bytesOf e = bytes) (hd : LenIs d n) (hw : ∀ x ∈ DataW.weights P t d, x ≤ reachBytes) : n * bytes ≤ reachBytes := by
  rcases hd with ⟨_, rfl⟩ | ⟨els, rest, rfl, rfl⟩
  · omega
  · have := hw ((els.length + rest.length) * P.bytesOf e) (by simp [DataW.weights, ht])
    rw [hb] at this
    exact Nat.le_trans (Nat.mul_le_mul_right _ (Nat.le_add_right _ _)) this

end
end Go.Proofs.Ytogbaoggebghdaa
