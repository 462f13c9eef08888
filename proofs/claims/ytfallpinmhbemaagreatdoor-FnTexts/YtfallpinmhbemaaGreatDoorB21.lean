/-
  OWN TEXT: SpecFf, SpecEc, SpecEd, SpecEe, SpecEf.
-/
import Derived.Deep.DeepCutAuto
import Derived.Deep.RegionLawGrows
import Derived.Deep.RegionHeld3
import Derived.Deep.AppendLies
import Derived.Great.Walk
import Derived.Test.YtfallpinmhbemaaGreatDoorB07
import Derived.Test.YtfallpinmhbemaaGreatDoorB01
import Derived.Test.YtfallpinmhbemaaGreatDoorB08
import Derived.Test.YtfallpinmhbemaaGreatDoorB19
import Derived.Test.YtfallpinmhbemaaGreatDoorB20
import Derived.Test.YtfallpinmhbemaaGreatDoorB10
namespace Go.Proofs.YtfallpinmhbemaaGreatDoor
open Go.RowKit

set_option maxHeartbeats 800000 in
theorem specRefund_is (x y : Int) (w : World) :
    Calls Tryz.prog 145 #[.int .i64 x, .int .i64 y] w fun e w' => e = .returned (.int .i64 (refundOf x y)) ∧ w' = w := by
  obtain ⟨V, hV⟩ : ∃ V, V = refundOf x y := ⟨_, rfl⟩
  rw [← hV]
  have HV : Hid (V = refundOf x y) := hV
  clear hV
  by_cases h1 : In x 0 1000000
  · have e1 : decide (In x 0 1000000) = true := decide_eq_true h1
    by_cases h2 : In y (-10000) 10000
    · have e2 : decide (In y (-10000) 10000) = true := decide_eq_true h2
      have h0 : 0 ≤ x := h1.1
      have h00 : x ≤ 1000000 := h1.2
      have HP : Hid (In x 0 1000000 ∧ In y (-10000) 10000) := ⟨h1, h2⟩
      clear h1 h2
      by_cases h3 : 100 ≤ y
      · have e3 : decide (100 ≤ y) = true := decide_eq_true h3
        have HR : Hid (V = x) := by show V = x; rw [HV.out]; unfold refundOf; rw [if_pos HP.out, if_pos h3]
        rw [HR.out]
        clear h3
        go_enter Tryz.func145, Tryz.ntmps145
        go_wp2_with (first | (go_at_call 19; refine (l1In_is _ _ _ _).mono ?_; rintro e w' ⟨rfl, hw'⟩; have hw' := hw'.symm; subst hw'))
        go_ret
        exact ⟨rfl, rfl⟩
      · have e3 : decide (100 ≤ y) = false := decide_eq_false h3
        by_cases h4 : 20 ≤ y
        · have e4 : decide (20 ≤ y) = true := decide_eq_true h4
          have HR : Hid (V = x / 2) := by show V = x / 2; rw [HV.out]; unfold refundOf; rw [if_pos HP.out, if_neg h3, if_pos h4]
          have hq : Int.tdiv x 2 = x / 2 := by rw [Int.tdiv_eq_ediv_of_nonneg h0]
          have hwq : IntKind.i64.wrap (x / 2) = x / 2 := by rw [IntKind.wrap_i64]; omega
          rw [HR.out]
          clear h3 h4
          go_enter Tryz.func145, Tryz.ntmps145
          go_wp2_with (first | (go_at_call 19; refine (l1In_is _ _ _ _).mono ?_; rintro e w' ⟨rfl, hw'⟩; have hw' := hw'.symm; subst hw'))
          go_ret
          exact ⟨rfl, rfl⟩
        · have e4 : decide (20 ≤ y) = false := decide_eq_false h4
          have HR : Hid (V = 0) := by show V = 0; rw [HV.out]; unfold refundOf; rw [if_pos HP.out, if_neg h3, if_neg h4]
          rw [HR.out]
          clear h3 h4
          go_enter Tryz.func145, Tryz.ntmps145
          go_wp2_with (first | (go_at_call 19; refine (l1In_is _ _ _ _).mono ?_; rintro e w' ⟨rfl, hw'⟩; have hw' := hw'.symm; subst hw'))
          go_ret
          exact ⟨rfl, rfl⟩
    · have e2 : decide (In y (-10000) 10000) = false := decide_eq_false h2
      have HR : Hid (V = 0) := by rw [HV.out]; exact if_neg (fun h => h2 h.2)
      rw [HR.out]
      clear h1 h2
      go_enter Tryz.func145, Tryz.ntmps145
      go_wp2_with (first | (go_at_call 19; refine (l1In_is _ _ _ _).mono ?_; rintro e w' ⟨rfl, hw'⟩; have hw' := hw'.symm; subst hw'))
      go_ret
      exact ⟨rfl, rfl⟩
  · have e1 : decide (In x 0 1000000) = false := decide_eq_false h1
    have HR : Hid (V = 0) := by rw [HV.out]; exact if_neg (fun h => h1 h.1)
    rw [HR.out]
    clear h1
    go_enter Tryz.func145, Tryz.ntmps145
    go_wp2_with (first | (go_at_call 19; refine (l1In_is _ _ _ _).mono ?_; rintro e w' ⟨rfl, hw'⟩; have hw' := hw'.symm; subst hw'))
    go_ret
    exact ⟨rfl, rfl⟩

end Go.Proofs.YtfallpinmhbemaaGreatDoor

namespace Go.Proofs.YtfallpinmhbemaaGreatDoor
open Go.RowKit

set_option maxHeartbeats 25600000 in
set_option maxRecDepth 100000 in
theorem l7End_6 (g base N R csa cld cbk clg m : Nat) (asa ald abk alg : Option Addr) (bys : Int) (y : OpD) (x : Off) (L C A B D E : Nat → Value) (w : World) (hq : w.heap[g]? = some (.cells #[.slice asa N csa, .slice ald N cld, .slice abk R cbk] 66 (0, 0))) (ho : OwnOff w base (.slice asa N csa) (.slice ald N cld) (.slice abk R cbk) N N R x L C A B D E) (hxb : x.bkn = R) (hbw : base ≤ w.heap.size) (hkd : y.kind = 6) (hpe : In y.pe 0 20) (hln : y.lgn ≤ 3) (hlg : IntsAt w alg y.lgn y.lg) (hsl : SliceOk alg y.lgn clg) (hlo : 0 < y.lgn → ∀ a, alg = some a → a.block < base) (hnm : y.name = (m : Int) + 1) (hm : m < R) (hR : R ≤ 1048576) (kk : Nat) (hl0 : 0 < (x.bk m).lgn) (hkk : findIx x.sa ((x.bk m).lg 0) N = kk) (hkl : kk < N) (hdn : -1000000000 ≤ (x.sa kk).dep - y.now ∧ (x.sa kk).dep - y.now ≤ 1000000000) (hN : N ≤ 1048576) :
    Calls Tryz.prog 123 #[.pointer (some ⟨g, 0, none⟩), .int .i64 bys, .agg #[.int .i64 y.kind, .string y.own, .int .i64 y.name, .slice alg y.lgn clg, .int .i64 y.pe, .int .i64 y.len, .int .i64 y.hei, .int .i64 y.cl, .bool y.all, .int .i64 y.be, .int .i64 y.unt, .int .i64 y.now]] w fun e w' => EndIs g base N csa cld asa ald (fun b => b = g ∨ (Value.slice abk R cbk).ownBlock = some b) { x with bk := setB x.bk m (endBook (x.bk m) bys y) } 0 y.name (refundOf (x.bk m).price ((x.sa kk).dep - y.now)) (fun _ v => v = .slice none 0 0) L C A B D w e w' := by
  rw [hkd, hnm]
  have HO : Hid (OwnOff w base (.slice asa N csa) (.slice ald N cld) (.slice abk R cbk) N N R x L C A B D E) := ho
  have HQ : Hid (w.heap[g]? = some (.cells #[.slice asa N csa, .slice ald N cld, .slice abk R cbk] 66 (0, 0))) := hq
  have HKD : Hid (y.kind = 6) := hkd
  have HXB : Hid (x.bkn = R) := hxb
  have HBW : Hid (base ≤ w.heap.size) := hbw
  have HLG : Hid (IntsAt w alg y.lgn y.lg) := hlg
  have HSL : Hid (SliceOk alg y.lgn clg) := hsl
  have HLO : Hid (0 < y.lgn → ∀ a, alg = some a → a.block < base) := hlo
  obtain ⟨gb, rfl, hb1, hb2⟩ := own_addr ho.bk.row (by omega)
  obtain ⟨cs, hgb⟩ := own_blockE ho.bk.row gb rfl
  obtain ⟨blg, blc, eE, q1, q2, q3⟩ := own_form (ho.bk.legs m hm)
  obtain ⟨b, hbd⟩ : ∃ b, b = x.bk m := ⟨_, rfl⟩
  have HBD : Hid (b = x.bk m) := hbd
  have HGB : Hid (w.heap[gb]? = some (.cells cs 131 (0, 0))) := hgb
  have HCB : Hid (∀ V, Below w.heap.size w V → ∀ j v, (bkC x.bk E m)[j]? = some v → V.cell? ⟨gb, m * 13 + j, none⟩ = some v) := fun V hV j v hv => by
    have hj : j < 13 := by
      have h := (List.getElem?_eq_some_iff.1 hv).1
      exact h
    have h := own_cell ho.bk.row (m * 13 + j) (by omega) rfl
    rw [recCell_at 13 _ m j hj, List.getD_eq_getElem?_getD, hv] at h
    exact (hV.cell (p := ⟨gb, m * 13 + j, none⟩) hb2).trans h
  have HEM : Hid (E m = .slice blg b.lgn blc) := by rw [hbd]; exact eE
  have i1 : (0 : Int) ≤ (m : Int) := by omega
  have i2 : (m : Int) < (R : Int) := by omega
  have hwm : IntKind.i64.wrap ((m : Int) + 1 - 1) = (m : Int) := by rw [IntKind.wrap_i64]; omega
  have HM : Hid (m < R) := hm
  have HBG : Hid (base ≤ gb) := hb1
  clear hgb eE q1 q2 q3 hbd hb1
  have H60 : Hid (0 < (x.bk m).lgn) := hl0
  have H61 : Hid (kk < N) := hkl
  have H62 : Hid (-1000000000 ≤ (x.sa kk).dep - y.now ∧ (x.sa kk).dep - y.now ≤ 1000000000) := hdn
  have H63 : Hid (N ≤ 1048576) := hN
  have H64 : Hid (findIx x.sa ((x.bk m).lg 0) N = kk) := hkk
  clear hl0 hkk hkl hdn hN
  clear ho hq hkd hxb hbw hlg hsl hlo hnm hm
  obtain ⟨pr, hpr⟩ : ∃ pr, pr = priceOf ⟨y.pe, y.len, y.hei, y.cl, y.all, y.be⟩ (y.lgn : Int) := ⟨_, rfl⟩
  have HPR : Hid (pr = priceOf ⟨y.pe, y.len, y.hei, y.cl, y.all, y.be⟩ (y.lgn : Int)) := hpr
  have hb0 : Below w.heap.size w ((w.alloc (.cells #[.int .i64 6, .string y.own, .int .i64 ((m : Int) + 1), .slice alg y.lgn clg, .int .i64 y.pe, .int .i64 y.len, .int .i64 y.hei, .int .i64 y.cl, .bool y.all, .int .i64 y.be, .int .i64 y.unt, .int .i64 y.now] 27)).alloc (.cells #[.int .i64 0, .int .i64 0, .int .i64 0, .slice none 0 0] 127)) := push (push (Below.refl _ _) _) _
  have bO := blk_alloc (heap_alloc_new w (.cells #[.int .i64 6, .string y.own, .int .i64 ((m : Int) + 1), .slice alg y.lgn clg, .int .i64 y.pe, .int .i64 y.len, .int .i64 y.hei, .int .i64 y.cl, .bool y.all, .int .i64 y.be, .int .i64 y.unt, .int .i64 y.now] 27)) (.cells #[.int .i64 0, .int .i64 0, .int .i64 0, .slice none 0 0] 127)
  have bA := new2 w (.cells #[.int .i64 6, .string y.own, .int .i64 ((m : Int) + 1), .slice alg y.lgn clg, .int .i64 y.pe, .int .i64 y.len, .int .i64 y.hei, .int .i64 y.cl, .bool y.all, .int .i64 y.be, .int .i64 y.unt, .int .i64 y.now] 27) (.cells #[.int .i64 0, .int .i64 0, .int .i64 0, .slice none 0 0] 127)
  go_enter Tryz.func123, Tryz.ntmps123
  go_wp2_with fail
  generalize ((w.alloc (.cells #[.int .i64 6, .string y.own, .int .i64 ((m : Int) + 1), .slice alg y.lgn clg, .int .i64 y.pe, .int .i64 y.len, .int .i64 y.hei, .int .i64 y.cl, .bool y.all, .int .i64 y.be, .int .i64 y.unt, .int .i64 y.now] 27)).alloc (.cells #[.int .i64 0, .int .i64 0, .int .i64 0, .slice none 0 0] 127)) = W at hb0 bO bA ⊢
  refine (l6Price0_any y.pe y.len y.hei y.cl y.all y.be (y.lgn : Int) _ hpe (by unfold In; omega)).mono ?_
  rintro e V ⟨rfl, hbv⟩
  rw [← hpr]
  clear hpr
  replace hb0 := after hb0 hbv
  replace bO := blk_below bO hbv
  replace bA := blk_below bA hbv
  clear hbv W
  have o0 := blk_cell bO 0 _ rfl
  have n2 : ∀ G : Grown V, G.val.cell? ⟨g, 2, none⟩ = some (.slice (some ⟨gb, 0, none⟩) R cbk) := fun G => blk_cell (blk_below HQ.out (after hb0 G.bel)) 2 _ rfl
  have m2 : ∀ G : Grown V, G.val.cell? ⟨w.heap.size, 2, none⟩ = some (.int .i64 ((m : Int) + 1)) := fun G => blk_cell (blk_below bO G.bel) 2 _ rfl
  go_upto_region 17 with fail
  refine wp_region_grow (by kernel_rfl) (by kernel_rfl) ?_
  repeat (first | go_big_quiet_skip | (go_big_quiet_want; go_big_quiet_op; first | go_big_quiet_on | fail))
  refine wpQuiet_nil ?_
  rintro _ ⟨G, rfl⟩
  replace hb0 := after hb0 G.bel
  replace bO := blk_below bO G.bel
  replace bA := blk_below bA G.bel
  have hsz := blk_lt bA
  have o2 := blk_cell bO 2 _ rfl
  clear o0 n2 m2
  have o0 : ∀ o, (G.val.alloc o).cell? ⟨w.heap.size, 0, none⟩ = some (.int .i64 6) := fun o => blk_cell (blk_alloc bO o) 0 _ rfl
  go_upto_region 20 with fail
  replace hb0 := push hb0 (.cells #[.int .i64 0, .int .i64 ((m : Int) + 1), .int .i64 0, .slice none 0 0] 127)
  replace bO := blk_alloc bO (.cells #[.int .i64 0, .int .i64 ((m : Int) + 1), .int .i64 0, .slice none 0 0] 127)
  replace bA := blk_alloc bA (.cells #[.int .i64 0, .int .i64 ((m : Int) + 1), .int .i64 0, .slice none 0 0] 127)
  have bT := heap_alloc_new G.val (.cells #[.int .i64 0, .int .i64 ((m : Int) + 1), .int .i64 0, .slice none 0 0] 127)
  generalize G.val.alloc (.cells #[.int .i64 0, .int .i64 ((m : Int) + 1), .int .i64 0, .slice none 0 0] 127) = X at hb0 bO bA bT ⊢
  generalize G.val.heap.size = tb at bT hsz ⊢
  clear o0 o2 G V
  have bGB := blk_below HGB.out hb0
  have k10 := HCB.out X hb0 10 _ rfl
  have k11 := HCB.out X hb0 11 _ rfl
  have k12 := HCB.out X hb0 12 _ rfl
  have f10 := blk_free bGB (m * 13 + 10)
  have f11 := blk_free bGB (m * 13 + 11)
  have t0 := blk_cell bT 0 _ rfl
  have t1 := blk_cell bT 1 _ rfl
  have t2 := blk_cell bT 2 _ rfl
  have t3 := blk_cell bT 3 _ rfl
  go_upto_region 33 with fail
  have HNB : Hid (endBook (x.bk m) bys y = { x.bk m with state := 3, unt := 0 }) := by show _ = _; simp [endBook, HKD.out]
  have hkz : Kept X ((X.setCell ⟨gb, m * 13 + 10, none⟩ (.int .i64 3)).setCell ⟨gb, m * 13 + 11, none⟩ (.int .i64 0)) (fun b => b = gb) := (((Kept.refl X (fun b => b = gb)).set (a := ⟨gb, m * 13 + 10, none⟩) rfl _).set (a := ⟨gb, m * 13 + 11, none⟩) rfl _)
  have HROW : Hid (((X.setCell ⟨gb, m * 13 + 10, none⟩ (.int .i64 3)).setCell ⟨gb, m * 13 + 11, none⟩ (.int .i64 0)).ownsRow base 131 13 (.slice (some ⟨gb, 0, none⟩) R cbk) R (bkRow (setB x.bk m (endBook (x.bk m) bys y)) (atV E m (E m)) R)) := by
    refine own_congr (own_store (own_store ((HO.out.below hb0).bk.row) (m * 13 + 10) (.int .i64 3)) (m * 13 + 11) (.int .i64 0)) (fun j _ => rec_put 13 (by decide) (k := m) (C := bkC x.bk E) (C' := bkC (setB x.bk m (endBook (x.bk m) bys y)) (atV E m (E m))) (f := fun i => if i = m * 13 + 11 then (.int .i64 0 : Value) else if i = m * 13 + 10 then (.int .i64 3 : Value) else recCell 13 (bkC x.bk E) i) (fun r hr => ?_) (fun j hj => ?_) (fun i hi => ?_) j)
    · have hR := recCell_at 13 (bkC x.bk E) m r hr
      unfold bkC
      rw [setB_at, atV_at, HNB.out]
      unfold bkC at hR
      have hr13 : r = 0 ∨ r = 1 ∨ r = 2 ∨ r = 3 ∨ r = 4 ∨ r = 5 ∨ r = 6 ∨ r = 7 ∨ r = 8 ∨ r = 9 ∨ r = 10 ∨ r = 11 ∨ r = 12 := by omega
      rcases hr13 with rfl | rfl | rfl | rfl | rfl | rfl | rfl | rfl | rfl | rfl | rfl | rfl | rfl
      · rw [if_neg (by omega), if_neg (by omega), hR]; rfl
      · rw [if_neg (by omega), if_neg (by omega), hR]; rfl
      · rw [if_neg (by omega), if_neg (by omega), hR]; rfl
      · rw [if_neg (by omega), if_neg (by omega), hR]; rfl
      · rw [if_neg (by omega), if_neg (by omega), hR]; rfl
      · rw [if_neg (by omega), if_neg (by omega), hR]; rfl
      · rw [if_neg (by omega), if_neg (by omega), hR]; rfl
      · rw [if_neg (by omega), if_neg (by omega), hR]; rfl
      · rw [if_neg (by omega), if_neg (by omega), hR]; rfl
      · rw [if_neg (by omega), if_neg (by omega), hR]; rfl
      · rw [if_neg (by omega), if_pos rfl]; rfl
      · rw [if_pos rfl]; rfl
      · rw [if_neg (by omega), if_neg (by omega), hR]; rfl
    · rw [if_neg (by omega), if_neg (by omega)]
    · unfold bkC
      rw [setB_ne _ _ _ hi, atV_ne _ _ _ _ hi]
  have HOZ : Hid (OwnOff ((X.setCell ⟨gb, m * 13 + 10, none⟩ (.int .i64 3)).setCell ⟨gb, m * 13 + 11, none⟩ (.int .i64 0)) base (.slice asa N csa) (.slice ald N cld) (.slice (some ⟨gb, 0, none⟩) R cbk) N N R { x with bk := setB x.bk m (endBook (x.bk m) bys y) } L C A B D (atV E m (E m))) := (HO.out.below hb0).putBk hkz HROW.out (by rw [HNB.out]; exact (HO.out.below hb0).bk.legs m HM.out) (HO.out.bk.far_same HM.out)
  have hgg : g ≠ gb := fun e => by have h := HGB.out; rw [← e, HQ.out] at h; simp at h
  have HQZ : Hid (((X.setCell ⟨gb, m * 13 + 10, none⟩ (.int .i64 3)).setCell ⟨gb, m * 13 + 11, none⟩ (.int .i64 0)).heap[g]? = some (.cells #[.slice asa N csa, .slice ald N cld, .slice (some ⟨gb, 0, none⟩) R cbk] 66 (0, 0))) := hkz.blk (blk_below HQ.out hb0) hgg
  have bTZ := hkz.blk bT (by show ¬ _ = _; omega)
  have bAZ := hkz.blk bA (by show ¬ _ = _; omega)
  have bOZ := hkz.blk bO (by show ¬ _ = _; omega)
  have HKZ : Hid (Kept w ((X.setCell ⟨gb, m * 13 + 10, none⟩ (.int .i64 3)).setCell ⟨gb, m * 13 + 11, none⟩ (.int .i64 0)) (fun b => b = g ∨ (Value.slice (some ⟨gb, 0, none⟩) R cbk).ownBlock = some b)) := (Kept.of_below hb0).trans (hkz.mono (fun b e => .inr (by rw [show b = gb from e]; rfl)))
  have z12 : ((X.setCell ⟨gb, m * 13 + 10, none⟩ (.int .i64 3)).setCell ⟨gb, m * 13 + 11, none⟩ (.int .i64 0)).cell? ⟨gb, m * 13 + 12, none⟩ = some (.int .i64 (x.bk m).price) := by
    have h := own_cell HROW.out (m * 13 + 12) (by have := HM.out; omega) rfl
    rw [recCell_at 13 _ m 12 (by decide)] at h
    unfold bkC at h
    rw [setB_at, HNB.out] at h
    exact h
  generalize ((X.setCell ⟨gb, m * 13 + 10, none⟩ (.int .i64 3)).setCell ⟨gb, m * 13 + 11, none⟩ (.int .i64 0)) = Z1 at bOZ hkz HROW HOZ HQZ bTZ bAZ HKZ z12 ⊢
  clear hkz HROW bT bA bO bGB t0 t1 t2 t3 k10 k11 k12 f10 f11
  have hatb : w.heap.size + 1 ≠ tb := by omega
  have HEM2 : E m = .slice blg (x.bk m).lgn blc := by rw [← HBD.out]; exact HEM.out
  have hL := HOZ.out.bk.legs m HM.out
  dsimp only at hL
  rw [atV_at, setB_at, HNB.out, HEM2] at hL
  dsimp only at hL
  obtain ⟨lb, rfl, lb1, lb2⟩ := own_addr hL H60.out
  obtain ⟨lb', lo', elb, hc0⟩ := own_ints hL 0 H60.out
  have y3 : Z1.cell? ⟨lb, 0, none⟩ = some (.int .i64 ((x.bk m).lg 0)) := by
    cases elb
    exact hc0
  have z3 : Z1.cell? ⟨gb, m * 13 + 3, none⟩ = some (.slice (some ⟨lb, 0, none⟩) (x.bk m).lgn blc) := by
    have h := own_cell HOZ.out.bk.row (m * 13 + 3) (by have := HM.out; omega) rfl
    rw [recCell_at 13 _ m 3 (by decide)] at h
    unfold bkC at h
    rw [atV_at, HEM2] at h
    exact h
  obtain ⟨sb0, so, la, lc, ca, cc, rfl, s0, s1, s2, s3, s4, s5, s6, s7, _⟩ := HOZ.out.sa.at kk H61.out
  have zq := blk_cell HQZ.out 0 _ rfl
  have hgw : g < w.heap.size := blk_lt HQ.out
  have hsb : sb0 < w.heap.size := by
    obtain ⟨gs, e, _, h2⟩ := own_addr HO.out.sa.row (by have := H61.out; omega)
    cases e
    exact h2
  have hlb : lb < w.heap.size := by
    have h := HO.out.bk.legs m HM.out
    rw [HEM2] at h
    exact (h.lt lb rfl).2
  have i3 : (0 : Int) ≤ (kk : Int) := by omega
  have i4 : (kk : Int) < (N : Int) := by have := H61.out; omega
  have i5 : (0 : Int) < ((x.bk m).lgn : Int) := by have := H60.out; omega
  have i6 : 0 < (x.bk m).lgn := H60.out
  have hwd : IntKind.i64.wrap ((x.sa kk).dep - y.now) = (x.sa kk).dep - y.now := by rw [IntKind.wrap_i64]; have := H62.out; omega
  have HSA : Hid (SailsAt Z1 (some ⟨sb0, so, none⟩) N x.sa) := HOZ.out.sa.at
  have KS : Hid (∀ z, Below Z1.heap.size Z1 z → z.cell? ⟨gb, m * 13 + 12, none⟩ = some (.int .i64 (x.bk m).price) ∧ z.cell? ⟨gb, m * 13 + 3, none⟩ = some (.slice (some ⟨lb, 0, none⟩) (x.bk m).lgn blc) ∧ z.cell? ⟨g, 0, none⟩ = some (.slice (some ⟨sb0, so, none⟩) N csa) ∧ z.cell? ⟨lb, 0, none⟩ = some (.int .i64 ((x.bk m).lg 0)) ∧ z.cell? ⟨sb0, so + kk * 8 + 3, none⟩ = some (.int .i64 (x.sa kk).dep) ∧ z.cell? ⟨w.heap.size, 11, none⟩ = some (.int .i64 y.now)) := fun z h => ⟨(h.cell (p := ⟨gb, m * 13 + 12, none⟩) (World.block_lt_of_cell? _ _ z12)).trans z12, (h.cell (p := ⟨gb, m * 13 + 3, none⟩) (World.block_lt_of_cell? _ _ z3)).trans z3, (h.cell (p := ⟨g, 0, none⟩) (World.block_lt_of_cell? _ _ zq)).trans zq, (h.cell (p := ⟨lb, 0, none⟩) (World.block_lt_of_cell? _ _ y3)).trans y3, (h.cell (p := ⟨sb0, so + kk * 8 + 3, none⟩) (World.block_lt_of_cell? _ _ s3)).trans s3, blk_cell (blk_below bOZ h) 11 _ rfl⟩
  have KT : Hid (∀ z, Below Z1.heap.size Z1 z → ∀ v u', u' = z.setCell ⟨tb, 2, none⟩ v → u'.cell? ⟨gb, m * 13 + 12, none⟩ = some (.int .i64 (x.bk m).price) ∧ u'.cell? ⟨gb, m * 13 + 3, none⟩ = some (.slice (some ⟨lb, 0, none⟩) (x.bk m).lgn blc) ∧ u'.cell? ⟨g, 0, none⟩ = some (.slice (some ⟨sb0, so, none⟩) N csa) ∧ u'.cell? ⟨lb, 0, none⟩ = some (.int .i64 ((x.bk m).lg 0)) ∧ u'.cell? ⟨sb0, so + kk * 8 + 3, none⟩ = some (.int .i64 (x.sa kk).dep) ∧ u'.cell? ⟨w.heap.size, 11, none⟩ = some (.int .i64 y.now)) := fun z h v u' e => by
    subst e
    obtain ⟨a1, a2, a3, a4, a5, a6⟩ := KS.out z h
    have hk : Kept z (z.setCell ⟨tb, 2, none⟩ v) (fun b => b = tb) := (Kept.refl z (fun b => b = tb)).set (a := ⟨tb, 2, none⟩) rfl v
    exact ⟨kept_cell hk a1 (by show ¬ _ = _; dsimp only; omega), kept_cell hk a2 (by show ¬ _ = _; dsimp only; omega), kept_cell hk a3 (by show ¬ _ = _; dsimp only; omega), kept_cell hk a4 (by show ¬ _ = _; dsimp only; omega), kept_cell hk a5 (by show ¬ _ = _; dsimp only; omega), kept_cell hk a6 (by show ¬ _ = _; dsimp only; omega)⟩
  clear s0 s1 s2 s3 s4 s5 s6 s7 y3 z3 z12 zq hL elb hc0
  go_region_held3 (fun w' => w'.cell? ⟨gb, m * 13 + 12, none⟩ = some (.int .i64 (x.bk m).price) ∧ w'.cell? ⟨gb, m * 13 + 3, none⟩ = some (.slice (some ⟨lb, 0, none⟩) (x.bk m).lgn blc) ∧ w'.cell? ⟨g, 0, none⟩ = some (.slice (some ⟨sb0, so, none⟩) N csa) ∧ w'.cell? ⟨lb, 0, none⟩ = some (.int .i64 ((x.bk m).lg 0)) ∧ w'.cell? ⟨sb0, so + kk * 8 + 3, none⟩ = some (.int .i64 (x.sa kk).dep) ∧ w'.cell? ⟨w.heap.size, 11, none⟩ = some (.int .i64 y.now))
    (first | (with_reducible exact KT.out _ HB2.out _ _ rfl) | (refine KS.out _ ?_; repeat (first | exact HB2.out | exact Below.refl _ _ | refine Below.drew ?_ | refine push ?_ _)))
    (first
      | (go_simp; go_at_call 110; (with_reducible refine Calls.mono (l3At_any (some ⟨sb0, so, none⟩) N csa x.sa ((x.bk m).lg 0) _ H63.out (HSA.out.below ?_)) ?_); (focus (repeat (first | exact Below.refl _ _ | refine Below.drew ?_ | refine push ?_ _))); rintro e u2 ⟨he, hb2⟩; have HB2 : Hid (Below Z1.heap.size Z1 u2) := after (Below.drew (Below.refl _ _)) hb2; rw [H64.out] at he; rcases he with ⟨_, rfl⟩ | ⟨h, _⟩; rotate_left; (focus (have := H61.out; omega)); have q0 := blk_cell (blk_below bTZ HB2.out) 2 _ rfl; have q1 := blk_free (blk_below bTZ HB2.out) 2; dsimp only)
      | (go_simp; go_at_call 145; (with_reducible refine Calls.mono (specRefund_is _ _ _) ?_); rintro e u3 ⟨rfl, rfl⟩; dsimp only))
  obtain ⟨HOY, hQY, HKY, bAY, bTY⟩ := end_price (HKZ.out.trans (Kept.of_below HB2.out)) (HOZ.out.below HB2.out) (blk_below HQZ.out HB2.out) (blk_below bAZ HB2.out) (blk_below bTZ HB2.out) hatb (by omega) (.int .i64 (refundOf (x.bk m).price ((x.sa kk).dep - y.now))) rfl
  obtain ⟨HOF, hQF, HKF, bF⟩ := end_fin HKY HOY hQY bAY (by omega) (.int .i64 0) (.int .i64 ((m : Int) + 1)) (.int .i64 (refundOf (x.bk m).price ((x.sa kk).dep - y.now))) (.slice none 0 0) rfl
  have t0 := blk_cell bTY 0 _ rfl
  have t1 := blk_cell bTY 1 _ rfl
  have t2 := blk_cell bTY 2 _ rfl
  have t3 := blk_cell bTY 3 _ rfl
  have v0 := blk_cell bAY 0 _ rfl
  have v1 := blk_cell bAY 1 _ rfl
  have v2 := blk_cell bAY 2 _ rfl
  have v3 := blk_cell bAY 3 _ rfl
  have e0 := blk_free bAY 0
  have e1 := blk_free bAY 1
  have e2 := blk_free bAY 2
  have e3 := blk_free bAY 3
  have HEND : Hid _ := HOF
  have HEQ : Hid _ := hQF
  have HEK : Hid _ := HKF
  clear HOF hQF HKF
  go_wp2
  have x0 := blk_cell bF 0 _ rfl
  have x1 := blk_cell bF 1 _ rfl
  have x2 := blk_cell bF 2 _ rfl
  have x3 := blk_cell bF 3 _ rfl
  refine bodyPost_ret (v := .agg #[.int .i64 0, .int .i64 ((m : Int) + 1), .int .i64 (refundOf (x.bk m).price ((x.sa kk).dep - y.now)), .slice none 0 0]) (by simp [results, Tryz.results123, go_sem, x0, x1, x2, x3]) rfl ?_
  have hR := HXB.out
  subst hR
  exact ⟨_, _, _, _, rfl, rfl, HEND.out, HEQ.out, HEK.out⟩

end Go.Proofs.YtfallpinmhbemaaGreatDoor

namespace Go.Proofs.YtfallpinmhbemaaGreatDoor
open Go.RowKit

set_option maxHeartbeats 25600000 in
set_option maxRecDepth 100000 in
theorem l7End_7 (g base N R csa cld cbk clg m : Nat) (asa ald abk alg : Option Addr) (bys : Int) (y : OpD) (x : Off) (L C A B D E : Nat → Value) (w : World) (hq : w.heap[g]? = some (.cells #[.slice asa N csa, .slice ald N cld, .slice abk R cbk] 66 (0, 0))) (ho : OwnOff w base (.slice asa N csa) (.slice ald N cld) (.slice abk R cbk) N N R x L C A B D E) (hxb : x.bkn = R) (hbw : base ≤ w.heap.size) (hkd : y.kind = 7) (hpe : In y.pe 0 20) (hln : y.lgn ≤ 3) (hlg : IntsAt w alg y.lgn y.lg) (hsl : SliceOk alg y.lgn clg) (hlo : 0 < y.lgn → ∀ a, alg = some a → a.block < base) (hnm : y.name = (m : Int) + 1) (hm : m < R) (hR : R ≤ 1048576) :
    Calls Tryz.prog 123 #[.pointer (some ⟨g, 0, none⟩), .int .i64 bys, .agg #[.int .i64 y.kind, .string y.own, .int .i64 y.name, .slice alg y.lgn clg, .int .i64 y.pe, .int .i64 y.len, .int .i64 y.hei, .int .i64 y.cl, .bool y.all, .int .i64 y.be, .int .i64 y.unt, .int .i64 y.now]] w fun e w' => EndIs g base N csa cld asa ald (fun b => b = g ∨ (Value.slice abk R cbk).ownBlock = some b) { x with bk := setB x.bk m (endBook (x.bk m) bys y) } 0 y.name (0) (fun _ v => v = .slice none 0 0) L C A B D w e w' := by
  rw [hkd, hnm]
  have HO : Hid (OwnOff w base (.slice asa N csa) (.slice ald N cld) (.slice abk R cbk) N N R x L C A B D E) := ho
  have HQ : Hid (w.heap[g]? = some (.cells #[.slice asa N csa, .slice ald N cld, .slice abk R cbk] 66 (0, 0))) := hq
  have HKD : Hid (y.kind = 7) := hkd
  have HXB : Hid (x.bkn = R) := hxb
  have HBW : Hid (base ≤ w.heap.size) := hbw
  have HLG : Hid (IntsAt w alg y.lgn y.lg) := hlg
  have HSL : Hid (SliceOk alg y.lgn clg) := hsl
  have HLO : Hid (0 < y.lgn → ∀ a, alg = some a → a.block < base) := hlo
  obtain ⟨gb, rfl, hb1, hb2⟩ := own_addr ho.bk.row (by omega)
  obtain ⟨cs, hgb⟩ := own_blockE ho.bk.row gb rfl
  obtain ⟨blg, blc, eE, q1, q2, q3⟩ := own_form (ho.bk.legs m hm)
  obtain ⟨b, hbd⟩ : ∃ b, b = x.bk m := ⟨_, rfl⟩
  have HBD : Hid (b = x.bk m) := hbd
  have HGB : Hid (w.heap[gb]? = some (.cells cs 131 (0, 0))) := hgb
  have HCB : Hid (∀ V, Below w.heap.size w V → ∀ j v, (bkC x.bk E m)[j]? = some v → V.cell? ⟨gb, m * 13 + j, none⟩ = some v) := fun V hV j v hv => by
    have hj : j < 13 := by
      have h := (List.getElem?_eq_some_iff.1 hv).1
      exact h
    have h := own_cell ho.bk.row (m * 13 + j) (by omega) rfl
    rw [recCell_at 13 _ m j hj, List.getD_eq_getElem?_getD, hv] at h
    exact (hV.cell (p := ⟨gb, m * 13 + j, none⟩) hb2).trans h
  have HEM : Hid (E m = .slice blg b.lgn blc) := by rw [hbd]; exact eE
  have i1 : (0 : Int) ≤ (m : Int) := by omega
  have i2 : (m : Int) < (R : Int) := by omega
  have hwm : IntKind.i64.wrap ((m : Int) + 1 - 1) = (m : Int) := by rw [IntKind.wrap_i64]; omega
  have HM : Hid (m < R) := hm
  have HBG : Hid (base ≤ gb) := hb1
  clear hgb eE q1 q2 q3 hbd hb1
  clear ho hq hkd hxb hbw hlg hsl hlo hnm hm
  obtain ⟨pr, hpr⟩ : ∃ pr, pr = priceOf ⟨y.pe, y.len, y.hei, y.cl, y.all, y.be⟩ (y.lgn : Int) := ⟨_, rfl⟩
  have HPR : Hid (pr = priceOf ⟨y.pe, y.len, y.hei, y.cl, y.all, y.be⟩ (y.lgn : Int)) := hpr
  have hb0 : Below w.heap.size w ((w.alloc (.cells #[.int .i64 7, .string y.own, .int .i64 ((m : Int) + 1), .slice alg y.lgn clg, .int .i64 y.pe, .int .i64 y.len, .int .i64 y.hei, .int .i64 y.cl, .bool y.all, .int .i64 y.be, .int .i64 y.unt, .int .i64 y.now] 27)).alloc (.cells #[.int .i64 0, .int .i64 0, .int .i64 0, .slice none 0 0] 127)) := push (push (Below.refl _ _) _) _
  have bO := blk_alloc (heap_alloc_new w (.cells #[.int .i64 7, .string y.own, .int .i64 ((m : Int) + 1), .slice alg y.lgn clg, .int .i64 y.pe, .int .i64 y.len, .int .i64 y.hei, .int .i64 y.cl, .bool y.all, .int .i64 y.be, .int .i64 y.unt, .int .i64 y.now] 27)) (.cells #[.int .i64 0, .int .i64 0, .int .i64 0, .slice none 0 0] 127)
  have bA := new2 w (.cells #[.int .i64 7, .string y.own, .int .i64 ((m : Int) + 1), .slice alg y.lgn clg, .int .i64 y.pe, .int .i64 y.len, .int .i64 y.hei, .int .i64 y.cl, .bool y.all, .int .i64 y.be, .int .i64 y.unt, .int .i64 y.now] 27) (.cells #[.int .i64 0, .int .i64 0, .int .i64 0, .slice none 0 0] 127)
  go_enter Tryz.func123, Tryz.ntmps123
  go_wp2_with fail
  generalize ((w.alloc (.cells #[.int .i64 7, .string y.own, .int .i64 ((m : Int) + 1), .slice alg y.lgn clg, .int .i64 y.pe, .int .i64 y.len, .int .i64 y.hei, .int .i64 y.cl, .bool y.all, .int .i64 y.be, .int .i64 y.unt, .int .i64 y.now] 27)).alloc (.cells #[.int .i64 0, .int .i64 0, .int .i64 0, .slice none 0 0] 127)) = W at hb0 bO bA ⊢
  refine (l6Price0_any y.pe y.len y.hei y.cl y.all y.be (y.lgn : Int) _ hpe (by unfold In; omega)).mono ?_
  rintro e V ⟨rfl, hbv⟩
  rw [← hpr]
  clear hpr
  replace hb0 := after hb0 hbv
  replace bO := blk_below bO hbv
  replace bA := blk_below bA hbv
  clear hbv W
  have o0 := blk_cell bO 0 _ rfl
  have n2 : ∀ G : Grown V, G.val.cell? ⟨g, 2, none⟩ = some (.slice (some ⟨gb, 0, none⟩) R cbk) := fun G => blk_cell (blk_below HQ.out (after hb0 G.bel)) 2 _ rfl
  have m2 : ∀ G : Grown V, G.val.cell? ⟨w.heap.size, 2, none⟩ = some (.int .i64 ((m : Int) + 1)) := fun G => blk_cell (blk_below bO G.bel) 2 _ rfl
  go_upto_region 17 with fail
  refine wp_region_grow (by kernel_rfl) (by kernel_rfl) ?_
  repeat (first | go_big_quiet_skip | (go_big_quiet_want; go_big_quiet_op; first | go_big_quiet_on | fail))
  refine wpQuiet_nil ?_
  rintro _ ⟨G, rfl⟩
  replace hb0 := after hb0 G.bel
  replace bO := blk_below bO G.bel
  replace bA := blk_below bA G.bel
  have hsz := blk_lt bA
  have o2 := blk_cell bO 2 _ rfl
  clear o0 n2 m2
  have o0 : ∀ o, (G.val.alloc o).cell? ⟨w.heap.size, 0, none⟩ = some (.int .i64 7) := fun o => blk_cell (blk_alloc bO o) 0 _ rfl
  go_upto_region 20 with fail
  replace hb0 := push hb0 (.cells #[.int .i64 0, .int .i64 ((m : Int) + 1), .int .i64 0, .slice none 0 0] 127)
  replace bO := blk_alloc bO (.cells #[.int .i64 0, .int .i64 ((m : Int) + 1), .int .i64 0, .slice none 0 0] 127)
  replace bA := blk_alloc bA (.cells #[.int .i64 0, .int .i64 ((m : Int) + 1), .int .i64 0, .slice none 0 0] 127)
  have bT := heap_alloc_new G.val (.cells #[.int .i64 0, .int .i64 ((m : Int) + 1), .int .i64 0, .slice none 0 0] 127)
  generalize G.val.alloc (.cells #[.int .i64 0, .int .i64 ((m : Int) + 1), .int .i64 0, .slice none 0 0] 127) = X at hb0 bO bA bT ⊢
  generalize G.val.heap.size = tb at bT hsz ⊢
  clear o0 o2 G V
  have bGB := blk_below HGB.out hb0
  have k2 := HCB.out X hb0 2 _ rfl
  have f2 := blk_free bGB (m * 13 + 2)
  have t0 := blk_cell bT 0 _ rfl
  have t1 := blk_cell bT 1 _ rfl
  have t2 := blk_cell bT 2 _ rfl
  have t3 := blk_cell bT 3 _ rfl
  have oo1 := blk_cell bO 1 _ rfl
  go_upto_region 38 with fail
  have HNB : Hid (endBook (x.bk m) bys y = { x.bk m with own := y.own }) := by show _ = _; simp [endBook, HKD.out]
  have hkz : Kept X (X.setCell ⟨gb, m * 13 + 2, none⟩ (.string y.own)) (fun b => b = gb) := ((Kept.refl X (fun b => b = gb)).set (a := ⟨gb, m * 13 + 2, none⟩) rfl _)
  have HROW : Hid ((X.setCell ⟨gb, m * 13 + 2, none⟩ (.string y.own)).ownsRow base 131 13 (.slice (some ⟨gb, 0, none⟩) R cbk) R (bkRow (setB x.bk m (endBook (x.bk m) bys y)) (atV E m (E m)) R)) := by
    refine own_congr (own_store ((HO.out.below hb0).bk.row) (m * 13 + 2) (.string y.own)) (fun j _ => rec_put 13 (by decide) (k := m) (C := bkC x.bk E) (C' := bkC (setB x.bk m (endBook (x.bk m) bys y)) (atV E m (E m))) (f := fun i => if i = m * 13 + 2 then (.string y.own : Value) else recCell 13 (bkC x.bk E) i) (fun r hr => ?_) (fun j hj => ?_) (fun i hi => ?_) j)
    · have hR := recCell_at 13 (bkC x.bk E) m r hr
      unfold bkC
      rw [setB_at, atV_at, HNB.out]
      unfold bkC at hR
      have hr13 : r = 0 ∨ r = 1 ∨ r = 2 ∨ r = 3 ∨ r = 4 ∨ r = 5 ∨ r = 6 ∨ r = 7 ∨ r = 8 ∨ r = 9 ∨ r = 10 ∨ r = 11 ∨ r = 12 := by omega
      rcases hr13 with rfl | rfl | rfl | rfl | rfl | rfl | rfl | rfl | rfl | rfl | rfl | rfl | rfl
      · rw [if_neg (by omega), hR]; rfl
      · rw [if_neg (by omega), hR]; rfl
      · rw [if_pos rfl]; rfl
      · rw [if_neg (by omega), hR]; rfl
      · rw [if_neg (by omega), hR]; rfl
      · rw [if_neg (by omega), hR]; rfl
      · rw [if_neg (by omega), hR]; rfl
      · rw [if_neg (by omega), hR]; rfl
      · rw [if_neg (by omega), hR]; rfl
      · rw [if_neg (by omega), hR]; rfl
      · rw [if_neg (by omega), hR]; rfl
      · rw [if_neg (by omega), hR]; rfl
      · rw [if_neg (by omega), hR]; rfl
    · rw [if_neg (by omega)]
    · unfold bkC
      rw [setB_ne _ _ _ hi, atV_ne _ _ _ _ hi]
  have HOZ : Hid (OwnOff (X.setCell ⟨gb, m * 13 + 2, none⟩ (.string y.own)) base (.slice asa N csa) (.slice ald N cld) (.slice (some ⟨gb, 0, none⟩) R cbk) N N R { x with bk := setB x.bk m (endBook (x.bk m) bys y) } L C A B D (atV E m (E m))) := (HO.out.below hb0).putBk hkz HROW.out (by rw [HNB.out]; exact (HO.out.below hb0).bk.legs m HM.out) (HO.out.bk.far_same HM.out)
  have hgg : g ≠ gb := fun e => by have h := HGB.out; rw [← e, HQ.out] at h; simp at h
  have HQZ : Hid ((X.setCell ⟨gb, m * 13 + 2, none⟩ (.string y.own)).heap[g]? = some (.cells #[.slice asa N csa, .slice ald N cld, .slice (some ⟨gb, 0, none⟩) R cbk] 66 (0, 0))) := hkz.blk (blk_below HQ.out hb0) hgg
  have bTZ := hkz.blk bT (by show ¬ _ = _; omega)
  have bAZ := hkz.blk bA (by show ¬ _ = _; omega)
  have HKZ : Hid (Kept w (X.setCell ⟨gb, m * 13 + 2, none⟩ (.string y.own)) (fun b => b = g ∨ (Value.slice (some ⟨gb, 0, none⟩) R cbk).ownBlock = some b)) := (Kept.of_below hb0).trans (hkz.mono (fun b e => .inr (by rw [show b = gb from e]; rfl)))
  generalize (X.setCell ⟨gb, m * 13 + 2, none⟩ (.string y.own)) = Z1 at hkz HROW HOZ HQZ bTZ bAZ HKZ ⊢
  clear hkz HROW bT bA oo1 bO bGB t0 t1 t2 t3 k2 f2
  have hatb : w.heap.size + 1 ≠ tb := by omega
  obtain ⟨HOF, hQF, HKF, bF⟩ := end_fin HKZ.out HOZ.out HQZ.out bAZ (by omega) (.int .i64 0) (.int .i64 ((m : Int) + 1)) (.int .i64 0) (.slice none 0 0) rfl
  have t0 := blk_cell bTZ 0 _ rfl
  have t1 := blk_cell bTZ 1 _ rfl
  have t2 := blk_cell bTZ 2 _ rfl
  have t3 := blk_cell bTZ 3 _ rfl
  have v0 := blk_cell bAZ 0 _ rfl
  have v1 := blk_cell bAZ 1 _ rfl
  have v2 := blk_cell bAZ 2 _ rfl
  have v3 := blk_cell bAZ 3 _ rfl
  have e0 := blk_free bAZ 0
  have e1 := blk_free bAZ 1
  have e2 := blk_free bAZ 2
  have e3 := blk_free bAZ 3
  have HEND : Hid _ := HOF
  have HEQ : Hid _ := hQF
  have HEK : Hid _ := HKF
  clear HOF hQF HKF
  go_wp2
  have x0 := blk_cell bF 0 _ rfl
  have x1 := blk_cell bF 1 _ rfl
  have x2 := blk_cell bF 2 _ rfl
  have x3 := blk_cell bF 3 _ rfl
  refine bodyPost_ret (v := .agg #[.int .i64 0, .int .i64 ((m : Int) + 1), .int .i64 (0), .slice none 0 0]) (by simp [results, Tryz.results123, go_sem, x0, x1, x2, x3]) rfl ?_
  have hR := HXB.out
  subst hR
  exact ⟨_, _, _, _, rfl, rfl, HEND.out, HEQ.out, HEK.out⟩

end Go.Proofs.YtfallpinmhbemaaGreatDoor

namespace Go.Proofs.YtfallpinmhbemaaGreatDoor
open Go.RowKit

set_option maxHeartbeats 25600000 in
set_option maxRecDepth 100000 in
theorem l7End_8 (g base N R csa cld cbk clg m : Nat) (asa ald abk alg : Option Addr) (bys : Int) (y : OpD) (x : Off) (L C A B D E : Nat → Value) (w : World) (hq : w.heap[g]? = some (.cells #[.slice asa N csa, .slice ald N cld, .slice abk R cbk] 66 (0, 0))) (ho : OwnOff w base (.slice asa N csa) (.slice ald N cld) (.slice abk R cbk) N N R x L C A B D E) (hxb : x.bkn = R) (hbw : base ≤ w.heap.size) (hkd : y.kind = 8) (hpe : In y.pe 0 20) (hln : y.lgn ≤ 3) (hlg : IntsAt w alg y.lgn y.lg) (hsl : SliceOk alg y.lgn clg) (hlo : 0 < y.lgn → ∀ a, alg = some a → a.block < base) (hnm : y.name = (m : Int) + 1) (hm : m < R) (hR : R ≤ 1048576) :
    Calls Tryz.prog 123 #[.pointer (some ⟨g, 0, none⟩), .int .i64 bys, .agg #[.int .i64 y.kind, .string y.own, .int .i64 y.name, .slice alg y.lgn clg, .int .i64 y.pe, .int .i64 y.len, .int .i64 y.hei, .int .i64 y.cl, .bool y.all, .int .i64 y.be, .int .i64 y.unt, .int .i64 y.now]] w fun e w' => EndIs g base N csa cld asa ald (fun b => b = g ∨ (Value.slice abk R cbk).ownBlock = some b) { x with bk := setB x.bk m (endBook (x.bk m) bys y) } 0 y.name (0) (fun _ v => v = .slice none 0 0) L C A B D w e w' := by
  rw [hkd, hnm]
  have HO : Hid (OwnOff w base (.slice asa N csa) (.slice ald N cld) (.slice abk R cbk) N N R x L C A B D E) := ho
  have HQ : Hid (w.heap[g]? = some (.cells #[.slice asa N csa, .slice ald N cld, .slice abk R cbk] 66 (0, 0))) := hq
  have HKD : Hid (y.kind = 8) := hkd
  have HXB : Hid (x.bkn = R) := hxb
  have HBW : Hid (base ≤ w.heap.size) := hbw
  have HLG : Hid (IntsAt w alg y.lgn y.lg) := hlg
  have HSL : Hid (SliceOk alg y.lgn clg) := hsl
  have HLO : Hid (0 < y.lgn → ∀ a, alg = some a → a.block < base) := hlo
  obtain ⟨gb, rfl, hb1, hb2⟩ := own_addr ho.bk.row (by omega)
  obtain ⟨cs, hgb⟩ := own_blockE ho.bk.row gb rfl
  obtain ⟨blg, blc, eE, q1, q2, q3⟩ := own_form (ho.bk.legs m hm)
  obtain ⟨b, hbd⟩ : ∃ b, b = x.bk m := ⟨_, rfl⟩
  have HBD : Hid (b = x.bk m) := hbd
  have HGB : Hid (w.heap[gb]? = some (.cells cs 131 (0, 0))) := hgb
  have HCB : Hid (∀ V, Below w.heap.size w V → ∀ j v, (bkC x.bk E m)[j]? = some v → V.cell? ⟨gb, m * 13 + j, none⟩ = some v) := fun V hV j v hv => by
    have hj : j < 13 := by
      have h := (List.getElem?_eq_some_iff.1 hv).1
      exact h
    have h := own_cell ho.bk.row (m * 13 + j) (by omega) rfl
    rw [recCell_at 13 _ m j hj, List.getD_eq_getElem?_getD, hv] at h
    exact (hV.cell (p := ⟨gb, m * 13 + j, none⟩) hb2).trans h
  have HEM : Hid (E m = .slice blg b.lgn blc) := by rw [hbd]; exact eE
  have i1 : (0 : Int) ≤ (m : Int) := by omega
  have i2 : (m : Int) < (R : Int) := by omega
  have hwm : IntKind.i64.wrap ((m : Int) + 1 - 1) = (m : Int) := by rw [IntKind.wrap_i64]; omega
  have HM : Hid (m < R) := hm
  have HBG : Hid (base ≤ gb) := hb1
  clear hgb eE q1 q2 q3 hbd hb1
  clear ho hq hkd hxb hbw hlg hsl hlo hnm hm
  obtain ⟨pr, hpr⟩ : ∃ pr, pr = priceOf ⟨y.pe, y.len, y.hei, y.cl, y.all, y.be⟩ (y.lgn : Int) := ⟨_, rfl⟩
  have HPR : Hid (pr = priceOf ⟨y.pe, y.len, y.hei, y.cl, y.all, y.be⟩ (y.lgn : Int)) := hpr
  have hb0 : Below w.heap.size w ((w.alloc (.cells #[.int .i64 8, .string y.own, .int .i64 ((m : Int) + 1), .slice alg y.lgn clg, .int .i64 y.pe, .int .i64 y.len, .int .i64 y.hei, .int .i64 y.cl, .bool y.all, .int .i64 y.be, .int .i64 y.unt, .int .i64 y.now] 27)).alloc (.cells #[.int .i64 0, .int .i64 0, .int .i64 0, .slice none 0 0] 127)) := push (push (Below.refl _ _) _) _
  have bO := blk_alloc (heap_alloc_new w (.cells #[.int .i64 8, .string y.own, .int .i64 ((m : Int) + 1), .slice alg y.lgn clg, .int .i64 y.pe, .int .i64 y.len, .int .i64 y.hei, .int .i64 y.cl, .bool y.all, .int .i64 y.be, .int .i64 y.unt, .int .i64 y.now] 27)) (.cells #[.int .i64 0, .int .i64 0, .int .i64 0, .slice none 0 0] 127)
  have bA := new2 w (.cells #[.int .i64 8, .string y.own, .int .i64 ((m : Int) + 1), .slice alg y.lgn clg, .int .i64 y.pe, .int .i64 y.len, .int .i64 y.hei, .int .i64 y.cl, .bool y.all, .int .i64 y.be, .int .i64 y.unt, .int .i64 y.now] 27) (.cells #[.int .i64 0, .int .i64 0, .int .i64 0, .slice none 0 0] 127)
  go_enter Tryz.func123, Tryz.ntmps123
  go_wp2_with fail
  generalize ((w.alloc (.cells #[.int .i64 8, .string y.own, .int .i64 ((m : Int) + 1), .slice alg y.lgn clg, .int .i64 y.pe, .int .i64 y.len, .int .i64 y.hei, .int .i64 y.cl, .bool y.all, .int .i64 y.be, .int .i64 y.unt, .int .i64 y.now] 27)).alloc (.cells #[.int .i64 0, .int .i64 0, .int .i64 0, .slice none 0 0] 127)) = W at hb0 bO bA ⊢
  refine (l6Price0_any y.pe y.len y.hei y.cl y.all y.be (y.lgn : Int) _ hpe (by unfold In; omega)).mono ?_
  rintro e V ⟨rfl, hbv⟩
  rw [← hpr]
  clear hpr
  replace hb0 := after hb0 hbv
  replace bO := blk_below bO hbv
  replace bA := blk_below bA hbv
  clear hbv W
  have o0 := blk_cell bO 0 _ rfl
  have n2 : ∀ G : Grown V, G.val.cell? ⟨g, 2, none⟩ = some (.slice (some ⟨gb, 0, none⟩) R cbk) := fun G => blk_cell (blk_below HQ.out (after hb0 G.bel)) 2 _ rfl
  have m2 : ∀ G : Grown V, G.val.cell? ⟨w.heap.size, 2, none⟩ = some (.int .i64 ((m : Int) + 1)) := fun G => blk_cell (blk_below bO G.bel) 2 _ rfl
  go_upto_region 17 with fail
  refine wp_region_grow (by kernel_rfl) (by kernel_rfl) ?_
  repeat (first | go_big_quiet_skip | (go_big_quiet_want; go_big_quiet_op; first | go_big_quiet_on | fail))
  refine wpQuiet_nil ?_
  rintro _ ⟨G, rfl⟩
  replace hb0 := after hb0 G.bel
  replace bO := blk_below bO G.bel
  replace bA := blk_below bA G.bel
  have hsz := blk_lt bA
  have o2 := blk_cell bO 2 _ rfl
  clear o0 n2 m2
  have o0 : ∀ o, (G.val.alloc o).cell? ⟨w.heap.size, 0, none⟩ = some (.int .i64 8) := fun o => blk_cell (blk_alloc bO o) 0 _ rfl
  go_upto_region 20 with fail
  replace hb0 := push hb0 (.cells #[.int .i64 0, .int .i64 ((m : Int) + 1), .int .i64 0, .slice none 0 0] 127)
  replace bO := blk_alloc bO (.cells #[.int .i64 0, .int .i64 ((m : Int) + 1), .int .i64 0, .slice none 0 0] 127)
  replace bA := blk_alloc bA (.cells #[.int .i64 0, .int .i64 ((m : Int) + 1), .int .i64 0, .slice none 0 0] 127)
  have bT := heap_alloc_new G.val (.cells #[.int .i64 0, .int .i64 ((m : Int) + 1), .int .i64 0, .slice none 0 0] 127)
  generalize G.val.alloc (.cells #[.int .i64 0, .int .i64 ((m : Int) + 1), .int .i64 0, .slice none 0 0] 127) = X at hb0 bO bA bT ⊢
  generalize G.val.heap.size = tb at bT hsz ⊢
  clear o0 o2 G V
  have bGB := blk_below HGB.out hb0
  have k10 := HCB.out X hb0 10 _ rfl
  have f10 := blk_free bGB (m * 13 + 10)
  have t0 := blk_cell bT 0 _ rfl
  have t1 := blk_cell bT 1 _ rfl
  have t2 := blk_cell bT 2 _ rfl
  have t3 := blk_cell bT 3 _ rfl
  go_upto_region 38 with fail
  have HNB : Hid (endBook (x.bk m) bys y = { x.bk m with state := 4 }) := by show _ = _; simp [endBook, HKD.out]
  have hkz : Kept X (X.setCell ⟨gb, m * 13 + 10, none⟩ (.int .i64 4)) (fun b => b = gb) := ((Kept.refl X (fun b => b = gb)).set (a := ⟨gb, m * 13 + 10, none⟩) rfl _)
  have HROW : Hid ((X.setCell ⟨gb, m * 13 + 10, none⟩ (.int .i64 4)).ownsRow base 131 13 (.slice (some ⟨gb, 0, none⟩) R cbk) R (bkRow (setB x.bk m (endBook (x.bk m) bys y)) (atV E m (E m)) R)) := by
    refine own_congr (own_store ((HO.out.below hb0).bk.row) (m * 13 + 10) (.int .i64 4)) (fun j _ => rec_put 13 (by decide) (k := m) (C := bkC x.bk E) (C' := bkC (setB x.bk m (endBook (x.bk m) bys y)) (atV E m (E m))) (f := fun i => if i = m * 13 + 10 then (.int .i64 4 : Value) else recCell 13 (bkC x.bk E) i) (fun r hr => ?_) (fun j hj => ?_) (fun i hi => ?_) j)
    · have hR := recCell_at 13 (bkC x.bk E) m r hr
      unfold bkC
      rw [setB_at, atV_at, HNB.out]
      unfold bkC at hR
      have hr13 : r = 0 ∨ r = 1 ∨ r = 2 ∨ r = 3 ∨ r = 4 ∨ r = 5 ∨ r = 6 ∨ r = 7 ∨ r = 8 ∨ r = 9 ∨ r = 10 ∨ r = 11 ∨ r = 12 := by omega
      rcases hr13 with rfl | rfl | rfl | rfl | rfl | rfl | rfl | rfl | rfl | rfl | rfl | rfl | rfl
      · rw [if_neg (by omega), hR]; rfl
      · rw [if_neg (by omega), hR]; rfl
      · rw [if_neg (by omega), hR]; rfl
      · rw [if_neg (by omega), hR]; rfl
      · rw [if_neg (by omega), hR]; rfl
      · rw [if_neg (by omega), hR]; rfl
      · rw [if_neg (by omega), hR]; rfl
      · rw [if_neg (by omega), hR]; rfl
      · rw [if_neg (by omega), hR]; rfl
      · rw [if_neg (by omega), hR]; rfl
      · rw [if_pos rfl]; rfl
      · rw [if_neg (by omega), hR]; rfl
      · rw [if_neg (by omega), hR]; rfl
    · rw [if_neg (by omega)]
    · unfold bkC
      rw [setB_ne _ _ _ hi, atV_ne _ _ _ _ hi]
  have HOZ : Hid (OwnOff (X.setCell ⟨gb, m * 13 + 10, none⟩ (.int .i64 4)) base (.slice asa N csa) (.slice ald N cld) (.slice (some ⟨gb, 0, none⟩) R cbk) N N R { x with bk := setB x.bk m (endBook (x.bk m) bys y) } L C A B D (atV E m (E m))) := (HO.out.below hb0).putBk hkz HROW.out (by rw [HNB.out]; exact (HO.out.below hb0).bk.legs m HM.out) (HO.out.bk.far_same HM.out)
  have hgg : g ≠ gb := fun e => by have h := HGB.out; rw [← e, HQ.out] at h; simp at h
  have HQZ : Hid ((X.setCell ⟨gb, m * 13 + 10, none⟩ (.int .i64 4)).heap[g]? = some (.cells #[.slice asa N csa, .slice ald N cld, .slice (some ⟨gb, 0, none⟩) R cbk] 66 (0, 0))) := hkz.blk (blk_below HQ.out hb0) hgg
  have bTZ := hkz.blk bT (by show ¬ _ = _; omega)
  have bAZ := hkz.blk bA (by show ¬ _ = _; omega)
  have HKZ : Hid (Kept w (X.setCell ⟨gb, m * 13 + 10, none⟩ (.int .i64 4)) (fun b => b = g ∨ (Value.slice (some ⟨gb, 0, none⟩) R cbk).ownBlock = some b)) := (Kept.of_below hb0).trans (hkz.mono (fun b e => .inr (by rw [show b = gb from e]; rfl)))
  generalize (X.setCell ⟨gb, m * 13 + 10, none⟩ (.int .i64 4)) = Z1 at hkz HROW HOZ HQZ bTZ bAZ HKZ ⊢
  clear hkz HROW bT bA bO bGB t0 t1 t2 t3 k10 f10
  have hatb : w.heap.size + 1 ≠ tb := by omega
  obtain ⟨HOF, hQF, HKF, bF⟩ := end_fin HKZ.out HOZ.out HQZ.out bAZ (by omega) (.int .i64 0) (.int .i64 ((m : Int) + 1)) (.int .i64 0) (.slice none 0 0) rfl
  have t0 := blk_cell bTZ 0 _ rfl
  have t1 := blk_cell bTZ 1 _ rfl
  have t2 := blk_cell bTZ 2 _ rfl
  have t3 := blk_cell bTZ 3 _ rfl
  have v0 := blk_cell bAZ 0 _ rfl
  have v1 := blk_cell bAZ 1 _ rfl
  have v2 := blk_cell bAZ 2 _ rfl
  have v3 := blk_cell bAZ 3 _ rfl
  have e0 := blk_free bAZ 0
  have e1 := blk_free bAZ 1
  have e2 := blk_free bAZ 2
  have e3 := blk_free bAZ 3
  have HEND : Hid _ := HOF
  have HEQ : Hid _ := hQF
  have HEK : Hid _ := HKF
  clear HOF hQF HKF
  go_wp2
  have x0 := blk_cell bF 0 _ rfl
  have x1 := blk_cell bF 1 _ rfl
  have x2 := blk_cell bF 2 _ rfl
  have x3 := blk_cell bF 3 _ rfl
  refine bodyPost_ret (v := .agg #[.int .i64 0, .int .i64 ((m : Int) + 1), .int .i64 (0), .slice none 0 0]) (by simp [results, Tryz.results123, go_sem, x0, x1, x2, x3]) rfl ?_
  have hR := HXB.out
  subst hR
  exact ⟨_, _, _, _, rfl, rfl, HEND.out, HEQ.out, HEK.out⟩

end Go.Proofs.YtfallpinmhbemaaGreatDoor

namespace Go.Proofs.YtfallpinmhbemaaGreatDoor
open Go.RowKit

set_option maxHeartbeats 25600000 in
set_option maxRecDepth 100000 in
theorem l7End_1 (g base N R csa cld cbk clg : Nat) (asa ald abk alg : Option Addr) (bys : Int) (y : OpD) (x : Off) (L C A B D E : Nat → Value) (w : World) (hq : w.heap[g]? = some (.cells #[.slice asa N csa, .slice ald N cld, .slice abk R cbk] 66 (0, 0))) (ho : OwnOff w base (.slice asa N csa) (.slice ald N cld) (.slice abk R cbk) N N R x L C A B D E) (hxb : x.bkn = R) (hbw : base ≤ w.heap.size) (hkd : y.kind = 1) (hpe : In y.pe 0 20) (hln : y.lgn ≤ 3) (hlg : IntsAt w alg y.lgn y.lg) (hsl : SliceOk alg y.lgn clg) (hlo : 0 < y.lgn → ∀ a, alg = some a → a.block < base) :
    Calls Tryz.prog 123 #[.pointer (some ⟨g, 0, none⟩), .int .i64 bys, .agg #[.int .i64 y.kind, .string y.own, .int .i64 y.name, .slice alg y.lgn clg, .int .i64 y.pe, .int .i64 y.len, .int .i64 y.hei, .int .i64 y.cl, .bool y.all, .int .i64 y.be, .int .i64 y.unt, .int .i64 y.now]] w fun e w' => EndIs g base N csa cld asa ald (fun _ => False) x 0 0 (priceOf ⟨y.pe, y.len, y.hei, y.cl, y.all, y.be⟩ (y.lgn : Int)) (fun _ v => v = .slice none 0 0) L C A B D w e w' := by
  rw [hkd]
  have HO : Hid (OwnOff w base (.slice asa N csa) (.slice ald N cld) (.slice abk R cbk) N N R x L C A B D E) := ho
  have HQ : Hid (w.heap[g]? = some (.cells #[.slice asa N csa, .slice ald N cld, .slice abk R cbk] 66 (0, 0))) := hq
  have HKD : Hid (y.kind = 1) := hkd
  have HXB : Hid (x.bkn = R) := hxb
  have HBW : Hid (base ≤ w.heap.size) := hbw
  have HLG : Hid (IntsAt w alg y.lgn y.lg) := hlg
  have HSL : Hid (SliceOk alg y.lgn clg) := hsl
  have HLO : Hid (0 < y.lgn → ∀ a, alg = some a → a.block < base) := hlo
  clear ho hq hkd hxb hbw hlg hsl hlo
  obtain ⟨pr, hpr⟩ : ∃ pr, pr = priceOf ⟨y.pe, y.len, y.hei, y.cl, y.all, y.be⟩ (y.lgn : Int) := ⟨_, rfl⟩
  have HPR : Hid (pr = priceOf ⟨y.pe, y.len, y.hei, y.cl, y.all, y.be⟩ (y.lgn : Int)) := hpr
  have hb0 : Below w.heap.size w ((w.alloc (.cells #[.int .i64 1, .string y.own, .int .i64 y.name, .slice alg y.lgn clg, .int .i64 y.pe, .int .i64 y.len, .int .i64 y.hei, .int .i64 y.cl, .bool y.all, .int .i64 y.be, .int .i64 y.unt, .int .i64 y.now] 27)).alloc (.cells #[.int .i64 0, .int .i64 0, .int .i64 0, .slice none 0 0] 127)) := push (push (Below.refl _ _) _) _
  have bO := blk_alloc (heap_alloc_new w (.cells #[.int .i64 1, .string y.own, .int .i64 y.name, .slice alg y.lgn clg, .int .i64 y.pe, .int .i64 y.len, .int .i64 y.hei, .int .i64 y.cl, .bool y.all, .int .i64 y.be, .int .i64 y.unt, .int .i64 y.now] 27)) (.cells #[.int .i64 0, .int .i64 0, .int .i64 0, .slice none 0 0] 127)
  have bA := new2 w (.cells #[.int .i64 1, .string y.own, .int .i64 y.name, .slice alg y.lgn clg, .int .i64 y.pe, .int .i64 y.len, .int .i64 y.hei, .int .i64 y.cl, .bool y.all, .int .i64 y.be, .int .i64 y.unt, .int .i64 y.now] 27) (.cells #[.int .i64 0, .int .i64 0, .int .i64 0, .slice none 0 0] 127)
  go_enter Tryz.func123, Tryz.ntmps123
  go_wp2_with fail
  generalize ((w.alloc (.cells #[.int .i64 1, .string y.own, .int .i64 y.name, .slice alg y.lgn clg, .int .i64 y.pe, .int .i64 y.len, .int .i64 y.hei, .int .i64 y.cl, .bool y.all, .int .i64 y.be, .int .i64 y.unt, .int .i64 y.now] 27)).alloc (.cells #[.int .i64 0, .int .i64 0, .int .i64 0, .slice none 0 0] 127)) = W at hb0 bO bA ⊢
  refine (l6Price0_any y.pe y.len y.hei y.cl y.all y.be (y.lgn : Int) _ hpe (by unfold In; omega)).mono ?_
  rintro e V ⟨rfl, hbv⟩
  rw [← hpr]
  clear hpr
  replace hb0 := after hb0 hbv
  replace bO := blk_below bO hbv
  replace bA := blk_below bA hbv
  clear hbv W
  have o0 := blk_cell bO 0 _ rfl
  obtain ⟨HOF, hQF, HKF, bF⟩ := end_fin (T := (fun _ => False)) (Kept.of_below hb0) (HO.out.below hb0) (blk_below HQ.out hb0) bA (by omega) (.int .i64 0) (.int .i64 0) (.int .i64 pr) (.slice none 0 0) rfl
  have v0 := blk_cell bA 0 _ rfl
  have e0 := blk_free bA 0
  have v1 := blk_cell bA 1 _ rfl
  have e1 := blk_free bA 1
  have v2 := blk_cell bA 2 _ rfl
  have e2 := blk_free bA 2
  have v3 := blk_cell bA 3 _ rfl
  have e3 := blk_free bA 3
  have HEND : Hid _ := HOF
  have HEQ : Hid _ := hQF
  have HEK : Hid _ := HKF
  clear HOF hQF HKF
  go_wp2
  have x0 := blk_cell bF 0 _ rfl
  have x1 := blk_cell bF 1 _ rfl
  have x2 := blk_cell bF 2 _ rfl
  have x3 := blk_cell bF 3 _ rfl
  refine bodyPost_ret (v := .agg #[.int .i64 0, .int .i64 0, .int .i64 pr, .slice none 0 0]) (by simp [results, Tryz.results123, go_sem, x0, x1, x2, x3]) rfl ?_
  have hR := HXB.out
  subst hR
  rw [HPR.out] at HEND HEQ HEK ⊢
  exact ⟨_, _, _, _, rfl, rfl, HEND.out, HEQ.out, HEK.out⟩

end Go.Proofs.YtfallpinmhbemaaGreatDoor
