/-
  OWN TEXT: LBooking, LBookings, KitVw, KitVt.
-/
import Derived.Deep.RegionHeld3
import Derived.Deep.DeepCutAuto
import Derived.Test.YtlelckbeoclhbaaGreatB06
import Derived.Test.YtlelckbeoclhbaaGreatB07
import Derived.Test.YtlelckbeoclhbaaGreatB01
import Derived.Test.YtlelckbeoclhbaaGreatB05
set_option maxHeartbeats 12800000
set_option maxRecDepth 100000
namespace Go.Proofs.YtlelckbeoclhbaaGreat
open Go.RowKit
theorem booking_set_3_4 {w : World} {g t : Nat} {u0 u1 u2 u3 u4 u5 u6 u7 u8 u9 u10 u11 u12 v3 : Value} (h : w.heap[g]? = some (.cells #[u0, u1, u2, u3, u4, u5, u6, u7, u8, u9, u10, u11, u12] t (0, 0))) : (setFrom w g 3 [v3]).heap[g]? = some (.cells #[u0, u1, u2, v3, u4, u5, u6, u7, u8, u9, u10, u11, u12] t (0, 0)) := by
  have := (blk_set h 3 v3)
  simp only [setFrom]
  simpa using this
theorem booking_set_4_13 {w : World} {g t : Nat} {u0 u1 u2 u3 u4 u5 u6 u7 u8 u9 u10 u11 u12 v4 v5 v6 v7 v8 v9 v10 v11 v12 : Value} (h : w.heap[g]? = some (.cells #[u0, u1, u2, u3, u4, u5, u6, u7, u8, u9, u10, u11, u12] t (0, 0))) : (setFrom w g 4 [v4, v5, v6, v7, v8, v9, v10, v11, v12]).heap[g]? = some (.cells #[u0, u1, u2, u3, v4, v5, v6, v7, v8, v9, v10, v11, v12] t (0, 0)) := by
  have := (blk_set (blk_set (blk_set (blk_set (blk_set (blk_set (blk_set (blk_set (blk_set h 4 v4) 5 v5) 6 v6) 7 v7) 8 v8) 9 v9) 10 v10) 11 v11) 12 v12)
  simp only [setFrom]
  simpa using this
theorem booking_set_0_13 {w : World} {g t : Nat} {u0 u1 u2 u3 u4 u5 u6 u7 u8 u9 u10 u11 u12 v0 v1 v2 v3 v4 v5 v6 v7 v8 v9 v10 v11 v12 : Value} (h : w.heap[g]? = some (.cells #[u0, u1, u2, u3, u4, u5, u6, u7, u8, u9, u10, u11, u12] t (0, 0))) : (setFrom w g 0 [v0, v1, v2, v3, v4, v5, v6, v7, v8, v9, v10, v11, v12]).heap[g]? = some (.cells #[v0, v1, v2, v3, v4, v5, v6, v7, v8, v9, v10, v11, v12] t (0, 0)) := by
  have := (blk_set (blk_set (blk_set (blk_set (blk_set (blk_set (blk_set (blk_set (blk_set (blk_set (blk_set (blk_set (blk_set h 0 v0) 1 v1) 2 v2) 3 v3) 4 v4) 5 v5) 6 v6) 7 v7) 8 v8) 9 v9) 10 v10) 11 v11) 12 v12)
  simp only [setFrom]
  simpa using this
theorem szBooking_raw (name : Int) (who : Int) (own : ByteArray) (alg : Option Addr) (lgn clg : Nat) (pe : Int) (len : Int) (hei : Int) (cl : Int) (all : Bool) (be : Int) (state : Int) (unt : Int) (price : Int) (L : Int) (w : World) (h0 : 0 ≤ L) (hL : L ≤ 1048576) (bown : own.size ≤ 1000000000000000) (blg : lgn ≤ 1000000000000000) :
    Calls Tryz.prog 47 #[.agg #[.int .i64 name, .int .i64 who, .string own, .slice alg lgn clg, .int .i64 pe, .int .i64 len, .int .i64 hei, .int .i64 cl, .bool all, .int .i64 be, .int .i64 state, .int .i64 unt, .int .i64 price], .int .i64 L] w fun e w' => ∃ r : Int, e = .returned (.int .i64 r) ∧ (r = -1 ∨ (0 ≤ r ∧ r ≤ L ∧ own.size ≤ 1048576 ∧ lgn ≤ 1048576)) ∧ Below w.heap.size w w' := by
  have hb0 : Below w.heap.size w (w.alloc (.cells #[.int .i64 name, .int .i64 who, .string own, .slice alg lgn clg, .int .i64 pe, .int .i64 len, .int .i64 hei, .int .i64 cl, .bool all, .int .i64 be, .int .i64 state, .int .i64 unt, .int .i64 price] 105)) := push (Below.refl _ _) _
  have hA0 := heap_alloc_new w (.cells #[.int .i64 name, .int .i64 who, .string own, .slice alg lgn clg, .int .i64 pe, .int .i64 len, .int .i64 hei, .int .i64 cl, .bool all, .int .i64 be, .int .i64 state, .int .i64 unt, .int .i64 price] 105)
  by_cases gown : (own.size : Int) ≤ L
  · have eown : decide (L - (own.size : Int) < 0) = false := by simp; omega
    go_enter Tryz.func47, Tryz.ntmps47
    go_wp2_with fail
    refine (szIntS_any alg lgn clg (L - (own.size : Int)) _ (by omega) (by omega) blg).mono ?_
    rintro e w1 ⟨r1, rfl, hr1, hb1'⟩
    have hA1' := blk_below hA0 hb1'
    have hbb1 := after hb0 hb1'
    rcases hr1 with rfl | ⟨r10, r11, r12⟩
    · go_wp2
      go_ret
      exact ⟨_, rfl, .inl rfl, hbb1⟩
    · have d1 : decide (r1 < 0) = false := by simpa using r10
      go_wp2
      go_ret
      exact ⟨_, rfl, .inr ⟨by omega, by omega, by omega, r12⟩, hbb1⟩
  · have eown : decide (L - (own.size : Int) < 0) = true := by simp; omega
    go_enter Tryz.func47, Tryz.ntmps47
    go_wp2
    go_ret
    exact ⟨_, rfl, .inl rfl, hb0⟩
theorem toBooking_raw (name : Int) (who : Int) (own : ByteArray) (alg : Option Addr) (lgn clg : Nat) (lg : Nat → Int) (pe : Int) (len : Int) (hei : Int) (cl : Int) (all : Bool) (be : Int) (state : Int) (unt : Int) (price : Int) (w : World) (nlg : lgn ≤ 1048576) (hlg : IntsAt w alg lgn lg) :
    Calls Tryz.prog 60 #[.agg #[.int .i64 name, .int .i64 who, .string own, .slice alg lgn clg, .int .i64 pe, .int .i64 len, .int .i64 hei, .int .i64 cl, .bool all, .int .i64 be, .int .i64 state, .int .i64 unt, .int .i64 price]] w fun e w' => ∃ llg, e = .returned (.agg #[.int .i64 name, .int .i64 who, .string own, .slice (some ⟨llg, 0, none⟩) lgn lgn, .int .i64 pe, .int .i64 len, .int .i64 hei, .int .i64 cl, .bool all, .int .i64 be, .int .i64 state, .int .i64 unt, .int .i64 price]) ∧ (w.heap.size ≤ llg ∧ llg < w'.heap.size ∧ w'.rowIs llg 3 lgn (fun k => .int .i64 (lg k))) ∧ Below w.heap.size w w' := by
  go_enter Tryz.func60, Tryz.ntmps60
  go_wp2_with fail
  obtain ⟨W0, hW0⟩ : ∃ W, W = (((w.alloc (.cells #[.int .i64 name, .int .i64 who, .string own, .slice alg lgn clg, .int .i64 pe, .int .i64 len, .int .i64 hei, .int .i64 cl, .bool all, .int .i64 be, .int .i64 state, .int .i64 unt, .int .i64 price] 105)).alloc (.cells #[.int .i64 0, .int .i64 0, .string ⟨#[]⟩, .slice none 0 0, .int .i64 0, .int .i64 0, .int .i64 0, .int .i64 0, .bool false, .int .i64 0, .int .i64 0, .int .i64 0, .int .i64 0] 72)).alloc (.cells #[.int .i64 name, .int .i64 who, .string own, .slice none 0 0, .int .i64 0, .int .i64 0, .int .i64 0, .int .i64 0, .bool false, .int .i64 0, .int .i64 0, .int .i64 0, .int .i64 0] 72)) := ⟨_, rfl⟩
  have H0 : Below w.heap.size w W0 := by rw [hW0]; exact push (push (push (Below.refl _ _) _) _) _
  have A0 : W0.heap[w.heap.size]? = some (.cells #[.int .i64 name, .int .i64 who, .string own, .slice alg lgn clg, .int .i64 pe, .int .i64 len, .int .i64 hei, .int .i64 cl, .bool all, .int .i64 be, .int .i64 state, .int .i64 unt, .int .i64 price] 105 (0, 0)) := by rw [hW0]; exact blk_alloc (blk_alloc (heap_alloc_new w _) _) _
  have R0 : W0.heap[w.heap.size + 1]? = some (.cells #[.int .i64 0, .int .i64 0, .string ⟨#[]⟩, .slice none 0 0, .int .i64 0, .int .i64 0, .int .i64 0, .int .i64 0, .bool false, .int .i64 0, .int .i64 0, .int .i64 0, .int .i64 0] 72 (0, 0)) := by rw [hW0]; exact blk_alloc (by simpa using heap_alloc_new (w.alloc _) _) _
  have O0 : W0.heap[w.heap.size + 1 + 1]? = some (.cells #[.int .i64 name, .int .i64 who, .string own, .slice none 0 0, .int .i64 0, .int .i64 0, .int .i64 0, .int .i64 0, .bool false, .int .i64 0, .int .i64 0, .int .i64 0, .int .i64 0] 72 (0, 0)) := by rw [hW0]; simpa using heap_alloc_new ((w.alloc _).alloc _) _
  rw [← hW0]
  clear hW0
  refine (toIntS_any alg lgn clg lg _ nlg (hlg.below H0)).mono ?_
  rintro e v0 ⟨llg, rfl, gllg, rowlg, hb0⟩
  have Av0 := blk_below A0 hb0
  have Rv0 := blk_below R0 hb0
  have Ov0 := blk_below O0 hb0
  have Hv0 := after H0 hb0
  have gtlg : w.heap.size + 1 + 1 < llg := by have := blk_lt O0; omega
  have gelg : w.heap.size ≤ llg := by omega
  clear A0 R0 O0 H0 hb0 gllg
  have qa4 := blk_cell Av0 4 _ rfl
  have qa5 := blk_cell Av0 5 _ rfl
  have qa6 := blk_cell Av0 6 _ rfl
  have qa7 := blk_cell Av0 7 _ rfl
  have qa8 := blk_cell Av0 8 _ rfl
  have qa9 := blk_cell Av0 9 _ rfl
  have fo3 := blk_free Ov0 3
  have qo3 := blk_cell Ov0 3 _ rfl
  go_wp2_with fail
  clear qa4 qa5 qa6 qa7 qa8 qa9 fo3 qo3
  obtain ⟨W1, hW1⟩ : ∃ W, W = setFrom v0 (w.heap.size + 1 + 1) 3 [.slice (some ⟨llg, 0, none⟩) lgn lgn] := ⟨_, rfl⟩
  have A1 : W1.heap[w.heap.size]? = some (.cells #[.int .i64 name, .int .i64 who, .string own, .slice alg lgn clg, .int .i64 pe, .int .i64 len, .int .i64 hei, .int .i64 cl, .bool all, .int .i64 be, .int .i64 state, .int .i64 unt, .int .i64 price] 105 (0, 0)) := by rw [hW1]; exact setFrom_blk_other (by omega) _ _ _ Av0
  have R1 : W1.heap[w.heap.size + 1]? = some (.cells #[.int .i64 0, .int .i64 0, .string ⟨#[]⟩, .slice none 0 0, .int .i64 0, .int .i64 0, .int .i64 0, .int .i64 0, .bool false, .int .i64 0, .int .i64 0, .int .i64 0, .int .i64 0] 72 (0, 0)) := by rw [hW1]; exact setFrom_blk_other (by omega) _ _ _ Rv0
  have O1 : W1.heap[w.heap.size + 1 + 1]? = some (.cells #[.int .i64 name, .int .i64 who, .string own, .slice (some ⟨llg, 0, none⟩) lgn lgn, .int .i64 0, .int .i64 0, .int .i64 0, .int .i64 0, .bool false, .int .i64 0, .int .i64 0, .int .i64 0, .int .i64 0] 72 (0, 0)) := by rw [hW1]; exact booking_set_3_4 Ov0
  have H1 : Below w.heap.size w W1 := by rw [hW1]; exact setFrom_below (by omega) _ _ _ Hv0
  have rowlg' : W1.rowIs llg 3 lgn (fun k => .int .i64 (lg k)) := by rw [hW1]; exact setFrom_other (by omega) _ _ _ rowlg
  have hC1 : W1 = (v0.setCell ⟨w.heap.size + 1 + 1, 3, none⟩ (.slice (some ⟨llg, 0, none⟩) lgn lgn)) := by rw [hW1]; rfl
  rw [← hC1]
  clear hW1 hC1 Av0 Rv0 Ov0 Hv0 rowlg
  have rowlg := rowlg'
  clear rowlg'
  refine (toParty_any pe len hei cl all be _).mono ?_
  rintro e v1 ⟨rfl, hb1⟩
  have Av1 := blk_below A1 hb1
  have Rv1 := blk_below R1 hb1
  have Ov1 := blk_below O1 hb1
  have Hv1 := after H1 hb1
  have rowlg1 := row_below rowlg hb1
  clear A1 R1 O1 H1 hb1 rowlg
  have rowlg := rowlg1
  clear rowlg1
  have qa10 := blk_cell Av1 10 _ rfl
  have qa11 := blk_cell Av1 11 _ rfl
  have qa12 := blk_cell Av1 12 _ rfl
  have fo4 := blk_free Ov1 4
  have fo5 := blk_free Ov1 5
  have fo6 := blk_free Ov1 6
  have fo7 := blk_free Ov1 7
  have fo8 := blk_free Ov1 8
  have fo9 := blk_free Ov1 9
  have fo10 := blk_free Ov1 10
  have fo11 := blk_free Ov1 11
  have fo12 := blk_free Ov1 12
  have qo0 := blk_cell Ov1 0 _ rfl
  have qo1 := blk_cell Ov1 1 _ rfl
  have qo2 := blk_cell Ov1 2 _ rfl
  have qo3 := blk_cell Ov1 3 _ rfl
  have qo4 := blk_cell Ov1 4 _ rfl
  have qo5 := blk_cell Ov1 5 _ rfl
  have qo6 := blk_cell Ov1 6 _ rfl
  have qo7 := blk_cell Ov1 7 _ rfl
  have qo8 := blk_cell Ov1 8 _ rfl
  have qo9 := blk_cell Ov1 9 _ rfl
  have qo10 := blk_cell Ov1 10 _ rfl
  have qo11 := blk_cell Ov1 11 _ rfl
  have qo12 := blk_cell Ov1 12 _ rfl
  have z0 := blk_free Rv1 0
  have y0 := blk_cell Rv1 0 _ rfl
  have z1 := blk_free Rv1 1
  have y1 := blk_cell Rv1 1 _ rfl
  have z2 := blk_free Rv1 2
  have y2 := blk_cell Rv1 2 _ rfl
  have z3 := blk_free Rv1 3
  have y3 := blk_cell Rv1 3 _ rfl
  have z4 := blk_free Rv1 4
  have y4 := blk_cell Rv1 4 _ rfl
  have z5 := blk_free Rv1 5
  have y5 := blk_cell Rv1 5 _ rfl
  have z6 := blk_free Rv1 6
  have y6 := blk_cell Rv1 6 _ rfl
  have z7 := blk_free Rv1 7
  have y7 := blk_cell Rv1 7 _ rfl
  have z8 := blk_free Rv1 8
  have y8 := blk_cell Rv1 8 _ rfl
  have z9 := blk_free Rv1 9
  have y9 := blk_cell Rv1 9 _ rfl
  have z10 := blk_free Rv1 10
  have y10 := blk_cell Rv1 10 _ rfl
  have z11 := blk_free Rv1 11
  have y11 := blk_cell Rv1 11 _ rfl
  have z12 := blk_free Rv1 12
  have y12 := blk_cell Rv1 12 _ rfl
  go_wp2
  clear qa10 qa11 qa12 fo4 fo5 fo6 fo7 fo8 fo9 fo10 fo11 fo12 qo0 qo1 qo2 qo3 qo4 qo5 qo6 qo7 qo8 qo9 qo10 qo11 qo12 z0 y0 z1 y1 z2 y2 z3 y3 z4 y4 z5 y5 z6 y6 z7 y7 z8 y8 z9 y9 z10 y10 z11 y11 z12 y12
  obtain ⟨W2, hW2⟩ : ∃ W, W = setFrom v1 (w.heap.size + 1 + 1) 4 [.int .i64 pe, .int .i64 len, .int .i64 hei, .int .i64 cl, .bool all, .int .i64 be, .int .i64 state, .int .i64 unt, .int .i64 price] := ⟨_, rfl⟩
  have A2 : W2.heap[w.heap.size]? = some (.cells #[.int .i64 name, .int .i64 who, .string own, .slice alg lgn clg, .int .i64 pe, .int .i64 len, .int .i64 hei, .int .i64 cl, .bool all, .int .i64 be, .int .i64 state, .int .i64 unt, .int .i64 price] 105 (0, 0)) := by rw [hW2]; exact setFrom_blk_other (by omega) _ _ _ Av1
  have R2 : W2.heap[w.heap.size + 1]? = some (.cells #[.int .i64 0, .int .i64 0, .string ⟨#[]⟩, .slice none 0 0, .int .i64 0, .int .i64 0, .int .i64 0, .int .i64 0, .bool false, .int .i64 0, .int .i64 0, .int .i64 0, .int .i64 0] 72 (0, 0)) := by rw [hW2]; exact setFrom_blk_other (by omega) _ _ _ Rv1
  have O2 : W2.heap[w.heap.size + 1 + 1]? = some (.cells #[.int .i64 name, .int .i64 who, .string own, .slice (some ⟨llg, 0, none⟩) lgn lgn, .int .i64 pe, .int .i64 len, .int .i64 hei, .int .i64 cl, .bool all, .int .i64 be, .int .i64 state, .int .i64 unt, .int .i64 price] 72 (0, 0)) := by rw [hW2]; exact booking_set_4_13 Ov1
  have H2 : Below w.heap.size w W2 := by rw [hW2]; exact setFrom_below (by omega) _ _ _ Hv1
  have rowlg' : W2.rowIs llg 3 lgn (fun k => .int .i64 (lg k)) := by rw [hW2]; exact setFrom_other (by omega) _ _ _ rowlg
  have hC2 : W2 = (((((((((v1.setCell ⟨w.heap.size + 1 + 1, 4, none⟩ (.int .i64 pe)).setCell ⟨w.heap.size + 1 + 1, 5, none⟩ (.int .i64 len)).setCell ⟨w.heap.size + 1 + 1, 6, none⟩ (.int .i64 hei)).setCell ⟨w.heap.size + 1 + 1, 7, none⟩ (.int .i64 cl)).setCell ⟨w.heap.size + 1 + 1, 8, none⟩ (.bool all)).setCell ⟨w.heap.size + 1 + 1, 9, none⟩ (.int .i64 be)).setCell ⟨w.heap.size + 1 + 1, 10, none⟩ (.int .i64 state)).setCell ⟨w.heap.size + 1 + 1, 11, none⟩ (.int .i64 unt)).setCell ⟨w.heap.size + 1 + 1, 12, none⟩ (.int .i64 price)) := by rw [hW2]; rfl
  rw [← hC2]
  clear hW2 hC2 Av1 Rv1 Ov1 Hv1 rowlg
  have rowlg := rowlg'
  clear rowlg'
  obtain ⟨F, hF⟩ : ∃ F, F = setFrom W2 (w.heap.size + 1) 0 [.int .i64 name, .int .i64 who, .string own, .slice (some ⟨llg, 0, none⟩) lgn lgn, .int .i64 pe, .int .i64 len, .int .i64 hei, .int .i64 cl, .bool all, .int .i64 be, .int .i64 state, .int .i64 unt, .int .i64 price] := ⟨_, rfl⟩
  have RF : F.heap[w.heap.size + 1]? = some (.cells #[.int .i64 name, .int .i64 who, .string own, .slice (some ⟨llg, 0, none⟩) lgn lgn, .int .i64 pe, .int .i64 len, .int .i64 hei, .int .i64 cl, .bool all, .int .i64 be, .int .i64 state, .int .i64 unt, .int .i64 price] 72 (0, 0)) := by rw [hF]; exact booking_set_0_13 R2
  have HF : Below w.heap.size w F := by rw [hF]; exact setFrom_below (by omega) _ _ _ H2
  have rFlg : F.rowIs llg 3 lgn (fun k => .int .i64 (lg k)) := by rw [hF]; exact setFrom_other (by omega) _ _ _ rowlg
  have hCF : F = (((((((((((((W2.setCell ⟨w.heap.size + 1, 0, none⟩ (.int .i64 name)).setCell ⟨w.heap.size + 1, 1, none⟩ (.int .i64 who)).setCell ⟨w.heap.size + 1, 2, none⟩ (.string own)).setCell ⟨w.heap.size + 1, 3, none⟩ (.slice (some ⟨llg, 0, none⟩) lgn lgn)).setCell ⟨w.heap.size + 1, 4, none⟩ (.int .i64 pe)).setCell ⟨w.heap.size + 1, 5, none⟩ (.int .i64 len)).setCell ⟨w.heap.size + 1, 6, none⟩ (.int .i64 hei)).setCell ⟨w.heap.size + 1, 7, none⟩ (.int .i64 cl)).setCell ⟨w.heap.size + 1, 8, none⟩ (.bool all)).setCell ⟨w.heap.size + 1, 9, none⟩ (.int .i64 be)).setCell ⟨w.heap.size + 1, 10, none⟩ (.int .i64 state)).setCell ⟨w.heap.size + 1, 11, none⟩ (.int .i64 unt)).setCell ⟨w.heap.size + 1, 12, none⟩ (.int .i64 price)) := by rw [hF]; rfl
  rw [← hCF]
  clear hF hCF
  have z0 := blk_cell RF 0 _ rfl
  have z1 := blk_cell RF 1 _ rfl
  have z2 := blk_cell RF 2 _ rfl
  have z3 := blk_cell RF 3 _ rfl
  have z4 := blk_cell RF 4 _ rfl
  have z5 := blk_cell RF 5 _ rfl
  have z6 := blk_cell RF 6 _ rfl
  have z7 := blk_cell RF 7 _ rfl
  have z8 := blk_cell RF 8 _ rfl
  have z9 := blk_cell RF 9 _ rfl
  have z10 := blk_cell RF 10 _ rfl
  have z11 := blk_cell RF 11 _ rfl
  have z12 := blk_cell RF 12 _ rfl
  exact bodyPost_ret (v := .agg #[.int .i64 name, .int .i64 who, .string own, .slice (some ⟨llg, 0, none⟩) lgn lgn, .int .i64 pe, .int .i64 len, .int .i64 hei, .int .i64 cl, .bool all, .int .i64 be, .int .i64 state, .int .i64 unt, .int .i64 price]) (by simp [results, Tryz.results60, go_sem, z0, z1, z2, z3, z4, z5, z6, z7, z8, z9, z10, z11, z12]) rfl ⟨llg, rfl, ⟨gelg, rFlg.lt, rFlg⟩, HF⟩
theorem eqBooking_raw (name : Int) (who : Int) (own : ByteArray) (alg : Option Addr) (lgn clg : Nat) (lg : Nat → Int) (pe : Int) (len : Int) (hei : Int) (cl : Int) (all : Bool) (be : Int) (state : Int) (unt : Int) (price : Int) (alg' : Option Addr) (clg' : Nat) (w : World) (nlg : lgn ≤ 1048576) (hlg : IntsAt w alg lgn lg) (hlg' : IntsAt w alg' lgn lg) :
    Calls Tryz.prog 70 #[.agg #[.int .i64 name, .int .i64 who, .string own, .slice alg lgn clg, .int .i64 pe, .int .i64 len, .int .i64 hei, .int .i64 cl, .bool all, .int .i64 be, .int .i64 state, .int .i64 unt, .int .i64 price], .agg #[.int .i64 name, .int .i64 who, .string own, .slice alg' lgn clg', .int .i64 pe, .int .i64 len, .int .i64 hei, .int .i64 cl, .bool all, .int .i64 be, .int .i64 state, .int .i64 unt, .int .i64 price]] w fun e w' => e = .returned (.bool true) ∧ Below w.heap.size w w' := by
  have H0 : Below w.heap.size w ((w.alloc (.cells #[.int .i64 name, .int .i64 who, .string own, .slice alg lgn clg, .int .i64 pe, .int .i64 len, .int .i64 hei, .int .i64 cl, .bool all, .int .i64 be, .int .i64 state, .int .i64 unt, .int .i64 price] 72)).alloc (.cells #[.int .i64 name, .int .i64 who, .string own, .slice alg' lgn clg', .int .i64 pe, .int .i64 len, .int .i64 hei, .int .i64 cl, .bool all, .int .i64 be, .int .i64 state, .int .i64 unt, .int .i64 price] 72)) := push (push (Below.refl _ _) _) _
  have A0 : ((w.alloc (.cells #[.int .i64 name, .int .i64 who, .string own, .slice alg lgn clg, .int .i64 pe, .int .i64 len, .int .i64 hei, .int .i64 cl, .bool all, .int .i64 be, .int .i64 state, .int .i64 unt, .int .i64 price] 72)).alloc (.cells #[.int .i64 name, .int .i64 who, .string own, .slice alg' lgn clg', .int .i64 pe, .int .i64 len, .int .i64 hei, .int .i64 cl, .bool all, .int .i64 be, .int .i64 state, .int .i64 unt, .int .i64 price] 72)).heap[w.heap.size]? = some (.cells #[.int .i64 name, .int .i64 who, .string own, .slice alg lgn clg, .int .i64 pe, .int .i64 len, .int .i64 hei, .int .i64 cl, .bool all, .int .i64 be, .int .i64 state, .int .i64 unt, .int .i64 price] 72 (0, 0)) := blk_alloc (heap_alloc_new w _) _
  have B0 : ((w.alloc (.cells #[.int .i64 name, .int .i64 who, .string own, .slice alg lgn clg, .int .i64 pe, .int .i64 len, .int .i64 hei, .int .i64 cl, .bool all, .int .i64 be, .int .i64 state, .int .i64 unt, .int .i64 price] 72)).alloc (.cells #[.int .i64 name, .int .i64 who, .string own, .slice alg' lgn clg', .int .i64 pe, .int .i64 len, .int .i64 hei, .int .i64 cl, .bool all, .int .i64 be, .int .i64 state, .int .i64 unt, .int .i64 price] 72)).heap[w.heap.size + 1]? = some (.cells #[.int .i64 name, .int .i64 who, .string own, .slice alg' lgn clg', .int .i64 pe, .int .i64 len, .int .i64 hei, .int .i64 cl, .bool all, .int .i64 be, .int .i64 state, .int .i64 unt, .int .i64 price] 72 (0, 0)) := by simpa using heap_alloc_new (w.alloc _) _
  go_enter Tryz.func70, Tryz.ntmps70
  go_wp2_with fail
  generalize (w.alloc (.cells #[.int .i64 name, .int .i64 who, .string own, .slice alg lgn clg, .int .i64 pe, .int .i64 len, .int .i64 hei, .int .i64 cl, .bool all, .int .i64 be, .int .i64 state, .int .i64 unt, .int .i64 price] 72)).alloc (.cells #[.int .i64 name, .int .i64 who, .string own, .slice alg' lgn clg', .int .i64 pe, .int .i64 len, .int .i64 hei, .int .i64 cl, .bool all, .int .i64 be, .int .i64 state, .int .i64 unt, .int .i64 price] 72) = v at H0 A0 B0 ⊢
  refine (eqIntS_same alg alg' lgn clg clg' lg _ nlg (hlg.below H0) (hlg'.below H0)).mono ?_
  rintro e v0 ⟨rfl, hb0⟩
  have A1 := blk_below A0 hb0
  have B1 := blk_below B0 hb0
  have H1 := after H0 hb0
  clear A0 B0 H0 hb0
  have qa4 := blk_cell A1 4 _ rfl
  have qb4 := blk_cell B1 4 _ rfl
  have qa5 := blk_cell A1 5 _ rfl
  have qb5 := blk_cell B1 5 _ rfl
  have qa6 := blk_cell A1 6 _ rfl
  have qb6 := blk_cell B1 6 _ rfl
  have qa7 := blk_cell A1 7 _ rfl
  have qb7 := blk_cell B1 7 _ rfl
  have qa8 := blk_cell A1 8 _ rfl
  have qb8 := blk_cell B1 8 _ rfl
  have qa9 := blk_cell A1 9 _ rfl
  have qb9 := blk_cell B1 9 _ rfl
  go_wp2_with fail
  clear qa4 qb4 qa5 qb5 qa6 qb6 qa7 qb7 qa8 qb8 qa9 qb9
  refine (eqParty_same pe len hei cl all be _).mono ?_
  rintro e v1 ⟨rfl, hb1⟩
  have A2 := blk_below A1 hb1
  have B2 := blk_below B1 hb1
  have H2 := after H1 hb1
  clear A1 B1 H1 hb1
  have qa10 := blk_cell A2 10 _ rfl
  have qb10 := blk_cell B2 10 _ rfl
  have qa11 := blk_cell A2 11 _ rfl
  have qb11 := blk_cell B2 11 _ rfl
  have qa12 := blk_cell A2 12 _ rfl
  have qb12 := blk_cell B2 12 _ rfl
  go_wp2
  go_ret
  exact ⟨rfl, H2⟩
theorem szBooking_any (cs : List Value) (x : Book) (L : Int) (w : World) (h0 : 0 ≤ L) (hL : L ≤ 1048576) (hs : Book.Short x 1000000000000000) (h : Book.Is w cs x) :
    Calls Tryz.prog 47 #[.agg cs.toArray, .int .i64 L] w fun e w' => ∃ r : Int, e = .returned (.int .i64 r) ∧ (r = -1 ∨ (0 ≤ r ∧ r ≤ L ∧ Book.Short x 1048576)) ∧ Below w.heap.size w w' := by
  obtain ⟨alg, clg, rfl, hlg, slg⟩ := h
  obtain ⟨bown, blg⟩ := hs
  exact szBooking_raw _ _ _ _ _ _ _ _ _ _ _ _ _ _ _ L w h0 hL bown blg
theorem toBooking_any (cs : List Value) (x : Book) (w : World) (hs : Book.Short x 1048576) (h : Book.Is w cs x) :
    Calls Tryz.prog 60 #[.agg cs.toArray] w fun e w' => ∃ cs', e = .returned (.agg cs'.toArray) ∧ Book.In w' w.heap.size w'.heap.size cs' x ∧ Below w.heap.size w w' := by
  obtain ⟨alg, clg, rfl, hlg, slg⟩ := h
  obtain ⟨_, blg⟩ := hs
  refine (toBooking_raw _ _ _ _ _ _ _ _ _ _ _ _ _ _ _ _ w blg hlg).mono ?_
  rintro e w' ⟨llg, he, rlg, hb⟩
  exact ⟨_, he, ⟨llg, rfl, rlg⟩, hb⟩
theorem eqBooking_same (cs ds : List Value) (x : Book) (w : World) (hs : Book.Short x 1048576) (h : Book.Is w cs x) (h' : Book.Is w ds x) :
    Calls Tryz.prog 70 #[.agg cs.toArray, .agg ds.toArray] w fun e w' => e = .returned (.bool true) ∧ Below w.heap.size w w' := by
  obtain ⟨alg, clg, rfl, hlg, slg⟩ := h
  obtain ⟨alg', clg', rfl, hlg', slg'⟩ := h'
  obtain ⟨_, blg⟩ := hs
  exact eqBooking_raw _ _ _ _ _ _ _ _ _ _ _ _ _ _ _ _ _ _ w blg hlg hlg'
end Go.Proofs.YtlelckbeoclhbaaGreat

namespace Go.Proofs.YtlelckbeoclhbaaGreat
open Go.RowKit
theorem szBookingS_any (ao : Option Addr) (N c : Nat) (S : Nat → Book) (L0 : Int) (w : World) (h0 : 0 ≤ L0) (hL0 : L0 ≤ 1048576) (hN : N ≤ 1000000000000000) (hs : BooksShort N S 1000000000000000) (hx : BooksAt w ao N S) :
    Calls Tryz.prog 15 #[.slice ao N c, .int .i64 L0] w fun e w' => ∃ r : Int, e = .returned (.int .i64 r) ∧ (r = -1 ∨ (0 ≤ r ∧ r ≤ L0 ∧ N ≤ 1048576 ∧ BooksShort N S 1048576)) ∧ Below w.heap.size w w' := by
  have HS : Hid (BooksShort N S 1000000000000000) := hs
  have HX : Hid (BooksAt w ao N S) := hx
  clear hs hx
  by_cases hf : (N : Int) ≤ L0
  · have d0 : decide (L0 - (N : Int) < 0) = false := by simp; omega
    go_enter Tryz.func15, Tryz.ntmps15
    go_wp2
    go_loopw [1, 5] (fun l i wr => ∃ (k : Nat) (L : Int), k ≤ N ∧ i = .int .i64 k ∧ l = .int .i64 L ∧ 0 ≤ L ∧ L ≤ L0 ∧ BooksShort k S 1048576 ∧ Below w.heap.size w wr) (fun _ i _ => N - (intOf i).toNat)
    case atStart => exact ⟨0, _, Nat.zero_le _, rfl, rfl, by omega, by omega, fun i hi => by omega, Below.refl _ _⟩
    case round =>
      obtain ⟨k, L, hk, rfl, rfl, l0, l1, hst, hbel⟩ := hrel
      have HT : Hid (BooksShort k S 1048576) := hst
      clear hst d0
      by_cases hlt : k < N
      · obtain ⟨C, hC, hI⟩ := HX.out
        obtain ⟨b, off, rfl, hc⟩ := hC k hlt
        have HIK : Hid (Book.Is w (C k) (S k)) := hI k hlt
        obtain ⟨alg, clg, eC, hlg, slg⟩ := hI k hlt
        have hlt' : b < w.heap.size := World.block_lt_of_cell? w _ (hc 0 (by decide))
        have c0 : wr.cell? ⟨b, off + k * 13, none⟩ = some (.int .i64 (S k).name) := (hbel.cell (p := ⟨b, off + k * 13, none⟩) hlt').trans (by have := hc 0 (by decide); rw [eC] at this; exact this)
        have c1 : wr.cell? ⟨b, off + k * 13 + 1, none⟩ = some (.int .i64 (S k).who) := (hbel.cell (p := ⟨b, off + k * 13 + 1, none⟩) hlt').trans (by have := hc 1 (by decide); rw [eC] at this; exact this)
        have c2 : wr.cell? ⟨b, off + k * 13 + 2, none⟩ = some (.string (S k).own) := (hbel.cell (p := ⟨b, off + k * 13 + 2, none⟩) hlt').trans (by have := hc 2 (by decide); rw [eC] at this; exact this)
        have c3 : wr.cell? ⟨b, off + k * 13 + 3, none⟩ = some (.slice alg (S k).lgn clg) := (hbel.cell (p := ⟨b, off + k * 13 + 3, none⟩) hlt').trans (by have := hc 3 (by decide); rw [eC] at this; exact this)
        have c4 : wr.cell? ⟨b, off + k * 13 + 4, none⟩ = some (.int .i64 (S k).pe) := (hbel.cell (p := ⟨b, off + k * 13 + 4, none⟩) hlt').trans (by have := hc 4 (by decide); rw [eC] at this; exact this)
        have c5 : wr.cell? ⟨b, off + k * 13 + 5, none⟩ = some (.int .i64 (S k).len) := (hbel.cell (p := ⟨b, off + k * 13 + 5, none⟩) hlt').trans (by have := hc 5 (by decide); rw [eC] at this; exact this)
        have c6 : wr.cell? ⟨b, off + k * 13 + 6, none⟩ = some (.int .i64 (S k).hei) := (hbel.cell (p := ⟨b, off + k * 13 + 6, none⟩) hlt').trans (by have := hc 6 (by decide); rw [eC] at this; exact this)
        have c7 : wr.cell? ⟨b, off + k * 13 + 7, none⟩ = some (.int .i64 (S k).cl) := (hbel.cell (p := ⟨b, off + k * 13 + 7, none⟩) hlt').trans (by have := hc 7 (by decide); rw [eC] at this; exact this)
        have c8 : wr.cell? ⟨b, off + k * 13 + 8, none⟩ = some (.bool (S k).all) := (hbel.cell (p := ⟨b, off + k * 13 + 8, none⟩) hlt').trans (by have := hc 8 (by decide); rw [eC] at this; exact this)
        have c9 : wr.cell? ⟨b, off + k * 13 + 9, none⟩ = some (.int .i64 (S k).be) := (hbel.cell (p := ⟨b, off + k * 13 + 9, none⟩) hlt').trans (by have := hc 9 (by decide); rw [eC] at this; exact this)
        have c10 : wr.cell? ⟨b, off + k * 13 + 10, none⟩ = some (.int .i64 (S k).state) := (hbel.cell (p := ⟨b, off + k * 13 + 10, none⟩) hlt').trans (by have := hc 10 (by decide); rw [eC] at this; exact this)
        have c11 : wr.cell? ⟨b, off + k * 13 + 11, none⟩ = some (.int .i64 (S k).unt) := (hbel.cell (p := ⟨b, off + k * 13 + 11, none⟩) hlt').trans (by have := hc 11 (by decide); rw [eC] at this; exact this)
        have c12 : wr.cell? ⟨b, off + k * 13 + 12, none⟩ = some (.int .i64 (S k).price) := (hbel.cell (p := ⟨b, off + k * 13 + 12, none⟩) hlt').trans (by have := hc 12 (by decide); rw [eC] at this; exact this)
        have HIW : Hid (Book.Is wr [.int .i64 (S k).name, .int .i64 (S k).who, .string (S k).own, .slice alg (S k).lgn clg, .int .i64 (S k).pe, .int .i64 (S k).len, .int .i64 (S k).hei, .int .i64 (S k).cl, .bool (S k).all, .int .i64 (S k).be, .int .i64 (S k).state, .int .i64 (S k).unt, .int .i64 (S k).price] (S k)) := by show Book.Is wr [.int .i64 (S k).name, .int .i64 (S k).who, .string (S k).own, .slice alg (S k).lgn clg, .int .i64 (S k).pe, .int .i64 (S k).len, .int .i64 (S k).hei, .int .i64 (S k).cl, .bool (S k).all, .int .i64 (S k).be, .int .i64 (S k).state, .int .i64 (S k).unt, .int .i64 (S k).price] (S k); rw [← eC]; exact HIK.out.below hbel
        have HSK : Hid (Book.Short (S k) 1000000000000000) := HS.out k hlt
        clear hC hI hc eC HIK hlg slg
        go_wp2_with fail
        refine (szBooking_any [.int .i64 (S k).name, .int .i64 (S k).who, .string (S k).own, .slice alg (S k).lgn clg, .int .i64 (S k).pe, .int .i64 (S k).len, .int .i64 (S k).hei, .int .i64 (S k).cl, .bool (S k).all, .int .i64 (S k).be, .int .i64 (S k).state, .int .i64 (S k).unt, .int .i64 (S k).price] (S k) L _ l0 (by omega) HSK.out HIW.out).mono ?_
        rintro e w2 ⟨r, rfl, hr, hb3⟩
        rcases hr with rfl | ⟨r0, r1, r2⟩
        · go_wp2
          go_ret
          exact ⟨_, rfl, .inl rfl, after hbel hb3⟩
        · have d1 : decide (r < 0) = false := by simpa using r0
          go_wp2
          go_roundw
          case rel =>
            refine ⟨k + 1, r, by omega, by go_num, rfl, r0, by omega, fun i hi => ?_, after hbel hb3⟩
            by_cases e : i = k
            · subst e; exact r2
            · exact HT.out i (by omega)
          case measure => simp [intOf]; omega
      · obtain rfl : k = N := by omega
        go_wp2
        go_ret
        exact ⟨_, rfl, .inr ⟨l0, l1, by omega, HT.out⟩, hbel⟩
  · have d0 : decide (L0 - (N : Int) < 0) = true := by simp; omega
    go_enter Tryz.func15, Tryz.ntmps15
    go_wp2
    go_ret
    exact ⟨_, rfl, .inl rfl, Below.refl _ _⟩
theorem toBookingS_any (ao : Option Addr) (N cap : Nat) (S : Nat → Book) (w : World) (hN : N ≤ 1048576) (hs : BooksShort N S 1048576) (hz : BooksAt w ao N S) :
    Calls Tryz.prog 24 #[.slice ao N cap] w fun e w' => ∃ g C, e = .returned (.slice (some ⟨g, 0, none⟩) N N) ∧ BooksTo w' N w.heap.size w'.heap.size g N S C ∧ Below w.heap.size w w' := by
  obtain ⟨i0, hi, hz0, hz1, hz2⟩ := info_parts Tryz.infoBooking
  have HS : Hid (BooksShort N S 1048576) := hs
  have HX : Hid (BooksAt w ao N S) := hz
  clear hs hz
  go_enter Tryz.func24, Tryz.ntmps24
  go_wp2_with (first | (at_make; refine wpList_make_full _ rfl _ _ 28 rfl w.heap.size 72 i0 _ 13 Tryz.underlying28 hi hz0 hz1 .i64 .i64 _ _ N rfl rfl rfl rfl (by rw [hz2]; omega) (by unfold maxLen; omega) (Nat.le_refl _) ?_; intro w1 hown1 hgrow1))
  go_loopw [4] (fun i wr => ∃ (k : Nat) (C : Nat → List Value), k ≤ N ∧ i = .int .i64 k ∧ BooksTo wr k w.heap.size wr.heap.size w.heap.size N S C ∧ Below w.heap.size w wr)
    (fun i _ => N - (intOf i).toNat)
  case atStart => exact ⟨0, fun _ => [], Nat.zero_le _, rfl, ⟨(row_of_own hown1).congr (fun j hj => (made_recs (z := #[.int .i64 0, .int .i64 0, .string ⟨#[]⟩, .slice none 0 0, .int .i64 0, .int .i64 0, .int .i64 0, .int .i64 0, .bool false, .int .i64 0, .int .i64 0, .int .i64 0, .int .i64 0]) (sz := 13) rfl N j hj).trans (by unfold recCell; rw [upto_ge _ _ (by omega)])), Nat.le_refl _, (row_of_own hown1).lt, fun i hi => by omega⟩, (Below.refl _ _).grown hgrow1 (Nat.le_refl _) (by simp)⟩
  case round =>
    obtain ⟨k, C, hk, rfl, hrow, hbel⟩ := hrel
    clear hown1 hgrow1
    by_cases hlt : k < N
    · obtain ⟨E, hE, hI⟩ := HX.out
      obtain ⟨b, off, rfl, hc⟩ := hE k hlt
      have HIK : Hid (Book.Is w (E k) (S k)) := hI k hlt
      obtain ⟨alg, clg, eC, hlg, slg⟩ := hI k hlt
      have hlt' : b < w.heap.size := World.block_lt_of_cell? w _ (hc 0 (by decide))
      have c0 : wr.cell? ⟨b, off + k * 13, none⟩ = some (.int .i64 (S k).name) := (hbel.cell (p := ⟨b, off + k * 13, none⟩) hlt').trans (by have := hc 0 (by decide); rw [eC] at this; exact this)
      have c1 : wr.cell? ⟨b, off + k * 13 + 1, none⟩ = some (.int .i64 (S k).who) := (hbel.cell (p := ⟨b, off + k * 13 + 1, none⟩) hlt').trans (by have := hc 1 (by decide); rw [eC] at this; exact this)
      have c2 : wr.cell? ⟨b, off + k * 13 + 2, none⟩ = some (.string (S k).own) := (hbel.cell (p := ⟨b, off + k * 13 + 2, none⟩) hlt').trans (by have := hc 2 (by decide); rw [eC] at this; exact this)
      have c3 : wr.cell? ⟨b, off + k * 13 + 3, none⟩ = some (.slice alg (S k).lgn clg) := (hbel.cell (p := ⟨b, off + k * 13 + 3, none⟩) hlt').trans (by have := hc 3 (by decide); rw [eC] at this; exact this)
      have c4 : wr.cell? ⟨b, off + k * 13 + 4, none⟩ = some (.int .i64 (S k).pe) := (hbel.cell (p := ⟨b, off + k * 13 + 4, none⟩) hlt').trans (by have := hc 4 (by decide); rw [eC] at this; exact this)
      have c5 : wr.cell? ⟨b, off + k * 13 + 5, none⟩ = some (.int .i64 (S k).len) := (hbel.cell (p := ⟨b, off + k * 13 + 5, none⟩) hlt').trans (by have := hc 5 (by decide); rw [eC] at this; exact this)
      have c6 : wr.cell? ⟨b, off + k * 13 + 6, none⟩ = some (.int .i64 (S k).hei) := (hbel.cell (p := ⟨b, off + k * 13 + 6, none⟩) hlt').trans (by have := hc 6 (by decide); rw [eC] at this; exact this)
      have c7 : wr.cell? ⟨b, off + k * 13 + 7, none⟩ = some (.int .i64 (S k).cl) := (hbel.cell (p := ⟨b, off + k * 13 + 7, none⟩) hlt').trans (by have := hc 7 (by decide); rw [eC] at this; exact this)
      have c8 : wr.cell? ⟨b, off + k * 13 + 8, none⟩ = some (.bool (S k).all) := (hbel.cell (p := ⟨b, off + k * 13 + 8, none⟩) hlt').trans (by have := hc 8 (by decide); rw [eC] at this; exact this)
      have c9 : wr.cell? ⟨b, off + k * 13 + 9, none⟩ = some (.int .i64 (S k).be) := (hbel.cell (p := ⟨b, off + k * 13 + 9, none⟩) hlt').trans (by have := hc 9 (by decide); rw [eC] at this; exact this)
      have c10 : wr.cell? ⟨b, off + k * 13 + 10, none⟩ = some (.int .i64 (S k).state) := (hbel.cell (p := ⟨b, off + k * 13 + 10, none⟩) hlt').trans (by have := hc 10 (by decide); rw [eC] at this; exact this)
      have c11 : wr.cell? ⟨b, off + k * 13 + 11, none⟩ = some (.int .i64 (S k).unt) := (hbel.cell (p := ⟨b, off + k * 13 + 11, none⟩) hlt').trans (by have := hc 11 (by decide); rw [eC] at this; exact this)
      have c12 : wr.cell? ⟨b, off + k * 13 + 12, none⟩ = some (.int .i64 (S k).price) := (hbel.cell (p := ⟨b, off + k * 13 + 12, none⟩) hlt').trans (by have := hc 12 (by decide); rw [eC] at this; exact this)
      have HIW : Hid (Book.Is wr [.int .i64 (S k).name, .int .i64 (S k).who, .string (S k).own, .slice alg (S k).lgn clg, .int .i64 (S k).pe, .int .i64 (S k).len, .int .i64 (S k).hei, .int .i64 (S k).cl, .bool (S k).all, .int .i64 (S k).be, .int .i64 (S k).state, .int .i64 (S k).unt, .int .i64 (S k).price] (S k)) := by show Book.Is wr [.int .i64 (S k).name, .int .i64 (S k).who, .string (S k).own, .slice alg (S k).lgn clg, .int .i64 (S k).pe, .int .i64 (S k).len, .int .i64 (S k).hei, .int .i64 (S k).cl, .bool (S k).all, .int .i64 (S k).be, .int .i64 (S k).state, .int .i64 (S k).unt, .int .i64 (S k).price] (S k); rw [← eC]; exact HIK.out.below hbel
      have HSK : Hid (Book.Short (S k) 1048576) := HS.out k hlt
      have HROW : Hid (BooksTo wr k w.heap.size wr.heap.size w.heap.size N S C) := hrow
      clear hE hI hc eC HIK hrow hlg slg
      go_wp2_with fail
      refine (toBooking_any [.int .i64 (S k).name, .int .i64 (S k).who, .string (S k).own, .slice alg (S k).lgn clg, .int .i64 (S k).pe, .int .i64 (S k).len, .int .i64 (S k).hei, .int .i64 (S k).cl, .bool (S k).all, .int .i64 (S k).be, .int .i64 (S k).state, .int .i64 (S k).unt, .int .i64 (S k).price] (S k) _ HSK.out HIW.out).mono ?_
      rintro e w2 ⟨cs', rfl, hin, hb2⟩
      have HIN : Hid (Book.In w2 wr.heap.size w2.heap.size cs' (S k)) := hin
      obtain ⟨llg, rfl, _⟩ := hin
      unfold whole
      have hr2 := (HROW.out.below hb2).wide (Nat.le_refl _) hb2.size
      have hsz := HROW.out.ghi
      clear c0 c1 c2 c3 c4 c5 c6 c7 c8 c9 c10 c11 c12
      have o0 := hr2.row.cell (i := k * 13) (by omega)
      have f0 := hr2.row.frozen (k * 13)
      have o1 := hr2.row.cell (i := k * 13 + 1) (by omega)
      have f1 := hr2.row.frozen (k * 13 + 1)
      have o2 := hr2.row.cell (i := k * 13 + 2) (by omega)
      have f2 := hr2.row.frozen (k * 13 + 2)
      have o3 := hr2.row.cell (i := k * 13 + 3) (by omega)
      have f3 := hr2.row.frozen (k * 13 + 3)
      have o4 := hr2.row.cell (i := k * 13 + 4) (by omega)
      have f4 := hr2.row.frozen (k * 13 + 4)
      have o5 := hr2.row.cell (i := k * 13 + 5) (by omega)
      have f5 := hr2.row.frozen (k * 13 + 5)
      have o6 := hr2.row.cell (i := k * 13 + 6) (by omega)
      have f6 := hr2.row.frozen (k * 13 + 6)
      have o7 := hr2.row.cell (i := k * 13 + 7) (by omega)
      have f7 := hr2.row.frozen (k * 13 + 7)
      have o8 := hr2.row.cell (i := k * 13 + 8) (by omega)
      have f8 := hr2.row.frozen (k * 13 + 8)
      have o9 := hr2.row.cell (i := k * 13 + 9) (by omega)
      have f9 := hr2.row.frozen (k * 13 + 9)
      have o10 := hr2.row.cell (i := k * 13 + 10) (by omega)
      have f10 := hr2.row.frozen (k * 13 + 10)
      have o11 := hr2.row.cell (i := k * 13 + 11) (by omega)
      have f11 := hr2.row.frozen (k * 13 + 11)
      have o12 := hr2.row.cell (i := k * 13 + 12) (by omega)
      have f12 := hr2.row.frozen (k * 13 + 12)
      have HR2 : Hid (BooksTo w2 k w.heap.size w2.heap.size w.heap.size N S C) := hr2
      clear hr2
      go_wp2
      go_roundw
      case rel =>
        clear o0 f0 o1 f1 o2 f2 o3 f3 o4 f4 o5 f5 o6 f6 o7 f7 o8 f8 o9 f9 o10 f10 o11 f11 o12 f12
        obtain ⟨W, hW⟩ : ∃ W, W = setFrom w2 w.heap.size (k * 13) [.int .i64 (S k).name, .int .i64 (S k).who, .string (S k).own, .slice (some ⟨llg, 0, none⟩) (S k).lgn (S k).lgn, .int .i64 (S k).pe, .int .i64 (S k).len, .int .i64 (S k).hei, .int .i64 (S k).cl, .bool (S k).all, .int .i64 (S k).be, .int .i64 (S k).state, .int .i64 (S k).unt, .int .i64 (S k).price] := ⟨_, rfl⟩
        have hC : W = (((((((((((((w2.setCell ⟨w.heap.size, k * 13, none⟩ (.int .i64 (S k).name)).setCell ⟨w.heap.size, k * 13 + 1, none⟩ (.int .i64 (S k).who)).setCell ⟨w.heap.size, k * 13 + 2, none⟩ (.string (S k).own)).setCell ⟨w.heap.size, k * 13 + 3, none⟩ (.slice (some ⟨llg, 0, none⟩) (S k).lgn (S k).lgn)).setCell ⟨w.heap.size, k * 13 + 4, none⟩ (.int .i64 (S k).pe)).setCell ⟨w.heap.size, k * 13 + 5, none⟩ (.int .i64 (S k).len)).setCell ⟨w.heap.size, k * 13 + 6, none⟩ (.int .i64 (S k).hei)).setCell ⟨w.heap.size, k * 13 + 7, none⟩ (.int .i64 (S k).cl)).setCell ⟨w.heap.size, k * 13 + 8, none⟩ (.bool (S k).all)).setCell ⟨w.heap.size, k * 13 + 9, none⟩ (.int .i64 (S k).be)).setCell ⟨w.heap.size, k * 13 + 10, none⟩ (.int .i64 (S k).state)).setCell ⟨w.heap.size, k * 13 + 11, none⟩ (.int .i64 (S k).unt)).setCell ⟨w.heap.size, k * 13 + 12, none⟩ (.int .i64 (S k).price)) := by rw [hW]; rfl
        rw [← hC]
        clear hC
        have hk2 : Kept w2 W (fun x => x = w.heap.size) := by rw [hW]; exact setFrom_kept (S := fun x => x = w.heap.size) rfl _ _ _ (Kept.refl _ _)
        have hszW : W.heap.size = w2.heap.size := by rw [hW, setFrom_size]
        refine ⟨k + 1, fun i => if i = k then [.int .i64 (S k).name, .int .i64 (S k).who, .string (S k).own, .slice (some ⟨llg, 0, none⟩) (S k).lgn (S k).lgn, .int .i64 (S k).pe, .int .i64 (S k).len, .int .i64 (S k).hei, .int .i64 (S k).cl, .bool (S k).all, .int .i64 (S k).be, .int .i64 (S k).state, .int .i64 (S k).unt, .int .i64 (S k).price] else C i, by omega, by go_num, ⟨?_, Nat.le_refl _, by rw [hszW]; exact HR2.out.ghi, fun i hi => ?_⟩, by rw [hW]; exact setFrom_below (Nat.le_refl _) _ _ _ (after hbel hb2)⟩
        · rw [hW]
          refine rec_set HR2.out.row rfl (by decide) (fun i e => ?_) ?_
          · rw [upto_step _ _ _ _ e]; unfold upto; by_cases h : i < k
            · rw [if_pos h, if_pos h]; exact if_neg e
            · rw [if_neg h, if_neg h]
          · rw [upto_lt _ _ (Nat.lt_succ_self k)]; exact if_pos rfl
        · rw [hszW]
          by_cases e : i = k
          · subst e
            rw [if_pos rfl]
            exact (HIN.out.wide (by omega) (Nat.le_refl _)).kept hk2 (fun b h => by left; omega)
          · rw [if_neg e]
            exact (HR2.out.each i (by omega)).kept hk2 (fun b h => by left; omega)
      case measure => simp [intOf]; omega
    · obtain rfl : k = N := by omega
      go_wp2
      go_ret
      exact ⟨_, C, rfl, hrow, hbel⟩
theorem eqBookingS_same (ao bo : Option Addr) (N c1 c2 : Nat) (S : Nat → Book) (w : World) (hN : N ≤ 1048576) (hs : BooksShort N S 1048576) (hx : BooksAt w ao N S) (hy : BooksAt w bo N S) :
    Calls Tryz.prog 29 #[.slice ao N c1, .slice bo N c2] w fun e w' => e = .returned (.bool true) ∧ Below w.heap.size w w' := by
  have HS : Hid (BooksShort N S 1048576) := hs
  have HX : Hid (BooksAt w ao N S) := hx
  have HY : Hid (BooksAt w bo N S) := hy
  clear hs hx hy
  go_enter Tryz.func29, Tryz.ntmps29
  go_wp2
  go_loopw [5] (fun i wr => ∃ k : Nat, k ≤ N ∧ i = .int .i64 k ∧ Below w.heap.size w wr) (fun i _ => N - (intOf i).toNat)
  case atStart => exact ⟨0, Nat.zero_le _, rfl, Below.refl _ _⟩
  case round =>
    obtain ⟨k, hk, rfl, hbel⟩ := hrel
    by_cases hlt : k < N
    · obtain ⟨C, hC, hI⟩ := HX.out
      obtain ⟨D, hD, hJ⟩ := HY.out
      obtain ⟨b, off, rfl, hc⟩ := hC k hlt
      obtain ⟨b2, off2, rfl, hd⟩ := hD k hlt
      have HIK : Hid (Book.Is w (C k) (S k)) := hI k hlt
      have HJK : Hid (Book.Is w (D k) (S k)) := hJ k hlt
      obtain ⟨alg, clg, eC, hlg, slg⟩ := hI k hlt
      obtain ⟨alg', clg', eD, hlg', slg'⟩ := hJ k hlt
      have l1 : b < w.heap.size := World.block_lt_of_cell? w _ (hc 0 (by decide))
      have l2 : b2 < w.heap.size := World.block_lt_of_cell? w _ (hd 0 (by decide))
      have i1 : (0 : Int) ≤ (k : Int) := by omega
      have i2 : (k : Int) < (N : Int) := by omega
      have z0 : ∀ g : Grown wr, g.val.cell? ⟨b, off + k * 13, none⟩ = some (.int .i64 (S k).name) := fun g => ((hbel.trans (g.bel.mono hbel.size)).cell (p := ⟨b, off + k * 13, none⟩) l1).trans (by have := hc 0 (by decide); rw [eC] at this; exact this)
      have y0 : ∀ g : Grown wr, g.val.cell? ⟨b2, off2 + k * 13, none⟩ = some (.int .i64 (S k).name) := fun g => ((hbel.trans (g.bel.mono hbel.size)).cell (p := ⟨b2, off2 + k * 13, none⟩) l2).trans (by have := hd 0 (by decide); rw [eD] at this; exact this)
      have z1 : ∀ g : Grown wr, g.val.cell? ⟨b, off + k * 13 + 1, none⟩ = some (.int .i64 (S k).who) := fun g => ((hbel.trans (g.bel.mono hbel.size)).cell (p := ⟨b, off + k * 13 + 1, none⟩) l1).trans (by have := hc 1 (by decide); rw [eC] at this; exact this)
      have y1 : ∀ g : Grown wr, g.val.cell? ⟨b2, off2 + k * 13 + 1, none⟩ = some (.int .i64 (S k).who) := fun g => ((hbel.trans (g.bel.mono hbel.size)).cell (p := ⟨b2, off2 + k * 13 + 1, none⟩) l2).trans (by have := hd 1 (by decide); rw [eD] at this; exact this)
      have z2 : ∀ g : Grown wr, g.val.cell? ⟨b, off + k * 13 + 2, none⟩ = some (.string (S k).own) := fun g => ((hbel.trans (g.bel.mono hbel.size)).cell (p := ⟨b, off + k * 13 + 2, none⟩) l1).trans (by have := hc 2 (by decide); rw [eC] at this; exact this)
      have y2 : ∀ g : Grown wr, g.val.cell? ⟨b2, off2 + k * 13 + 2, none⟩ = some (.string (S k).own) := fun g => ((hbel.trans (g.bel.mono hbel.size)).cell (p := ⟨b2, off2 + k * 13 + 2, none⟩) l2).trans (by have := hd 2 (by decide); rw [eD] at this; exact this)
      have z3 : ∀ g : Grown wr, g.val.cell? ⟨b, off + k * 13 + 3, none⟩ = some (.slice alg (S k).lgn clg) := fun g => ((hbel.trans (g.bel.mono hbel.size)).cell (p := ⟨b, off + k * 13 + 3, none⟩) l1).trans (by have := hc 3 (by decide); rw [eC] at this; exact this)
      have y3 : ∀ g : Grown wr, g.val.cell? ⟨b2, off2 + k * 13 + 3, none⟩ = some (.slice alg' (S k).lgn clg') := fun g => ((hbel.trans (g.bel.mono hbel.size)).cell (p := ⟨b2, off2 + k * 13 + 3, none⟩) l2).trans (by have := hd 3 (by decide); rw [eD] at this; exact this)
      have z4 : ∀ g : Grown wr, g.val.cell? ⟨b, off + k * 13 + 4, none⟩ = some (.int .i64 (S k).pe) := fun g => ((hbel.trans (g.bel.mono hbel.size)).cell (p := ⟨b, off + k * 13 + 4, none⟩) l1).trans (by have := hc 4 (by decide); rw [eC] at this; exact this)
      have y4 : ∀ g : Grown wr, g.val.cell? ⟨b2, off2 + k * 13 + 4, none⟩ = some (.int .i64 (S k).pe) := fun g => ((hbel.trans (g.bel.mono hbel.size)).cell (p := ⟨b2, off2 + k * 13 + 4, none⟩) l2).trans (by have := hd 4 (by decide); rw [eD] at this; exact this)
      have z5 : ∀ g : Grown wr, g.val.cell? ⟨b, off + k * 13 + 5, none⟩ = some (.int .i64 (S k).len) := fun g => ((hbel.trans (g.bel.mono hbel.size)).cell (p := ⟨b, off + k * 13 + 5, none⟩) l1).trans (by have := hc 5 (by decide); rw [eC] at this; exact this)
      have y5 : ∀ g : Grown wr, g.val.cell? ⟨b2, off2 + k * 13 + 5, none⟩ = some (.int .i64 (S k).len) := fun g => ((hbel.trans (g.bel.mono hbel.size)).cell (p := ⟨b2, off2 + k * 13 + 5, none⟩) l2).trans (by have := hd 5 (by decide); rw [eD] at this; exact this)
      have z6 : ∀ g : Grown wr, g.val.cell? ⟨b, off + k * 13 + 6, none⟩ = some (.int .i64 (S k).hei) := fun g => ((hbel.trans (g.bel.mono hbel.size)).cell (p := ⟨b, off + k * 13 + 6, none⟩) l1).trans (by have := hc 6 (by decide); rw [eC] at this; exact this)
      have y6 : ∀ g : Grown wr, g.val.cell? ⟨b2, off2 + k * 13 + 6, none⟩ = some (.int .i64 (S k).hei) := fun g => ((hbel.trans (g.bel.mono hbel.size)).cell (p := ⟨b2, off2 + k * 13 + 6, none⟩) l2).trans (by have := hd 6 (by decide); rw [eD] at this; exact this)
      have z7 : ∀ g : Grown wr, g.val.cell? ⟨b, off + k * 13 + 7, none⟩ = some (.int .i64 (S k).cl) := fun g => ((hbel.trans (g.bel.mono hbel.size)).cell (p := ⟨b, off + k * 13 + 7, none⟩) l1).trans (by have := hc 7 (by decide); rw [eC] at this; exact this)
      have y7 : ∀ g : Grown wr, g.val.cell? ⟨b2, off2 + k * 13 + 7, none⟩ = some (.int .i64 (S k).cl) := fun g => ((hbel.trans (g.bel.mono hbel.size)).cell (p := ⟨b2, off2 + k * 13 + 7, none⟩) l2).trans (by have := hd 7 (by decide); rw [eD] at this; exact this)
      have z8 : ∀ g : Grown wr, g.val.cell? ⟨b, off + k * 13 + 8, none⟩ = some (.bool (S k).all) := fun g => ((hbel.trans (g.bel.mono hbel.size)).cell (p := ⟨b, off + k * 13 + 8, none⟩) l1).trans (by have := hc 8 (by decide); rw [eC] at this; exact this)
      have y8 : ∀ g : Grown wr, g.val.cell? ⟨b2, off2 + k * 13 + 8, none⟩ = some (.bool (S k).all) := fun g => ((hbel.trans (g.bel.mono hbel.size)).cell (p := ⟨b2, off2 + k * 13 + 8, none⟩) l2).trans (by have := hd 8 (by decide); rw [eD] at this; exact this)
      have z9 : ∀ g : Grown wr, g.val.cell? ⟨b, off + k * 13 + 9, none⟩ = some (.int .i64 (S k).be) := fun g => ((hbel.trans (g.bel.mono hbel.size)).cell (p := ⟨b, off + k * 13 + 9, none⟩) l1).trans (by have := hc 9 (by decide); rw [eC] at this; exact this)
      have y9 : ∀ g : Grown wr, g.val.cell? ⟨b2, off2 + k * 13 + 9, none⟩ = some (.int .i64 (S k).be) := fun g => ((hbel.trans (g.bel.mono hbel.size)).cell (p := ⟨b2, off2 + k * 13 + 9, none⟩) l2).trans (by have := hd 9 (by decide); rw [eD] at this; exact this)
      have z10 : ∀ g : Grown wr, g.val.cell? ⟨b, off + k * 13 + 10, none⟩ = some (.int .i64 (S k).state) := fun g => ((hbel.trans (g.bel.mono hbel.size)).cell (p := ⟨b, off + k * 13 + 10, none⟩) l1).trans (by have := hc 10 (by decide); rw [eC] at this; exact this)
      have y10 : ∀ g : Grown wr, g.val.cell? ⟨b2, off2 + k * 13 + 10, none⟩ = some (.int .i64 (S k).state) := fun g => ((hbel.trans (g.bel.mono hbel.size)).cell (p := ⟨b2, off2 + k * 13 + 10, none⟩) l2).trans (by have := hd 10 (by decide); rw [eD] at this; exact this)
      have z11 : ∀ g : Grown wr, g.val.cell? ⟨b, off + k * 13 + 11, none⟩ = some (.int .i64 (S k).unt) := fun g => ((hbel.trans (g.bel.mono hbel.size)).cell (p := ⟨b, off + k * 13 + 11, none⟩) l1).trans (by have := hc 11 (by decide); rw [eC] at this; exact this)
      have y11 : ∀ g : Grown wr, g.val.cell? ⟨b2, off2 + k * 13 + 11, none⟩ = some (.int .i64 (S k).unt) := fun g => ((hbel.trans (g.bel.mono hbel.size)).cell (p := ⟨b2, off2 + k * 13 + 11, none⟩) l2).trans (by have := hd 11 (by decide); rw [eD] at this; exact this)
      have z12 : ∀ g : Grown wr, g.val.cell? ⟨b, off + k * 13 + 12, none⟩ = some (.int .i64 (S k).price) := fun g => ((hbel.trans (g.bel.mono hbel.size)).cell (p := ⟨b, off + k * 13 + 12, none⟩) l1).trans (by have := hc 12 (by decide); rw [eC] at this; exact this)
      have y12 : ∀ g : Grown wr, g.val.cell? ⟨b2, off2 + k * 13 + 12, none⟩ = some (.int .i64 (S k).price) := fun g => ((hbel.trans (g.bel.mono hbel.size)).cell (p := ⟨b2, off2 + k * 13 + 12, none⟩) l2).trans (by have := hd 12 (by decide); rw [eD] at this; exact this)
      have ZI : Hid (∀ g : Grown wr, Book.Is g.val [.int .i64 (S k).name, .int .i64 (S k).who, .string (S k).own, .slice alg (S k).lgn clg, .int .i64 (S k).pe, .int .i64 (S k).len, .int .i64 (S k).hei, .int .i64 (S k).cl, .bool (S k).all, .int .i64 (S k).be, .int .i64 (S k).state, .int .i64 (S k).unt, .int .i64 (S k).price] (S k)) := fun g => by rw [← eC]; exact (HIK.out.below hbel).below g.bel
      have ZJ : Hid (∀ g : Grown wr, Book.Is g.val [.int .i64 (S k).name, .int .i64 (S k).who, .string (S k).own, .slice alg' (S k).lgn clg', .int .i64 (S k).pe, .int .i64 (S k).len, .int .i64 (S k).hei, .int .i64 (S k).cl, .bool (S k).all, .int .i64 (S k).be, .int .i64 (S k).state, .int .i64 (S k).unt, .int .i64 (S k).price] (S k)) := fun g => by rw [← eD]; exact (HJK.out.below hbel).below g.bel
      have HSK : Hid (Book.Short (S k) 1048576) := HS.out k hlt
      clear hC hI hD hJ hc hd eC eD HIK HJK hlg slg hlg' slg'
      go_upto_region 6 with fail
      refine wp_region_grow (by kernel_rfl) (by kernel_rfl) ?_
      repeat (first | go_big_quiet_skip | (go_big_quiet_want; go_big_quiet_op; first | go_big_quiet_on | (apply Exists.intro; refine ⟨fun g => ?_, ?_⟩; (focus (first | (go_at_call 70; refine grown_call (v := .bool true) ((eqBooking_same [.int .i64 (S k).name, .int .i64 (S k).who, .string (S k).own, .slice alg (S k).lgn clg, .int .i64 (S k).pe, .int .i64 (S k).len, .int .i64 (S k).hei, .int .i64 (S k).cl, .bool (S k).all, .int .i64 (S k).be, .int .i64 (S k).state, .int .i64 (S k).unt, .int .i64 (S k).price] [.int .i64 (S k).name, .int .i64 (S k).who, .string (S k).own, .slice alg' (S k).lgn clg', .int .i64 (S k).pe, .int .i64 (S k).len, .int .i64 (S k).hei, .int .i64 (S k).cl, .bool (S k).all, .int .i64 (S k).be, .int .i64 (S k).state, .int .i64 (S k).unt, .int .i64 (S k).price] (S k) _ HSK.out (ZI.out g) (ZJ.out g)).mono ?_); rintro e w2 ⟨rfl, hb2⟩; exact ⟨rfl, hb2⟩))); go_big_quiet_on)))
      refine wpQuiet_nil ?_
      rintro _ ⟨g, rfl⟩
      clear z0 y0 z1 y1 z2 y2 z3 y3 z4 y4 z5 y5 z6 y6 z7 y7 z8 y8 z9 y9 z10 y10 z11 y11 z12 y12
      go_wp2
      go_roundw
      case rel => exact ⟨k + 1, by omega, by go_num, after hbel g.bel⟩
      case measure => simp [intOf]; omega
    · go_wp2
      go_ret
      exact ⟨rfl, hbel⟩
end Go.Proofs.YtlelckbeoclhbaaGreat

namespace Go.Proofs.YtlelckbeoclhbaaGreat
open Go.RowKit
structure ViewW where
  bn : Nat
  bk : Nat → Book
  N : Nat
  rn : Nat → Nat
  rf : Nat → Nat → MRow
  ln : Nat → Nat
  lf : Nat → Nat → Int
  qn : Nat → Nat
  qf : Nat → Nat → Int
  pf : Nat → Int
def VShort (V : ViewW) : Prop := V.bn ≤ 1000 ∧ BooksShort V.bn V.bk 1048576 ∧ V.N ≤ 1000 ∧ (∀ i, i < V.N → V.rn i ≤ 1048576) ∧ (∀ i, i < V.N → V.ln i ≤ 1048576) ∧ (∀ i, i < V.N → V.qn i ≤ 1048576)
structure ViewAt (w : World) (ab ar al aq ap : Option Addr) (V : ViewW) : Prop where
  bks : BooksAt w ab V.bn V.bk
  rows : RowSS w ar V.N V.rn V.rf
  lan : IntSS w al V.N V.ln V.lf
  ber : IntSS w aq V.N V.qn V.qf
  peo : IntsAt w ap V.N V.pf
theorem ViewAt.below {w w' : World} {ab ar al aq ap : Option Addr} {V : ViewW} (h : ViewAt w ab ar al aq ap V) (hb : Below w.heap.size w w') : ViewAt w' ab ar al aq ap V :=
  ⟨h.bks.below hb, h.rows.below hb, h.lan.below hb, h.ber.below hb, h.peo.below hb⟩
structure OwnView (w : World) (base lim : Nat) (V : ViewW) (vb vr vl vq vp : Value) (E R L Q : Nat → Value) : Prop where
  bks : OwnBks w base vb V.bn V.bk E
  bkl : ∀ b, BkB vb V.bn E b → b < lim
  rows : OwnSS w lim 55 116 5 vr V.N V.rn (fun i => rowList (V.rf i) (V.rn i)) R
  lan : OwnSS w lim 31 3 1 vl V.N V.ln (fun i => intList (V.lf i) (V.ln i)) L
  ber : OwnSS w lim 31 3 1 vq V.N V.qn (fun i => intList (V.qf i) (V.qn i)) Q
  peo : w.ownsRow lim 3 1 vp V.N (intList V.pf V.N)
  a1 : ∀ i j, i < V.N → j < V.N → ∀ b, (L i).ownBlock = some b → (Q j).ownBlock ≠ some b
  a2 : ∀ i, i < V.N → ∀ b, (L i).ownBlock = some b → vp.ownBlock ≠ some b
  a3 : ∀ i, i < V.N → ∀ b, (Q i).ownBlock = some b → vp.ownBlock ≠ some b
  a4 : ∀ b, vl.ownBlock = some b → vq.ownBlock ≠ some b
  le : base ≤ lim
section
variable {w w' : World} {base lim : Nat} {V : ViewW} {vb vr vl vq vp : Value} {E R L Q : Nat → Value}
theorem OwnView.below (h : OwnView w base lim V vb vr vl vq vp E R L Q) (hb : Below w.heap.size w w') : OwnView w' base lim V vb vr vl vq vp E R L Q :=
  ⟨h.bks.below hb, h.bkl, h.rows.below hb, h.lan.below hb, h.ber.below hb, own_below hb h.peo, h.a1, h.a2, h.a3, h.a4, h.le⟩
theorem OwnView.form (h : OwnView w base lim V vb vr vl vq vp E R L Q) : ∃ ab cb ar cr al cl aq cq ap cp, vb = .slice ab V.bn cb ∧ vr = .slice ar V.N cr ∧ vl = .slice al V.N cl ∧ vq = .slice aq V.N cq ∧ vp = .slice ap V.N cp ∧ ViewAt w ab ar al aq ap V := by
  obtain ⟨ab, cb, rfl, _⟩ := own_form h.bks.row
  obtain ⟨ar, cr, rfl, _⟩ := own_form h.rows.row
  obtain ⟨al, cl, rfl, _⟩ := own_form h.lan.row
  obtain ⟨aq, cq, rfl, _⟩ := own_form h.ber.row
  obtain ⟨ap, cp, rfl, _⟩ := own_form h.peo
  exact ⟨ab, cb, ar, cr, al, cl, aq, cq, ap, cp, rfl, rfl, rfl, rfl, rfl, h.bks.at, h.rows.mrows, h.lan.ints, h.ber.ints, own_ints h.peo⟩
def VwB (V : ViewW) (vb vp : Value) (E R L Q : Nat → Value) (b : Nat) : Prop := BkB vb V.bn E b ∨ SsB V.N R b ∨ SsB V.N L b ∨ SsB V.N Q b ∨ vp.ownBlock = some b
theorem OwnView.blk (h : OwnView w base lim V vb vr vl vq vp E R L Q) : ∀ b, VwB V vb vp E R L Q b → base ≤ b ∧ b < w.heap.size := by
  have hle := h.le
  rintro b ((e | ⟨i, hi, e⟩) | ⟨i, hi, e⟩ | ⟨i, hi, e⟩ | ⟨i, hi, e⟩ | e)
  · exact h.bks.row.lt b e
  · exact (h.bks.legs i hi).lt b e
  · have := (h.rows.each i hi).lt b e; omega
  · have := (h.lan.each i hi).lt b e; omega
  · have := (h.ber.each i hi).lt b e; omega
  · have := h.peo.lt b e; omega
theorem OwnView.kept {T : Nat → Prop} (h : OwnView w base lim V vb vr vl vq vp E R L Q) (hk : Kept w w' T) (hT : ∀ b, T b → base ≤ b → b < w.heap.size → False) : OwnView w' base lim V vb vr vl vq vp E R L Q := by
  have hle := h.le
  have far : ∀ {e sz n : Nat} {v : Value} {xs : List Value}, w.ownsRow lim e sz v n xs → ∀ b, v.ownBlock = some b → ¬ T b := fun ho b e1 e2 => hT b e2 (by have := (World.ownsRow.lt ho b e1).1; omega) (World.ownsRow.lt ho b e1).2
  exact ⟨h.bks.kept hk hT, h.bkl, h.rows.kept hk (far h.rows.row) (fun i hi => far (h.rows.each i hi)), h.lan.kept hk (far h.lan.row) (fun i hi => far (h.lan.each i hi)), h.ber.kept hk (far h.ber.row) (fun i hi => far (h.ber.each i hi)), hk.own h.peo (far h.peo), h.a1, h.a2, h.a3, h.a4, h.le⟩
end
def mV (V : ViewW) (k0 : Nat) : ViewW where
  bn := V.bn
  bk := mB V.bk k0
  N := V.N
  rn := V.rn
  rf := fun i => rowMark (kQ 5 V.rn (kB V.bk k0 V.bn) i)
  ln := V.ln
  lf := fun i j => ((kQ 1 V.ln (kQ 5 V.rn (kB V.bk k0 V.bn) V.N) i : Nat) : Int) + j
  qn := V.qn
  qf := fun i j => ((kQ 1 V.qn (kQ 1 V.ln (kQ 5 V.rn (kB V.bk k0 V.bn) V.N) V.N) i : Nat) : Int) + j
  pf := fun j => ((kQ 1 V.qn (kQ 1 V.ln (kQ 5 V.rn (kB V.bk k0 V.bn) V.N) V.N) V.N : Nat) : Int) + j
def kV (V : ViewW) (k0 : Nat) : Nat := kQ 1 V.qn (kQ 1 V.ln (kQ 5 V.rn (kB V.bk k0 V.bn) V.N) V.N) V.N + V.N
theorem vshort_lg {V : ViewW} (h : VShort V) : ∀ i, i < V.bn → (V.bk i).lgn ≤ 1048576 := fun i hi => (h.2.1 i hi).2
theorem kV_le {V : ViewW} (h : VShort V) {k0 : Nat} (hk : k0 ≤ 1000) : kB V.bk k0 V.bn ≤ 1000 + 1048600000 ∧ kQ 5 V.rn (kB V.bk k0 V.bn) V.N ≤ 10000000000 ∧ kQ 1 V.ln (kQ 5 V.rn (kB V.bk k0 V.bn) V.N) V.N ≤ 20000000000 ∧ kQ 1 V.qn (kQ 1 V.ln (kQ 5 V.rn (kB V.bk k0 V.bn) V.N) V.N) V.N ≤ 30000000000 := by
  obtain ⟨h1, _, h3, h4, h5, h6⟩ := h
  have hl := vshort_lg ⟨h1, ‹_›, h3, h4, h5, h6⟩
  have e1 := kB_le (k0 := k0) hl V.bn (Nat.le_refl _)
  have e2 := kQ_fit (q := 5) (k0 := kB V.bk k0 V.bn) (by decide) h4 V.N (Nat.le_refl _)
  have e3 := kQ_fit (q := 1) (k0 := kQ 5 V.rn (kB V.bk k0 V.bn) V.N) (by decide) h5 V.N (Nat.le_refl _)
  have e4 := kQ_fit (q := 1) (k0 := kQ 1 V.ln (kQ 5 V.rn (kB V.bk k0 V.bn) V.N) V.N) (by decide) h6 V.N (Nat.le_refl _)
  generalize kQ 1 V.qn (kQ 1 V.ln (kQ 5 V.rn (kB V.bk k0 V.bn) V.N) V.N) V.N = z4 at *
  generalize kQ 1 V.ln (kQ 5 V.rn (kB V.bk k0 V.bn) V.N) V.N = z3 at *
  generalize kQ 5 V.rn (kB V.bk k0 V.bn) V.N = z2 at *
  generalize kB V.bk k0 V.bn = z1 at *
  omega
end Go.Proofs.YtlelckbeoclhbaaGreat

namespace Go.Proofs.YtlelckbeoclhbaaGreat
open Go.RowKit
structure VTo (w : World) (base lim : Nat) (V : ViewW) (k1 k2 k3 k4 : Nat) (vb vr vl vq vp : Value) (E R L Q : Nat → Value) : Prop where
  bks : OwnBks w base vb V.bn V.bk E
  bkl : ∀ b, BkB vb V.bn E b → b < lim
  rows : OwnSS w lim 55 116 5 vr k1 V.rn (fun i => rowList (V.rf i) (V.rn i)) R
  lan : OwnSS w lim 31 3 1 vl k2 V.ln (fun i => intList (V.lf i) (V.ln i)) L
  ber : OwnSS w lim 31 3 1 vq k3 V.qn (fun i => intList (V.qf i) (V.qn i)) Q
  peo : w.ownsRow lim 3 1 vp k4 (intList V.pf k4)
  a1 : ∀ i j, i < k2 → j < k3 → ∀ b, (L i).ownBlock = some b → (Q j).ownBlock ≠ some b
  a2 : ∀ i, i < k2 → ∀ b, (L i).ownBlock = some b → vp.ownBlock ≠ some b
  a3 : ∀ i, i < k3 → ∀ b, (Q i).ownBlock = some b → vp.ownBlock ≠ some b
  a4 : ∀ b, vl.ownBlock = some b → vq.ownBlock ≠ some b
  le : base ≤ lim
section
variable {w w' : World} {base lim : Nat} {V : ViewW} {k1 k2 k3 k4 : Nat} {vb vr vl vq vp : Value} {E R L Q : Nat → Value}
theorem VTo.below (h : VTo w base lim V k1 k2 k3 k4 vb vr vl vq vp E R L Q) (hb : Below w.heap.size w w') : VTo w' base lim V k1 k2 k3 k4 vb vr vl vq vp E R L Q :=
  ⟨h.bks.below hb, h.bkl, h.rows.below hb, h.lan.below hb, h.ber.below hb, own_below hb h.peo, h.a1, h.a2, h.a3, h.a4, h.le⟩
theorem VTo.whole (h : VTo w base lim V V.N V.N V.N V.N vb vr vl vq vp E R L Q) : OwnView w base lim V vb vr vl vq vp E R L Q := ⟨h.bks, h.bkl, h.rows, h.lan, h.ber, h.peo, h.a1, h.a2, h.a3, h.a4, h.le⟩
theorem VTo.other {T : Nat → Prop} (h : VTo w base lim V k1 k2 k3 k4 vb vr vl vq vp E R L Q) (hk : Kept w w' T) (hT : ∀ b, T b → ∃ cs t, w.heap[b]? = some (.cells cs t (0, 0)) ∧ 72 ≠ t ∧ 3 ≠ t ∧ 55 ≠ t ∧ 116 ≠ t ∧ 31 ≠ t) : VTo w' base lim V k1 k2 k3 k4 vb vr vl vq vp E R L Q := by
  have far : ∀ {be e sz n : Nat} {v : Value} {xs : List Value}, w.ownsRow be e sz v n xs → (e = 72 ∨ e = 3 ∨ e = 55 ∨ e = 116 ∨ e = 31) → ∀ b, v.ownBlock = some b → ¬ T b := fun ho he b q1 q2 => by
    obtain ⟨cs, t, h1, h2, h3, h4, h5, h6⟩ := hT b q2
    refine own_notE ho h1 ?_ b q1 rfl
    rcases he with rfl | rfl | rfl | rfl | rfl <;> assumption
  exact ⟨⟨hk.own h.bks.row (far h.bks.row (.inl rfl)), fun i hi => hk.own (h.bks.legs i hi) (far (h.bks.legs i hi) (.inr (.inl rfl))), h.bks.apart⟩, h.bkl, h.rows.kept hk (far h.rows.row (.inr (.inr (.inl rfl)))) (fun i hi => far (h.rows.each i hi) (.inr (.inr (.inr (.inl rfl))))),
    h.lan.kept hk (far h.lan.row (.inr (.inr (.inr (.inr rfl))))) (fun i hi => far (h.lan.each i hi) (.inr (.inl rfl))), h.ber.kept hk (far h.ber.row (.inr (.inr (.inr (.inr rfl))))) (fun i hi => far (h.ber.each i hi) (.inr (.inl rfl))), hk.own h.peo (far h.peo (.inr (.inl rfl))), h.a1, h.a2, h.a3, h.a4, h.le⟩
theorem VTo.lanLt (h : VTo w base lim V k1 k2 k3 k4 vb vr vl vq vp E R L Q) {i : Nat} (hi : i < k2) : ∀ b, (L i).ownBlock = some b → b < w.heap.size := fun b e => ((h.lan.each i hi).lt b e).2
theorem VTo.berLt (h : VTo w base lim V k1 k2 k3 k4 vb vr vl vq vp E R L Q) {i : Nat} (hi : i < k3) : ∀ b, (Q i).ownBlock = some b → b < w.heap.size := fun b e => ((h.ber.each i hi).lt b e).2
theorem VTo.rowLt (h : VTo w base lim V k1 k2 k3 k4 vb vr vl vq vp E R L Q) {i : Nat} (hi : i < k1) : ∀ b, (R i).ownBlock = some b → b < w.heap.size := fun b e => ((h.rows.each i hi).lt b e).2
theorem VTo.peoLt (h : VTo w base lim V k1 k2 k3 k4 vb vr vl vq vp E R L Q) : ∀ b, vp.ownBlock = some b → b < w.heap.size := fun b e => (h.peo.lt b e).2
theorem VTo.row {v' rv : Value} (h : VTo w base lim V k1 k2 k3 k4 vb vr vl vq vp E R L Q) (hl : w.ownsRow lim 116 5 rv (V.rn k1) (rowList (V.rf k1) (V.rn k1))) (hf : ∀ i, i < k1 → ∀ b, (R i).ownBlock = some b → rv.ownBlock ≠ some b) (hg : w.grownBy w' vr.ownBlock)
    (ho : w'.ownsRow lim 55 1 v' (k1 + 1) ((List.range k1).map R ++ [rv])) : VTo w' base lim V (k1 + 1) k2 k3 k4 vb v' vl vq vp E (atV R k1 rv) L Q := by
  have hk := kept_row hg
  have ty : ∀ {be e sz n : Nat} {v : Value} {xs : List Value}, w.ownsRow be e sz v n xs → 55 ≠ e → ∀ b, v.ownBlock = some b → ¬ vr.ownBlock = some b := fun ho hne b q1 q2 => own_apart h.rows.row ho hne b q2 q1
  exact ⟨⟨hk.own h.bks.row (ty h.bks.row (by decide)), fun i hi => hk.own (h.bks.legs i hi) (ty (h.bks.legs i hi) (by decide)), h.bks.apart⟩, h.bkl, h.rows.snoc hl hf (by decide) hg ho, h.lan.kept hk (ty h.lan.row (by decide)) (fun i hi => ty (h.lan.each i hi) (by decide)), h.ber.kept hk (ty h.ber.row (by decide)) (fun i hi => ty (h.ber.each i hi) (by decide)),
    hk.own h.peo (ty h.peo (by decide)), h.a1, h.a2, h.a3, h.a4, h.le⟩
theorem VTo.lane {v' rv : Value} (h : VTo w base lim V k1 k2 k3 k4 vb vr vl vq vp E R L Q) (hl : w.ownsRow lim 3 1 rv (V.ln k2) (intList (V.lf k2) (V.ln k2))) (hf : ∀ i, i < k2 → ∀ b, (L i).ownBlock = some b → rv.ownBlock ≠ some b) (hf2 : ∀ j, j < k3 → ∀ b, (Q j).ownBlock = some b → rv.ownBlock ≠ some b) (hf3 : ∀ b, rv.ownBlock = some b → vp.ownBlock ≠ some b) (hg : w.grownBy w' vl.ownBlock)
    (ho : w'.ownsRow lim 31 1 v' (k2 + 1) ((List.range k2).map L ++ [rv])) (hat : ∀ b, v'.ownBlock = some b → vl.ownBlock = some b ∨ w.heap.size ≤ b) : VTo w' base lim V k1 (k2 + 1) k3 k4 vb vr v' vq vp E R (atV L k2 rv) Q := by
  have hk := kept_row hg
  have ty : ∀ {be e sz n : Nat} {v : Value} {xs : List Value}, w.ownsRow be e sz v n xs → 31 ≠ e → ∀ b, v.ownBlock = some b → ¬ vl.ownBlock = some b := fun ho hne b q1 q2 => own_apart h.lan.row ho hne b q2 q1
  refine ⟨⟨hk.own h.bks.row (ty h.bks.row (by decide)), fun i hi => hk.own (h.bks.legs i hi) (ty (h.bks.legs i hi) (by decide)), h.bks.apart⟩, h.bkl, h.rows.kept hk (ty h.rows.row (by decide)) (fun i hi => ty (h.rows.each i hi) (by decide)), h.lan.snoc hl hf (by decide) hg ho, h.ber.kept hk (fun b q1 q2 => h.a4 b q2 q1) (fun i hi => ty (h.ber.each i hi) (by decide)),
    hk.own h.peo (ty h.peo (by decide)), fun i j hi hj b => ?_, fun i hi b => ?_, h.a3, fun b q1 q2 => ?_, h.le⟩
  · by_cases e : i = k2
    · subst e; rw [atV_at]; exact fun q1 q2 => hf2 j hj b q2 q1
    · rw [atV_ne _ _ _ _ e]; exact h.a1 i j (by omega) hj b
  · by_cases e : i = k2
    · subst e; rw [atV_at]; exact hf3 b
    · rw [atV_ne _ _ _ _ e]; exact h.a2 i (by omega) b
  · rcases hat b q1 with q | q
    · exact h.a4 b q q2
    · have := (h.ber.row.lt b q2).2; omega
theorem VTo.berth {v' rv : Value} (h : VTo w base lim V k1 k2 k3 k4 vb vr vl vq vp E R L Q) (hl : w.ownsRow lim 3 1 rv (V.qn k3) (intList (V.qf k3) (V.qn k3))) (hf : ∀ i, i < k3 → ∀ b, (Q i).ownBlock = some b → rv.ownBlock ≠ some b) (hf2 : ∀ j, j < k2 → ∀ b, (L j).ownBlock = some b → rv.ownBlock ≠ some b) (hf3 : ∀ b, rv.ownBlock = some b → vp.ownBlock ≠ some b) (hg : w.grownBy w' vq.ownBlock)
    (ho : w'.ownsRow lim 31 1 v' (k3 + 1) ((List.range k3).map Q ++ [rv])) (hat : ∀ b, v'.ownBlock = some b → vq.ownBlock = some b ∨ w.heap.size ≤ b) : VTo w' base lim V k1 k2 (k3 + 1) k4 vb vr vl v' vp E R L (atV Q k3 rv) := by
  have hk := kept_row hg
  have ty : ∀ {be e sz n : Nat} {v : Value} {xs : List Value}, w.ownsRow be e sz v n xs → 31 ≠ e → ∀ b, v.ownBlock = some b → ¬ vq.ownBlock = some b := fun ho hne b q1 q2 => own_apart h.ber.row ho hne b q2 q1
  refine ⟨⟨hk.own h.bks.row (ty h.bks.row (by decide)), fun i hi => hk.own (h.bks.legs i hi) (ty (h.bks.legs i hi) (by decide)), h.bks.apart⟩, h.bkl, h.rows.kept hk (ty h.rows.row (by decide)) (fun i hi => ty (h.rows.each i hi) (by decide)), h.lan.kept hk (fun b q1 q2 => h.a4 b q1 q2) (fun i hi => ty (h.lan.each i hi) (by decide)), h.ber.snoc hl hf (by decide) hg ho,
    hk.own h.peo (ty h.peo (by decide)), fun i j hi hj b => ?_, h.a2, fun i hi b => ?_, fun b q1 q2 => ?_, h.le⟩
  · by_cases e : j = k3
    · subst e; rw [atV_at]; exact hf2 i hi b
    · rw [atV_ne _ _ _ _ e]; exact h.a1 i j hi (by omega) b
  · by_cases e : i = k3
    · subst e; rw [atV_at]; exact hf3 b
    · rw [atV_ne _ _ _ _ e]; exact h.a3 i (by omega) b
  · rcases hat b q2 with q | q
    · exact h.a4 b q1 q
    · have := (h.lan.row.lt b q1).2; omega
theorem intList_snoc (F : Nat → Int) (k : Nat) : intList F (k + 1) = intList F k ++ [.int .i64 (F k)] := by unfold intList; rw [List.range_succ, List.map_append]; rfl
theorem VTo.people {v' : Value} (h : VTo w base lim V k1 k2 k3 k4 vb vr vl vq vp E R L Q) (hg : w.grownBy w' vp.ownBlock)
    (ho : w'.ownsRow lim 3 1 v' (k4 + 1) (intList V.pf k4 ++ [.int .i64 (V.pf k4)])) (hat : ∀ b, v'.ownBlock = some b → vp.ownBlock = some b ∨ w.heap.size ≤ b) : VTo w' base lim V k1 k2 k3 (k4 + 1) vb vr vl vq v' E R L Q := by
  have hk := kept_row hg
  have ty : ∀ {be e sz n : Nat} {v : Value} {xs : List Value}, w.ownsRow be e sz v n xs → 3 ≠ e → ∀ b, v.ownBlock = some b → ¬ vp.ownBlock = some b := fun ho hne b q1 q2 => own_apart h.peo ho hne b q2 q1
  refine ⟨⟨hk.own h.bks.row (ty h.bks.row (by decide)), fun i hi => hk.own (h.bks.legs i hi) (fun b q1 q2 => ?_), h.bks.apart⟩, h.bkl, h.rows.kept hk (ty h.rows.row (by decide)) (fun i hi => ty (h.rows.each i hi) (by decide)), h.lan.kept hk (ty h.lan.row (by decide)) (fun i hi b q1 q2 => h.a2 i hi b q1 q2), h.ber.kept hk (ty h.ber.row (by decide)) (fun i hi b q1 q2 => h.a3 i hi b q1 q2),
    by rw [intList_snoc]; exact ho, h.a1, fun i hi b q1 q2 => ?_, fun i hi b q1 q2 => ?_, h.a4, h.le⟩
  · have := (h.peo.lt b q2).1
    have := h.bkl b (.inr ⟨i, hi, q1⟩)
    omega
  · rcases hat b q2 with q | q
    · exact h.a2 i hi b q1 q
    · have := h.lanLt hi b q1; omega
  · rcases hat b q2 with q | q
    · exact h.a3 i hi b q1 q
    · have := h.berLt hi b q1; omega
end
end Go.Proofs.YtlelckbeoclhbaaGreat
