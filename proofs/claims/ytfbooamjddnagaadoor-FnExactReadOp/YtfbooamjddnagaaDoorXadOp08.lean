/-
  OWN TEXT: LOp, LawRp, LawRead.
-/
import Derived.Deep.RegionHeld3
import Derived.Deep.DeepCutAuto
import Derived.Test.YtfbooamjddnagaaDoorB07
import Derived.Test.YtfbooamjddnagaaDoorB06
import Derived.Test.YtfbooamjddnagaaDoorXadOp06
import Derived.Test.YtfbooamjddnagaaDoorXadOp07
namespace Go.Proofs.YtfbooamjddnagaaDoor
open Go.RowKit

theorem op_set_3_4 {w : World} {g t : Nat} {u0 u1 u2 u3 u4 u5 u6 u7 u8 u9 u10 u11 v3 : Value} (h : w.heap[g]? = some (.cells #[u0, u1, u2, u3, u4, u5, u6, u7, u8, u9, u10, u11] t (0, 0))) : (setFrom w g 3 [v3]).heap[g]? = some (.cells #[u0, u1, u2, v3, u4, u5, u6, u7, u8, u9, u10, u11] t (0, 0)) := by
  have := (blk_set h 3 v3)
  simp only [setFrom]
  simpa using this
theorem op_set_4_12 {w : World} {g t : Nat} {u0 u1 u2 u3 u4 u5 u6 u7 u8 u9 u10 u11 v4 v5 v6 v7 v8 v9 v10 v11 : Value} (h : w.heap[g]? = some (.cells #[u0, u1, u2, u3, u4, u5, u6, u7, u8, u9, u10, u11] t (0, 0))) : (setFrom w g 4 [v4, v5, v6, v7, v8, v9, v10, v11]).heap[g]? = some (.cells #[u0, u1, u2, u3, v4, v5, v6, v7, v8, v9, v10, v11] t (0, 0)) := by
  have := (blk_set (blk_set (blk_set (blk_set (blk_set (blk_set (blk_set (blk_set h 4 v4) 5 v5) 6 v6) 7 v7) 8 v8) 9 v9) 10 v10) 11 v11)
  simp only [setFrom]
  simpa using this
theorem op_set_0_12 {w : World} {g t : Nat} {u0 u1 u2 u3 u4 u5 u6 u7 u8 u9 u10 u11 v0 v1 v2 v3 v4 v5 v6 v7 v8 v9 v10 v11 : Value} (h : w.heap[g]? = some (.cells #[u0, u1, u2, u3, u4, u5, u6, u7, u8, u9, u10, u11] t (0, 0))) : (setFrom w g 0 [v0, v1, v2, v3, v4, v5, v6, v7, v8, v9, v10, v11]).heap[g]? = some (.cells #[v0, v1, v2, v3, v4, v5, v6, v7, v8, v9, v10, v11] t (0, 0)) := by
  have := (blk_set (blk_set (blk_set (blk_set (blk_set (blk_set (blk_set (blk_set (blk_set (blk_set (blk_set (blk_set h 0 v0) 1 v1) 2 v2) 3 v3) 4 v4) 5 v5) 6 v6) 7 v7) 8 v8) 9 v9) 10 v10) 11 v11)
  simp only [setFrom]
  simpa using this

set_option maxHeartbeats 800000 in
theorem szOp_raw (kind : Int) (own : ByteArray) (name : Int) (alg : Option Addr) (lgn clg : Nat) (pe : Int) (len : Int) (hei : Int) (cl : Int) (all : Bool) (be : Int) (unt : Int) (now : Int) (L : Int) (w : World) (h0 : 0 ≤ L) (hL : L ≤ 1048576) (bown : own.size ≤ 1000000000000000) (blg : lgn ≤ 1000000000000000) :
    Calls Tryd.prog 7 #[.agg #[.int .i64 kind, .string own, .int .i64 name, .slice alg lgn clg, .int .i64 pe, .int .i64 len, .int .i64 hei, .int .i64 cl, .bool all, .int .i64 be, .int .i64 unt, .int .i64 now], .int .i64 L] w fun e w' => ∃ r : Int, e = .returned (.int .i64 r) ∧ (r = -1 ∨ (0 ≤ r ∧ r ≤ L ∧ own.size ≤ 1048576 ∧ lgn ≤ 1048576)) ∧ Below w.heap.size w w' := by
  have hb0 : Below w.heap.size w (w.alloc (.cells #[.int .i64 kind, .string own, .int .i64 name, .slice alg lgn clg, .int .i64 pe, .int .i64 len, .int .i64 hei, .int .i64 cl, .bool all, .int .i64 be, .int .i64 unt, .int .i64 now] 26)) := push (Below.refl _ _) _
  have hA0 := heap_alloc_new w (.cells #[.int .i64 kind, .string own, .int .i64 name, .slice alg lgn clg, .int .i64 pe, .int .i64 len, .int .i64 hei, .int .i64 cl, .bool all, .int .i64 be, .int .i64 unt, .int .i64 now] 26)
  by_cases gown : (own.size : Int) ≤ L
  · have eown : decide (L - (own.size : Int) < 0) = false := by simp; omega
    go_enter Tryd.func7, Tryd.ntmps7
    go_wp2_with fail
    refine (szIntS_any alg lgn clg (L - (own.size : Int)) _ (by omega) (by omega) blg).mono ?_
    rintro e w1 ⟨r1, rfl, hr1, hb1'⟩
    have hA1' := blk_below hA0 hb1'
    have hbb1 := after hb0 hb1'
    rcases hr1 with rfl | ⟨r10, r11, r12⟩
    · go_wp2
      go_ret
      exact ⟨_, rfl, .inl rfl, hbb1⟩
    · have d1 : decide (r1 < 0) = false := by simpa using r10
      go_wp2
      go_ret
      exact ⟨_, rfl, .inr ⟨by omega, by omega, by omega, r12⟩, hbb1⟩
  · have eown : decide (L - (own.size : Int) < 0) = true := by simp; omega
    go_enter Tryd.func7, Tryd.ntmps7
    go_wp2
    go_ret
    exact ⟨_, rfl, .inl rfl, hb0⟩

set_option maxHeartbeats 3200000 in
set_option maxRecDepth 100000 in
theorem toOp_raw (kind : Int) (own : ByteArray) (name : Int) (alg : Option Addr) (lgn clg : Nat) (lg : Nat → Int) (pe : Int) (len : Int) (hei : Int) (cl : Int) (all : Bool) (be : Int) (unt : Int) (now : Int) (w : World) (nlg : lgn ≤ 1048576) (hlg : IntsAt w alg lgn lg) :
    Calls Tryd.prog 9 #[.agg #[.int .i64 kind, .string own, .int .i64 name, .slice alg lgn clg, .int .i64 pe, .int .i64 len, .int .i64 hei, .int .i64 cl, .bool all, .int .i64 be, .int .i64 unt, .int .i64 now]] w fun e w' => ∃ llg, e = .returned (.agg #[.int .i64 kind, .string own, .int .i64 name, .slice (some ⟨llg, 0, none⟩) lgn lgn, .int .i64 pe, .int .i64 len, .int .i64 hei, .int .i64 cl, .bool all, .int .i64 be, .int .i64 unt, .int .i64 now]) ∧ (w.heap.size ≤ llg ∧ llg < w'.heap.size ∧ w'.rowIs llg 3 lgn (fun k => .int .i64 (lg k))) ∧ Below w.heap.size w w' := by
  go_enter Tryd.func9, Tryd.ntmps9
  go_wp2_with fail
  obtain ⟨W0, hW0⟩ : ∃ W, W = (((w.alloc (.cells #[.int .i64 kind, .string own, .int .i64 name, .slice alg lgn clg, .int .i64 pe, .int .i64 len, .int .i64 hei, .int .i64 cl, .bool all, .int .i64 be, .int .i64 unt, .int .i64 now] 26)).alloc (.cells #[.int .i64 0, .string ⟨#[]⟩, .int .i64 0, .slice none 0 0, .int .i64 0, .int .i64 0, .int .i64 0, .int .i64 0, .bool false, .int .i64 0, .int .i64 0, .int .i64 0] 32)).alloc (.cells #[.int .i64 kind, .string own, .int .i64 name, .slice none 0 0, .int .i64 0, .int .i64 0, .int .i64 0, .int .i64 0, .bool false, .int .i64 0, .int .i64 0, .int .i64 0] 32)) := ⟨_, rfl⟩
  have H0 : Below w.heap.size w W0 := by rw [hW0]; exact push (push (push (Below.refl _ _) _) _) _
  have A0 : W0.heap[w.heap.size]? = some (.cells #[.int .i64 kind, .string own, .int .i64 name, .slice alg lgn clg, .int .i64 pe, .int .i64 len, .int .i64 hei, .int .i64 cl, .bool all, .int .i64 be, .int .i64 unt, .int .i64 now] 26 (0, 0)) := by rw [hW0]; exact blk_alloc (blk_alloc (heap_alloc_new w _) _) _
  have R0 : W0.heap[w.heap.size + 1]? = some (.cells #[.int .i64 0, .string ⟨#[]⟩, .int .i64 0, .slice none 0 0, .int .i64 0, .int .i64 0, .int .i64 0, .int .i64 0, .bool false, .int .i64 0, .int .i64 0, .int .i64 0] 32 (0, 0)) := by rw [hW0]; exact blk_alloc (by simpa using heap_alloc_new (w.alloc _) _) _
  have O0 : W0.heap[w.heap.size + 1 + 1]? = some (.cells #[.int .i64 kind, .string own, .int .i64 name, .slice none 0 0, .int .i64 0, .int .i64 0, .int .i64 0, .int .i64 0, .bool false, .int .i64 0, .int .i64 0, .int .i64 0] 32 (0, 0)) := by rw [hW0]; simpa using heap_alloc_new ((w.alloc _).alloc _) _
  rw [← hW0]
  clear hW0
  refine (toIntS_any alg lgn clg lg _ nlg (hlg.below H0)).mono ?_
  rintro e v0 ⟨llg, rfl, gllg, rowlg, hb0⟩
  have Av0 := blk_below A0 hb0
  have Rv0 := blk_below R0 hb0
  have Ov0 := blk_below O0 hb0
  have Hv0 := after H0 hb0
  have gtlg : w.heap.size + 1 + 1 < llg := by have := blk_lt O0; omega
  have gelg : w.heap.size ≤ llg := by omega
  clear A0 R0 O0 H0 hb0 gllg
  have qa4 := blk_cell Av0 4 _ rfl
  have qa5 := blk_cell Av0 5 _ rfl
  have qa6 := blk_cell Av0 6 _ rfl
  have qa7 := blk_cell Av0 7 _ rfl
  have qa8 := blk_cell Av0 8 _ rfl
  have qa9 := blk_cell Av0 9 _ rfl
  have fo3 := blk_free Ov0 3
  have qo3 := blk_cell Ov0 3 _ rfl
  go_wp2_with fail
  clear qa4 qa5 qa6 qa7 qa8 qa9 fo3 qo3
  obtain ⟨W1, hW1⟩ : ∃ W, W = setFrom v0 (w.heap.size + 1 + 1) 3 [.slice (some ⟨llg, 0, none⟩) lgn lgn] := ⟨_, rfl⟩
  have A1 : W1.heap[w.heap.size]? = some (.cells #[.int .i64 kind, .string own, .int .i64 name, .slice alg lgn clg, .int .i64 pe, .int .i64 len, .int .i64 hei, .int .i64 cl, .bool all, .int .i64 be, .int .i64 unt, .int .i64 now] 26 (0, 0)) := by rw [hW1]; exact setFrom_blk_other (by omega) _ _ _ Av0
  have R1 : W1.heap[w.heap.size + 1]? = some (.cells #[.int .i64 0, .string ⟨#[]⟩, .int .i64 0, .slice none 0 0, .int .i64 0, .int .i64 0, .int .i64 0, .int .i64 0, .bool false, .int .i64 0, .int .i64 0, .int .i64 0] 32 (0, 0)) := by rw [hW1]; exact setFrom_blk_other (by omega) _ _ _ Rv0
  have O1 : W1.heap[w.heap.size + 1 + 1]? = some (.cells #[.int .i64 kind, .string own, .int .i64 name, .slice (some ⟨llg, 0, none⟩) lgn lgn, .int .i64 0, .int .i64 0, .int .i64 0, .int .i64 0, .bool false, .int .i64 0, .int .i64 0, .int .i64 0] 32 (0, 0)) := by rw [hW1]; exact op_set_3_4 Ov0
  have H1 : Below w.heap.size w W1 := by rw [hW1]; exact setFrom_below (by omega) _ _ _ Hv0
  have rowlg' : W1.rowIs llg 3 lgn (fun k => .int .i64 (lg k)) := by rw [hW1]; exact setFrom_other (by omega) _ _ _ rowlg
  have hC1 : W1 = (v0.setCell ⟨w.heap.size + 1 + 1, 3, none⟩ (.slice (some ⟨llg, 0, none⟩) lgn lgn)) := by rw [hW1]; rfl
  rw [← hC1]
  clear hW1 hC1 Av0 Rv0 Ov0 Hv0 rowlg
  have rowlg := rowlg'
  clear rowlg'
  refine (toParty_any pe len hei cl all be _).mono ?_
  rintro e v1 ⟨rfl, hb1⟩
  have Av1 := blk_below A1 hb1
  have Rv1 := blk_below R1 hb1
  have Ov1 := blk_below O1 hb1
  have Hv1 := after H1 hb1
  have rowlg1 := row_below rowlg hb1
  clear A1 R1 O1 H1 hb1 rowlg
  have rowlg := rowlg1
  clear rowlg1
  have qa10 := blk_cell Av1 10 _ rfl
  have qa11 := blk_cell Av1 11 _ rfl
  have fo4 := blk_free Ov1 4
  have fo5 := blk_free Ov1 5
  have fo6 := blk_free Ov1 6
  have fo7 := blk_free Ov1 7
  have fo8 := blk_free Ov1 8
  have fo9 := blk_free Ov1 9
  have fo10 := blk_free Ov1 10
  have fo11 := blk_free Ov1 11
  have qo0 := blk_cell Ov1 0 _ rfl
  have qo1 := blk_cell Ov1 1 _ rfl
  have qo2 := blk_cell Ov1 2 _ rfl
  have qo3 := blk_cell Ov1 3 _ rfl
  have qo4 := blk_cell Ov1 4 _ rfl
  have qo5 := blk_cell Ov1 5 _ rfl
  have qo6 := blk_cell Ov1 6 _ rfl
  have qo7 := blk_cell Ov1 7 _ rfl
  have qo8 := blk_cell Ov1 8 _ rfl
  have qo9 := blk_cell Ov1 9 _ rfl
  have qo10 := blk_cell Ov1 10 _ rfl
  have qo11 := blk_cell Ov1 11 _ rfl
  have z0 := blk_free Rv1 0
  have y0 := blk_cell Rv1 0 _ rfl
  have z1 := blk_free Rv1 1
  have y1 := blk_cell Rv1 1 _ rfl
  have z2 := blk_free Rv1 2
  have y2 := blk_cell Rv1 2 _ rfl
  have z3 := blk_free Rv1 3
  have y3 := blk_cell Rv1 3 _ rfl
  have z4 := blk_free Rv1 4
  have y4 := blk_cell Rv1 4 _ rfl
  have z5 := blk_free Rv1 5
  have y5 := blk_cell Rv1 5 _ rfl
  have z6 := blk_free Rv1 6
  have y6 := blk_cell Rv1 6 _ rfl
  have z7 := blk_free Rv1 7
  have y7 := blk_cell Rv1 7 _ rfl
  have z8 := blk_free Rv1 8
  have y8 := blk_cell Rv1 8 _ rfl
  have z9 := blk_free Rv1 9
  have y9 := blk_cell Rv1 9 _ rfl
  have z10 := blk_free Rv1 10
  have y10 := blk_cell Rv1 10 _ rfl
  have z11 := blk_free Rv1 11
  have y11 := blk_cell Rv1 11 _ rfl
  go_wp2
  clear qa10 qa11 fo4 fo5 fo6 fo7 fo8 fo9 fo10 fo11 qo0 qo1 qo2 qo3 qo4 qo5 qo6 qo7 qo8 qo9 qo10 qo11 z0 y0 z1 y1 z2 y2 z3 y3 z4 y4 z5 y5 z6 y6 z7 y7 z8 y8 z9 y9 z10 y10 z11 y11
  obtain ⟨W2, hW2⟩ : ∃ W, W = setFrom v1 (w.heap.size + 1 + 1) 4 [.int .i64 pe, .int .i64 len, .int .i64 hei, .int .i64 cl, .bool all, .int .i64 be, .int .i64 unt, .int .i64 now] := ⟨_, rfl⟩
  have A2 : W2.heap[w.heap.size]? = some (.cells #[.int .i64 kind, .string own, .int .i64 name, .slice alg lgn clg, .int .i64 pe, .int .i64 len, .int .i64 hei, .int .i64 cl, .bool all, .int .i64 be, .int .i64 unt, .int .i64 now] 26 (0, 0)) := by rw [hW2]; exact setFrom_blk_other (by omega) _ _ _ Av1
  have R2 : W2.heap[w.heap.size + 1]? = some (.cells #[.int .i64 0, .string ⟨#[]⟩, .int .i64 0, .slice none 0 0, .int .i64 0, .int .i64 0, .int .i64 0, .int .i64 0, .bool false, .int .i64 0, .int .i64 0, .int .i64 0] 32 (0, 0)) := by rw [hW2]; exact setFrom_blk_other (by omega) _ _ _ Rv1
  have O2 : W2.heap[w.heap.size + 1 + 1]? = some (.cells #[.int .i64 kind, .string own, .int .i64 name, .slice (some ⟨llg, 0, none⟩) lgn lgn, .int .i64 pe, .int .i64 len, .int .i64 hei, .int .i64 cl, .bool all, .int .i64 be, .int .i64 unt, .int .i64 now] 32 (0, 0)) := by rw [hW2]; exact op_set_4_12 Ov1
  have H2 : Below w.heap.size w W2 := by rw [hW2]; exact setFrom_below (by omega) _ _ _ Hv1
  have rowlg' : W2.rowIs llg 3 lgn (fun k => .int .i64 (lg k)) := by rw [hW2]; exact setFrom_other (by omega) _ _ _ rowlg
  have hC2 : W2 = ((((((((v1.setCell ⟨w.heap.size + 1 + 1, 4, none⟩ (.int .i64 pe)).setCell ⟨w.heap.size + 1 + 1, 5, none⟩ (.int .i64 len)).setCell ⟨w.heap.size + 1 + 1, 6, none⟩ (.int .i64 hei)).setCell ⟨w.heap.size + 1 + 1, 7, none⟩ (.int .i64 cl)).setCell ⟨w.heap.size + 1 + 1, 8, none⟩ (.bool all)).setCell ⟨w.heap.size + 1 + 1, 9, none⟩ (.int .i64 be)).setCell ⟨w.heap.size + 1 + 1, 10, none⟩ (.int .i64 unt)).setCell ⟨w.heap.size + 1 + 1, 11, none⟩ (.int .i64 now)) := by rw [hW2]; rfl
  rw [← hC2]
  clear hW2 hC2 Av1 Rv1 Ov1 Hv1 rowlg
  have rowlg := rowlg'
  clear rowlg'
  obtain ⟨F, hF⟩ : ∃ F, F = setFrom W2 (w.heap.size + 1) 0 [.int .i64 kind, .string own, .int .i64 name, .slice (some ⟨llg, 0, none⟩) lgn lgn, .int .i64 pe, .int .i64 len, .int .i64 hei, .int .i64 cl, .bool all, .int .i64 be, .int .i64 unt, .int .i64 now] := ⟨_, rfl⟩
  have RF : F.heap[w.heap.size + 1]? = some (.cells #[.int .i64 kind, .string own, .int .i64 name, .slice (some ⟨llg, 0, none⟩) lgn lgn, .int .i64 pe, .int .i64 len, .int .i64 hei, .int .i64 cl, .bool all, .int .i64 be, .int .i64 unt, .int .i64 now] 32 (0, 0)) := by rw [hF]; exact op_set_0_12 R2
  have HF : Below w.heap.size w F := by rw [hF]; exact setFrom_below (by omega) _ _ _ H2
  have rFlg : F.rowIs llg 3 lgn (fun k => .int .i64 (lg k)) := by rw [hF]; exact setFrom_other (by omega) _ _ _ rowlg
  have hCF : F = ((((((((((((W2.setCell ⟨w.heap.size + 1, 0, none⟩ (.int .i64 kind)).setCell ⟨w.heap.size + 1, 1, none⟩ (.string own)).setCell ⟨w.heap.size + 1, 2, none⟩ (.int .i64 name)).setCell ⟨w.heap.size + 1, 3, none⟩ (.slice (some ⟨llg, 0, none⟩) lgn lgn)).setCell ⟨w.heap.size + 1, 4, none⟩ (.int .i64 pe)).setCell ⟨w.heap.size + 1, 5, none⟩ (.int .i64 len)).setCell ⟨w.heap.size + 1, 6, none⟩ (.int .i64 hei)).setCell ⟨w.heap.size + 1, 7, none⟩ (.int .i64 cl)).setCell ⟨w.heap.size + 1, 8, none⟩ (.bool all)).setCell ⟨w.heap.size + 1, 9, none⟩ (.int .i64 be)).setCell ⟨w.heap.size + 1, 10, none⟩ (.int .i64 unt)).setCell ⟨w.heap.size + 1, 11, none⟩ (.int .i64 now)) := by rw [hF]; rfl
  rw [← hCF]
  clear hF hCF
  have z0 := blk_cell RF 0 _ rfl
  have z1 := blk_cell RF 1 _ rfl
  have z2 := blk_cell RF 2 _ rfl
  have z3 := blk_cell RF 3 _ rfl
  have z4 := blk_cell RF 4 _ rfl
  have z5 := blk_cell RF 5 _ rfl
  have z6 := blk_cell RF 6 _ rfl
  have z7 := blk_cell RF 7 _ rfl
  have z8 := blk_cell RF 8 _ rfl
  have z9 := blk_cell RF 9 _ rfl
  have z10 := blk_cell RF 10 _ rfl
  have z11 := blk_cell RF 11 _ rfl
  exact bodyPost_ret (v := .agg #[.int .i64 kind, .string own, .int .i64 name, .slice (some ⟨llg, 0, none⟩) lgn lgn, .int .i64 pe, .int .i64 len, .int .i64 hei, .int .i64 cl, .bool all, .int .i64 be, .int .i64 unt, .int .i64 now]) (by simp [results, Tryd.results9, go_sem, z0, z1, z2, z3, z4, z5, z6, z7, z8, z9, z10, z11]) rfl ⟨llg, rfl, ⟨gelg, rFlg.lt, rFlg⟩, HF⟩

set_option maxHeartbeats 3200000 in
set_option maxRecDepth 100000 in
theorem eqOp_raw (kind : Int) (own : ByteArray) (name : Int) (alg : Option Addr) (lgn clg : Nat) (lg : Nat → Int) (pe : Int) (len : Int) (hei : Int) (cl : Int) (all : Bool) (be : Int) (unt : Int) (now : Int) (alg' : Option Addr) (clg' : Nat) (w : World) (nlg : lgn ≤ 1048576) (hlg : IntsAt w alg lgn lg) (hlg' : IntsAt w alg' lgn lg) :
    Calls Tryd.prog 11 #[.agg #[.int .i64 kind, .string own, .int .i64 name, .slice alg lgn clg, .int .i64 pe, .int .i64 len, .int .i64 hei, .int .i64 cl, .bool all, .int .i64 be, .int .i64 unt, .int .i64 now], .agg #[.int .i64 kind, .string own, .int .i64 name, .slice alg' lgn clg', .int .i64 pe, .int .i64 len, .int .i64 hei, .int .i64 cl, .bool all, .int .i64 be, .int .i64 unt, .int .i64 now]] w fun e w' => e = .returned (.bool true) ∧ Below w.heap.size w w' := by
  have H0 : Below w.heap.size w ((w.alloc (.cells #[.int .i64 kind, .string own, .int .i64 name, .slice alg lgn clg, .int .i64 pe, .int .i64 len, .int .i64 hei, .int .i64 cl, .bool all, .int .i64 be, .int .i64 unt, .int .i64 now] 32)).alloc (.cells #[.int .i64 kind, .string own, .int .i64 name, .slice alg' lgn clg', .int .i64 pe, .int .i64 len, .int .i64 hei, .int .i64 cl, .bool all, .int .i64 be, .int .i64 unt, .int .i64 now] 32)) := push (push (Below.refl _ _) _) _
  have A0 : ((w.alloc (.cells #[.int .i64 kind, .string own, .int .i64 name, .slice alg lgn clg, .int .i64 pe, .int .i64 len, .int .i64 hei, .int .i64 cl, .bool all, .int .i64 be, .int .i64 unt, .int .i64 now] 32)).alloc (.cells #[.int .i64 kind, .string own, .int .i64 name, .slice alg' lgn clg', .int .i64 pe, .int .i64 len, .int .i64 hei, .int .i64 cl, .bool all, .int .i64 be, .int .i64 unt, .int .i64 now] 32)).heap[w.heap.size]? = some (.cells #[.int .i64 kind, .string own, .int .i64 name, .slice alg lgn clg, .int .i64 pe, .int .i64 len, .int .i64 hei, .int .i64 cl, .bool all, .int .i64 be, .int .i64 unt, .int .i64 now] 32 (0, 0)) := blk_alloc (heap_alloc_new w _) _
  have B0 : ((w.alloc (.cells #[.int .i64 kind, .string own, .int .i64 name, .slice alg lgn clg, .int .i64 pe, .int .i64 len, .int .i64 hei, .int .i64 cl, .bool all, .int .i64 be, .int .i64 unt, .int .i64 now] 32)).alloc (.cells #[.int .i64 kind, .string own, .int .i64 name, .slice alg' lgn clg', .int .i64 pe, .int .i64 len, .int .i64 hei, .int .i64 cl, .bool all, .int .i64 be, .int .i64 unt, .int .i64 now] 32)).heap[w.heap.size + 1]? = some (.cells #[.int .i64 kind, .string own, .int .i64 name, .slice alg' lgn clg', .int .i64 pe, .int .i64 len, .int .i64 hei, .int .i64 cl, .bool all, .int .i64 be, .int .i64 unt, .int .i64 now] 32 (0, 0)) := by simpa using heap_alloc_new (w.alloc _) _
  go_enter Tryd.func11, Tryd.ntmps11
  go_wp2_with fail
  generalize (w.alloc (.cells #[.int .i64 kind, .string own, .int .i64 name, .slice alg lgn clg, .int .i64 pe, .int .i64 len, .int .i64 hei, .int .i64 cl, .bool all, .int .i64 be, .int .i64 unt, .int .i64 now] 32)).alloc (.cells #[.int .i64 kind, .string own, .int .i64 name, .slice alg' lgn clg', .int .i64 pe, .int .i64 len, .int .i64 hei, .int .i64 cl, .bool all, .int .i64 be, .int .i64 unt, .int .i64 now] 32) = v at H0 A0 B0 ⊢
  refine (eqIntS_same alg alg' lgn clg clg' lg _ nlg (hlg.below H0) (hlg'.below H0)).mono ?_
  rintro e v0 ⟨rfl, hb0⟩
  have A1 := blk_below A0 hb0
  have B1 := blk_below B0 hb0
  have H1 := after H0 hb0
  clear A0 B0 H0 hb0
  have qa4 := blk_cell A1 4 _ rfl
  have qb4 := blk_cell B1 4 _ rfl
  have qa5 := blk_cell A1 5 _ rfl
  have qb5 := blk_cell B1 5 _ rfl
  have qa6 := blk_cell A1 6 _ rfl
  have qb6 := blk_cell B1 6 _ rfl
  have qa7 := blk_cell A1 7 _ rfl
  have qb7 := blk_cell B1 7 _ rfl
  have qa8 := blk_cell A1 8 _ rfl
  have qb8 := blk_cell B1 8 _ rfl
  have qa9 := blk_cell A1 9 _ rfl
  have qb9 := blk_cell B1 9 _ rfl
  go_wp2_with fail
  clear qa4 qb4 qa5 qb5 qa6 qb6 qa7 qb7 qa8 qb8 qa9 qb9
  refine (eqParty_same pe len hei cl all be _).mono ?_
  rintro e v1 ⟨rfl, hb1⟩
  have A2 := blk_below A1 hb1
  have B2 := blk_below B1 hb1
  have H2 := after H1 hb1
  clear A1 B1 H1 hb1
  have qa10 := blk_cell A2 10 _ rfl
  have qb10 := blk_cell B2 10 _ rfl
  have qa11 := blk_cell A2 11 _ rfl
  have qb11 := blk_cell B2 11 _ rfl
  go_wp2
  go_ret
  exact ⟨rfl, H2⟩

theorem szOp_any (cs : List Value) (x : OpD) (L : Int) (w : World) (h0 : 0 ≤ L) (hL : L ≤ 1048576) (hs : OpD.Short x 1000000000000000) (h : OpD.Is w cs x) :
    Calls Tryd.prog 7 #[.agg cs.toArray, .int .i64 L] w fun e w' => ∃ r : Int, e = .returned (.int .i64 r) ∧ (r = -1 ∨ (0 ≤ r ∧ r ≤ L ∧ OpD.Short x 1048576)) ∧ Below w.heap.size w w' := by
  obtain ⟨alg, clg, rfl, hlg, slg⟩ := h
  obtain ⟨bown, blg⟩ := hs
  exact szOp_raw _ _ _ _ _ _ _ _ _ _ _ _ _ _ L w h0 hL bown blg
theorem toOp_any (cs : List Value) (x : OpD) (w : World) (hs : OpD.Short x 1048576) (h : OpD.Is w cs x) :
    Calls Tryd.prog 9 #[.agg cs.toArray] w fun e w' => ∃ cs', e = .returned (.agg cs'.toArray) ∧ OpD.In w' w.heap.size w'.heap.size cs' x ∧ Below w.heap.size w w' := by
  obtain ⟨alg, clg, rfl, hlg, slg⟩ := h
  obtain ⟨_, blg⟩ := hs
  refine (toOp_raw _ _ _ _ _ _ _ _ _ _ _ _ _ _ _ w blg hlg).mono ?_
  rintro e w' ⟨llg, he, rlg, hb⟩
  exact ⟨_, he, ⟨llg, rfl, rlg⟩, hb⟩
theorem eqOp_same (cs ds : List Value) (x : OpD) (w : World) (hs : OpD.Short x 1048576) (h : OpD.Is w cs x) (h' : OpD.Is w ds x) :
    Calls Tryd.prog 11 #[.agg cs.toArray, .agg ds.toArray] w fun e w' => e = .returned (.bool true) ∧ Below w.heap.size w w' := by
  obtain ⟨alg, clg, rfl, hlg, slg⟩ := h
  obtain ⟨alg', clg', rfl, hlg', slg'⟩ := h'
  obtain ⟨_, blg⟩ := hs
  exact eqOp_raw _ _ _ _ _ _ _ _ _ _ _ _ _ _ _ _ _ w blg hlg hlg'

end Go.Proofs.YtfbooamjddnagaaDoor

namespace Go.Proofs.YtfbooamjddnagaaDoor
open Go.RowKit

theorem is_same {w : World} {cs : List Value} {x y : OpD} (h : OpD.Is w cs x) (e : SameOp y x) : OpD.Is w cs y := by
  obtain ⟨k, o, n, ln, f, p1, p2, p3, p4, p5, p6, u, v⟩ := x
  obtain ⟨k', o', n', ln', f', q1, q2, q3, q4, q5, q6, u', v'⟩ := y
  obtain ⟨e1, e2, e3, e4, e5, e6, e7, e8⟩ := e
  dsimp only [OpD.p] at e1 e2 e3 e4 e5 e6 e7 e8
  simp only [Party.mk.injEq] at e6
  obtain ⟨rfl, rfl, rfl, rfl, rfl, rfl⟩ := e6
  subst e1 e2 e3 e4 e7 e8
  obtain ⟨ao, c, h1, h2, h3⟩ := h
  refine ⟨ao, c, h1, fun j hj => ?_, h3⟩
  obtain ⟨b, off, ea, hc⟩ := h2 j hj
  exact ⟨b, off, ea, by rw [hc]; dsimp only; rw [e5 j hj]⟩
theorem same_text {a b : OpD} (e : SameOp a b) (h : HasText b) : HasText a ∧ opT a = opT b := by
  obtain ⟨k, o, n, ln, f, p1, p2, p3, p4, p5, p6, u, v⟩ := b
  obtain ⟨k', o', n', ln', f', q1, q2, q3, q4, q5, q6, u', v'⟩ := a
  obtain ⟨e1, e2, e3, e4, e5, e6, e7, e8⟩ := e
  dsimp only [OpD.p] at e1 e2 e3 e4 e5 e6 e7 e8
  simp only [Party.mk.injEq] at e6
  obtain ⟨rfl, rfl, rfl, rfl, rfl, rfl⟩ := e6
  subst e1 e2 e3 e4 e7 e8
  have hl : legsT ln' f' = legsT ln' f := by
    unfold legsT
    congr 1
    refine List.map_congr_left fun i hi => ?_
    rw [e5 i (List.mem_range.1 hi)]
  refine ⟨⟨h.1, fun i hi => ?_⟩, ?_⟩
  · have := h.2 i hi
    dsimp only at this ⊢
    rw [e5 i hi]
    exact this
  · unfold opT opP6 opP5 opP4 opP3
    dsimp only
    rw [hl]
    rfl
theorem SameOp.symm {a b : OpD} (h : SameOp a b) : SameOp b a :=
  ⟨h.1.symm, h.2.1.symm, h.2.2.1.symm, h.2.2.2.1.symm, fun i hi => (h.2.2.2.2.1 i (by rw [← h.2.2.2.1]; exact hi)).symm, h.2.2.2.2.2.1.symm, h.2.2.2.2.2.2.1.symm, h.2.2.2.2.2.2.2.symm⟩
theorem read_same {s : ByteArray} {w1 v1 w2 v2 : World} {y1 y2 : OpR} {k1 k2 : Bool} (h1 : ReadOut s w1 v1 y1 k1) (h2 : ReadOut s w2 v2 y2 k2) : k1 = k2 ∧ SameOp y1.d y2.d := by
  obtain ⟨x1, a1, b1⟩ := h1.ans
  obtain ⟨x2, a2, b2⟩ := h2.ans
  rcases a1 with ⟨rfl, t1, s1, rfl⟩ | ⟨rfl, n1, rfl⟩
  · rcases a2 with ⟨rfl, t2, s2, rfl⟩ | ⟨rfl, n2, rfl⟩
    · exact ⟨rfl, b1 _ t2 s2⟩
    · have e := b2 _ t1 s1
      have h := same_text e t1
      exact absurd ⟨h.1, h.2.trans s1⟩ n2
  · rcases a2 with ⟨rfl, t2, s2, rfl⟩ | ⟨rfl, n2, rfl⟩
    · have e := b1 _ t2 s2
      have h := same_text e t2
      exact absurd ⟨h.1, h.2.trans s2⟩ n1
    · exact ⟨rfl, rfl, rfl, rfl, rfl, fun _ _ => rfl, rfl, rfl, rfl⟩
theorem read_short {s : ByteArray} {w v : World} {y : OpR} {k : Bool} (h : ReadOut s w v y k) : y.L.length ≤ 3 ∧ y.own.size ≤ 12 := by
  obtain ⟨x, a, _⟩ := h.ans
  rcases a with ⟨_, t, _, rfl⟩ | ⟨_, _, rfl⟩
  · have h1 := t.1.2.1
    have h2 := t.1.2.2.2.1
    constructor
    · change LegsOkFor y.kind y.L.length at h2
      unfold LegsOkFor at h2
      split at h2
      · exact h2.2
      · split at h2 <;> omega
    · change OwnerOk y.kind y.own at h1
      unfold OwnerOk at h1
      split at h1
      · exact h1.2.1
      · omega
  · exact ⟨Nat.zero_le _, Nat.zero_le _⟩

set_option maxHeartbeats 800000 in
theorem markOp_own (k nm pe len hei cl be unt now : Int) (own : ByteArray) (all : Bool) (ao : Option Addr) (n c base : Nat) (F : Nat → Int) (w : World) (hn : n ≤ 4194304) (ho : w.ownsRow base 3 1 (.slice ao n c) n (intList F n)) :
    Calls Tryd.prog 14 #[.agg #[.int .i64 k, .string own, .int .i64 nm, .slice ao n c, .int .i64 pe, .int .i64 len, .int .i64 hei, .int .i64 cl, .bool all, .int .i64 be, .int .i64 unt, .int .i64 now], .int .i64 1] w fun e w' => e = .returned (.int .i64 (1 + n)) ∧ w'.ownsRow base 3 1 (.slice ao n c) n (intList (fun j => 1 + j) n) ∧ Kept w w' (fun b => ∃ g, ao = some ⟨g, 0, none⟩ ∧ b = g) := by
  have A0 := heap_alloc_new w (.cells #[.int .i64 k, .string own, .int .i64 nm, .slice ao n c, .int .i64 pe, .int .i64 len, .int .i64 hei, .int .i64 cl, .bool all, .int .i64 be, .int .i64 unt, .int .i64 now] 32)
  have hb0 : Below w.heap.size w (w.alloc (.cells #[.int .i64 k, .string own, .int .i64 nm, .slice ao n c, .int .i64 pe, .int .i64 len, .int .i64 hei, .int .i64 cl, .bool all, .int .i64 be, .int .i64 unt, .int .i64 now] 32)) := push (Below.refl _ _) _
  have HO : Hid (World.ownsRow (w.alloc (.cells #[.int .i64 k, .string own, .int .i64 nm, .slice ao n c, .int .i64 pe, .int .i64 len, .int .i64 hei, .int .i64 cl, .bool all, .int .i64 be, .int .i64 unt, .int .i64 now] 32)) base 3 1 (.slice ao n c) n (intList F n)) := own_below hb0 ho
  clear ho
  go_enter Tryd.func14, Tryd.ntmps14
  go_upto_region 1 with fail
  generalize w.alloc (.cells #[.int .i64 k, .string own, .int .i64 nm, .slice ao n c, .int .i64 pe, .int .i64 len, .int .i64 hei, .int .i64 cl, .bool all, .int .i64 be, .int .i64 unt, .int .i64 now] 32) = W at A0 hb0 HO ⊢
  have y3 := blk_cell A0 3 _ rfl
  go_wp2_with fail
  refine (markIntS_own ao n c base F 1 W hn (by omega) (by omega) HO.out).mono ?_
  rintro e w2 ⟨rfl, ho2, hk2⟩
  have HO2 : Hid (w2.ownsRow base 3 1 (.slice ao n c) n (intList (fun j => 1 + j) n)) := ho2
  have HK2 : Hid (Kept w w2 (fun b => ∃ g, ao = some ⟨g, 0, none⟩ ∧ b = g)) := (Kept.of_below hb0).trans hk2
  clear ho2 hk2 y3 A0 hb0
  go_wp2
  go_ret
  exact ⟨rfl, HO2.out, HK2.out⟩

set_option maxHeartbeats 800000 in
theorem heldOp_yes (k nm pe len hei cl be unt now : Int) (own : ByteArray) (all : Bool) (ao : Option Addr) (n c : Nat) (w : World) (hn : n ≤ 4194304) (hz : IntsAt w ao n (fun j => 1 + j)) :
    Calls Tryd.prog 15 #[.agg #[.int .i64 k, .string own, .int .i64 nm, .slice ao n c, .int .i64 pe, .int .i64 len, .int .i64 hei, .int .i64 cl, .bool all, .int .i64 be, .int .i64 unt, .int .i64 now], .int .i64 1] w fun e w' => e = .returned (.int .i64 (1 + n)) ∧ Below w.heap.size w w' := by
  have A0 := heap_alloc_new w (.cells #[.int .i64 k, .string own, .int .i64 nm, .slice ao n c, .int .i64 pe, .int .i64 len, .int .i64 hei, .int .i64 cl, .bool all, .int .i64 be, .int .i64 unt, .int .i64 now] 32)
  have hb0 : Below w.heap.size w (w.alloc (.cells #[.int .i64 k, .string own, .int .i64 nm, .slice ao n c, .int .i64 pe, .int .i64 len, .int .i64 hei, .int .i64 cl, .bool all, .int .i64 be, .int .i64 unt, .int .i64 now] 32)) := push (Below.refl _ _) _
  have HZ : Hid (IntsAt (w.alloc (.cells #[.int .i64 k, .string own, .int .i64 nm, .slice ao n c, .int .i64 pe, .int .i64 len, .int .i64 hei, .int .i64 cl, .bool all, .int .i64 be, .int .i64 unt, .int .i64 now] 32)) ao n (fun j => 1 + j)) := hz.below hb0
  clear hz
  go_enter Tryd.func15, Tryd.ntmps15
  go_upto_region 1 with fail
  generalize w.alloc (.cells #[.int .i64 k, .string own, .int .i64 nm, .slice ao n c, .int .i64 pe, .int .i64 len, .int .i64 hei, .int .i64 cl, .bool all, .int .i64 be, .int .i64 unt, .int .i64 now] 32) = W at A0 hb0 HZ ⊢
  have y3 := blk_cell A0 3 _ rfl
  have d0 : decide ((1 : Int) + (n : Int) < 0) = false := decide_eq_false (by omega)
  go_wp2_with fail
  refine (heldIntS_yes ao n c 1 W hn (by omega) (by omega) HZ.out).mono ?_
  rintro e w2 ⟨rfl, hw2⟩
  have hw2 := hw2.symm
  subst hw2
  go_wp2
  go_ret
  exact ⟨rfl, hb0⟩

end Go.Proofs.YtfbooamjddnagaaDoor

namespace Go.Proofs.YtfbooamjddnagaaDoor
open Go.RowKit

set_option maxHeartbeats 3200000 in
set_option maxRecDepth 100000 in
theorem lawReadOp (s : ByteArray) (w : World) (_hn : s.size ≤ 1000000000000000) (hF : FormsAt w ∧ PowAt w ∧ WordsAt w) :
    Calls Tryd.prog 4 #[.string s] w fun e w' => e = .returned (.bool true) ∧ Below w.heap.size w w' := by
  have HF : Hid (FormsAt w ∧ PowAt w ∧ WordsAt w) := hF
  clear hF
  by_cases hs : s.size ≤ 1048576
  case neg =>
    have d0 : decide (1048576 < s.size) = true := decide_eq_true (by omega)
    have d1 : decide ((1048576 : Int) < (s.size : Int)) = true := decide_eq_true (by omega)
    go_enter Tryd.func4, Tryd.ntmps4
    go_wp2
    go_ret
    exact ⟨rfl, Below.refl _ _⟩
  have d0 : decide (1048576 < s.size) = false := decide_eq_false (by omega)
  have d1 : decide ((1048576 : Int) < (s.size : Int)) = false := decide_eq_false (by omega)
  go_enter Tryd.func4, Tryd.ntmps4
  go_wp2_with fail
  refine (specRead_any s _ hs).mono ?_
  rintro e w1 ⟨y1, k1, rfl, h1⟩
  have HR1 : Hid (ReadOut s w w1 y1 k1) := h1
  have hB1 := after (Below.refl w.heap.size w) h1.bel
  have l1 := (read_short h1).1
  obtain ⟨a1, c1, hv, hvc, hvm, hvn⟩ := own_form h1.own
  have ecs : y1.cs = #[.int .i64 y1.kind, .string y1.own, .int .i64 y1.name, .slice a1 y1.L.length c1, .int .i64 y1.p.pe, .int .i64 y1.p.len, .int .i64 y1.p.hei, .int .i64 y1.p.cl, .bool y1.p.all, .int .i64 y1.p.be, .int .i64 y1.unt, .int .i64 y1.now] := by unfold OpR.cs; rw [hv]
  rw [ecs]
  have HO1 : Hid (World.ownsRow (w1.alloc (.cells #[.int .i64 y1.kind, .string y1.own, .int .i64 y1.name, .slice a1 y1.L.length c1, .int .i64 y1.p.pe, .int .i64 y1.p.len, .int .i64 y1.p.hei, .int .i64 y1.p.cl, .bool y1.p.all, .int .i64 y1.p.be, .int .i64 y1.unt, .int .i64 y1.now] 32)) w.heap.size 3 1 (.slice a1 y1.L.length c1) y1.L.length (cellsI y1.L)) := own_below (push (Below.refl _ _) _) (by have h := h1.own; rw [hv] at h; exact h)
  have HI1 : Hid (OpD.Is (w1.alloc (.cells #[.int .i64 y1.kind, .string y1.own, .int .i64 y1.name, .slice a1 y1.L.length c1, .int .i64 y1.p.pe, .int .i64 y1.p.len, .int .i64 y1.p.hei, .int .i64 y1.p.cl, .bool y1.p.all, .int .i64 y1.p.be, .int .i64 y1.unt, .int .i64 y1.now] 32)) [.int .i64 y1.kind, .string y1.own, .int .i64 y1.name, .slice a1 y1.L.length c1, .int .i64 y1.p.pe, .int .i64 y1.p.len, .int .i64 y1.p.hei, .int .i64 y1.p.cl, .bool y1.p.all, .int .i64 y1.p.be, .int .i64 y1.unt, .int .i64 y1.now] y1.d) := ⟨a1, c1, rfl, own_ints HO1.out, ⟨hvc, hvm, hvn⟩⟩
  have HSH1 : Hid (OpD.Short y1.d 1048576) := ⟨by have h := (read_short h1).2; show y1.own.size ≤ _; omega, by show y1.L.length ≤ _; omega⟩
  have X1 := heap_alloc_new w1 (.cells #[.int .i64 y1.kind, .string y1.own, .int .i64 y1.name, .slice a1 y1.L.length c1, .int .i64 y1.p.pe, .int .i64 y1.p.len, .int .i64 y1.p.hei, .int .i64 y1.p.cl, .bool y1.p.all, .int .i64 y1.p.be, .int .i64 y1.unt, .int .i64 y1.now] 32)
  have b1 : Below w.heap.size w (w1.alloc (.cells #[.int .i64 y1.kind, .string y1.own, .int .i64 y1.name, .slice a1 y1.L.length c1, .int .i64 y1.p.pe, .int .i64 y1.p.len, .int .i64 y1.p.hei, .int .i64 y1.p.cl, .bool y1.p.all, .int .i64 y1.p.be, .int .i64 y1.unt, .int .i64 y1.now] 32)) := push h1.bel _
  have P1 := push hB1 (.cells #[.int .i64 y1.kind, .string y1.own, .int .i64 y1.name, .slice a1 y1.L.length c1, .int .i64 y1.p.pe, .int .i64 y1.p.len, .int .i64 y1.p.hei, .int .i64 y1.p.cl, .bool y1.p.all, .int .i64 y1.p.be, .int .i64 y1.unt, .int .i64 y1.now] 32)
  clear h1 hv hvc hvm hvn ecs hB1
  go_upto_region 4 with fail
  generalize w1.alloc (.cells #[.int .i64 y1.kind, .string y1.own, .int .i64 y1.name, .slice a1 y1.L.length c1, .int .i64 y1.p.pe, .int .i64 y1.p.len, .int .i64 y1.p.hei, .int .i64 y1.p.cl, .bool y1.p.all, .int .i64 y1.p.be, .int .i64 y1.unt, .int .i64 y1.now] 32) = W1 at HO1 HI1 X1 b1 P1 ⊢
  clear b1 d0 d1
  go_wp2_with fail
  refine (implRead_any s W1 hs (HF.out.2.1.below P1) (HF.out.1.below P1) (HF.out.2.2.below P1)).mono ?_
  rintro e w2 ⟨y2, k2, rfl, h2⟩
  have HR2 : Hid (ReadOut s W1 w2 y2 k2) := h2
  have hB2 := after P1 h2.bel
  have l2 := (read_short h2).1
  obtain ⟨a2, c2, hv, hvc, hvm, hvn⟩ := own_form h2.own
  have ecs : y2.cs = #[.int .i64 y2.kind, .string y2.own, .int .i64 y2.name, .slice a2 y2.L.length c2, .int .i64 y2.p.pe, .int .i64 y2.p.len, .int .i64 y2.p.hei, .int .i64 y2.p.cl, .bool y2.p.all, .int .i64 y2.p.be, .int .i64 y2.unt, .int .i64 y2.now] := by unfold OpR.cs; rw [hv]
  rw [ecs]
  have HO2 : Hid (World.ownsRow (w2.alloc (.cells #[.int .i64 y2.kind, .string y2.own, .int .i64 y2.name, .slice a2 y2.L.length c2, .int .i64 y2.p.pe, .int .i64 y2.p.len, .int .i64 y2.p.hei, .int .i64 y2.p.cl, .bool y2.p.all, .int .i64 y2.p.be, .int .i64 y2.unt, .int .i64 y2.now] 32)) W1.heap.size 3 1 (.slice a2 y2.L.length c2) y2.L.length (cellsI y2.L)) := own_below (push (Below.refl _ _) _) (by have h := h2.own; rw [hv] at h; exact h)
  have HI2 : Hid (OpD.Is (w2.alloc (.cells #[.int .i64 y2.kind, .string y2.own, .int .i64 y2.name, .slice a2 y2.L.length c2, .int .i64 y2.p.pe, .int .i64 y2.p.len, .int .i64 y2.p.hei, .int .i64 y2.p.cl, .bool y2.p.all, .int .i64 y2.p.be, .int .i64 y2.unt, .int .i64 y2.now] 32)) [.int .i64 y2.kind, .string y2.own, .int .i64 y2.name, .slice a2 y2.L.length c2, .int .i64 y2.p.pe, .int .i64 y2.p.len, .int .i64 y2.p.hei, .int .i64 y2.p.cl, .bool y2.p.all, .int .i64 y2.p.be, .int .i64 y2.unt, .int .i64 y2.now] y2.d) := ⟨a2, c2, rfl, own_ints HO2.out, ⟨hvc, hvm, hvn⟩⟩
  have HSH2 : Hid (OpD.Short y2.d 1048576) := ⟨by have h := (read_short h2).2; show y2.own.size ≤ _; omega, by show y2.L.length ≤ _; omega⟩
  have X2 := heap_alloc_new w2 (.cells #[.int .i64 y2.kind, .string y2.own, .int .i64 y2.name, .slice a2 y2.L.length c2, .int .i64 y2.p.pe, .int .i64 y2.p.len, .int .i64 y2.p.hei, .int .i64 y2.p.cl, .bool y2.p.all, .int .i64 y2.p.be, .int .i64 y2.unt, .int .i64 y2.now] 32)
  have b2 : Below W1.heap.size W1 (w2.alloc (.cells #[.int .i64 y2.kind, .string y2.own, .int .i64 y2.name, .slice a2 y2.L.length c2, .int .i64 y2.p.pe, .int .i64 y2.p.len, .int .i64 y2.p.hei, .int .i64 y2.p.cl, .bool y2.p.all, .int .i64 y2.p.be, .int .i64 y2.unt, .int .i64 y2.now] 32)) := push h2.bel _
  have P2 := push hB2 (.cells #[.int .i64 y2.kind, .string y2.own, .int .i64 y2.name, .slice a2 y2.L.length c2, .int .i64 y2.p.pe, .int .i64 y2.p.len, .int .i64 y2.p.hei, .int .i64 y2.p.cl, .bool y2.p.all, .int .i64 y2.p.be, .int .i64 y2.unt, .int .i64 y2.now] 32)
  clear h2 hv hvc hvm hvn ecs hB2
  go_upto_region 5 with fail
  generalize w2.alloc (.cells #[.int .i64 y2.kind, .string y2.own, .int .i64 y2.name, .slice a2 y2.L.length c2, .int .i64 y2.p.pe, .int .i64 y2.p.len, .int .i64 y2.p.hei, .int .i64 y2.p.cl, .bool y2.p.all, .int .i64 y2.p.be, .int .i64 y2.unt, .int .i64 y2.now] 32) = W2 at HO2 HI2 X2 b2 P2 ⊢
  obtain ⟨hkk, hsm⟩ := read_same HR2.out HR1.out
  have HSM : Hid (SameOp y2.d y1.d) := hsm
  subst hkk
  have kn : (k2 != k2) = false := by simp
  have kn' : (k2 == k2) = true := by simp
  clear hsm
  have x1 := blk_below X1 b2
  have p0 := blk_cell x1 0 _ rfl
  have p1 := blk_cell x1 1 _ rfl
  have p2 := blk_cell x1 2 _ rfl
  have p3 := blk_cell x1 3 _ rfl
  have p4 := blk_cell x1 4 _ rfl
  have p5 := blk_cell x1 5 _ rfl
  have p6 := blk_cell x1 6 _ rfl
  have p7 := blk_cell x1 7 _ rfl
  have p8 := blk_cell x1 8 _ rfl
  have p9 := blk_cell x1 9 _ rfl
  have p10 := blk_cell x1 10 _ rfl
  have p11 := blk_cell x1 11 _ rfl
  have q0 := blk_cell X2 0 _ rfl
  have q1 := blk_cell X2 1 _ rfl
  have q2 := blk_cell X2 2 _ rfl
  have q3 := blk_cell X2 3 _ rfl
  have q4 := blk_cell X2 4 _ rfl
  have q5 := blk_cell X2 5 _ rfl
  have q6 := blk_cell X2 6 _ rfl
  have q7 := blk_cell X2 7 _ rfl
  have q8 := blk_cell X2 8 _ rfl
  have q9 := blk_cell X2 9 _ rfl
  have q10 := blk_cell X2 10 _ rfl
  have q11 := blk_cell X2 11 _ rfl
  go_wp2_with fail
  refine (eqOp_same [.int .i64 y2.kind, .string y2.own, .int .i64 y2.name, .slice a2 y2.L.length c2, .int .i64 y2.p.pe, .int .i64 y2.p.len, .int .i64 y2.p.hei, .int .i64 y2.p.cl, .bool y2.p.all, .int .i64 y2.p.be, .int .i64 y2.unt, .int .i64 y2.now] [.int .i64 y1.kind, .string y1.own, .int .i64 y1.name, .slice a1 y1.L.length c1, .int .i64 y1.p.pe, .int .i64 y1.p.len, .int .i64 y1.p.hei, .int .i64 y1.p.cl, .bool y1.p.all, .int .i64 y1.p.be, .int .i64 y1.unt, .int .i64 y1.now] y2.d W2 HSH2.out HI2.out (is_same (HI1.out.below b2) HSM.out)).mono ?_
  rintro e w3 ⟨rfl, hb3⟩
  have B3 := after b2 hb3
  have P3 := after P2 hb3
  have X3 := blk_below X2 hb3
  have HO3 : Hid (w3.ownsRow W1.heap.size 3 1 (.slice a2 y2.L.length c2) y2.L.length (cellsI y2.L)) := own_below hb3 HO2.out
  clear p0 p1 p2 p3 p4 p5 p6 p7 p8 p9 p10 p11 q0 q1 q2 q3 q4 q5 q6 q7 q8 q9 q10 q11 x1 HO2 HI2 hb3 b2 P2 X2
  have q0 := blk_cell X3 0 _ rfl
  have q1 := blk_cell X3 1 _ rfl
  have q2 := blk_cell X3 2 _ rfl
  have q3 := blk_cell X3 3 _ rfl
  have q4 := blk_cell X3 4 _ rfl
  have q5 := blk_cell X3 5 _ rfl
  have q6 := blk_cell X3 6 _ rfl
  have q7 := blk_cell X3 7 _ rfl
  have q8 := blk_cell X3 8 _ rfl
  have q9 := blk_cell X3 9 _ rfl
  have q10 := blk_cell X3 10 _ rfl
  have q11 := blk_cell X3 11 _ rfl
  go_wp2_with fail
  refine (markOp_own _ _ _ _ _ _ _ _ _ _ _ a2 y2.L.length c2 W1.heap.size (getI y2.L) w3 (by omega) HO3.out).mono ?_
  rintro e w4 ⟨rfl, ho4, hk4⟩
  have hlo : ∀ k, (∃ g, a2 = some ⟨g, 0, none⟩ ∧ k = g) → W1.heap.size ≤ k ∧ k ≠ w2.heap.size := by
    rintro k ⟨g, rfl, rfl⟩
    refine ⟨(World.ownsRow.lt HO3.out k rfl).1, own_notT HO3.out X3 (by decide) k rfl⟩
  have B4 : Below W1.heap.size W1 w4 := Kept.below B3 B3.size hk4 (fun k hk => (hlo k hk).1)
  have P4 : Below w.heap.size w w4 := Kept.below P3 P3.size hk4 (fun k hk => by have := (hlo k hk).1; have := P1.size; omega)
  have X4 := hk4.blk X3 (fun h => (hlo _ h).2 rfl)
  have HZ4 : Hid (IntsAt w4 a2 y2.L.length (fun j => 1 + j)) := own_ints ho4
  have nn : decide ((1 : Int) + (y2.L.length : Int) < 0) = false := decide_eq_false (by omega)
  have ne : (((1 : Int) + (y2.L.length : Int)) != ((1 : Int) + (y2.L.length : Int))) = false := by simp
  clear q0 q1 q2 q3 q4 q5 q6 q7 q8 q9 q10 q11 B3 P3 X3 HO3 ho4 hk4 hlo
  have q0 := blk_cell X4 0 _ rfl
  have q1 := blk_cell X4 1 _ rfl
  have q2 := blk_cell X4 2 _ rfl
  have q3 := blk_cell X4 3 _ rfl
  have q4 := blk_cell X4 4 _ rfl
  have q5 := blk_cell X4 5 _ rfl
  have q6 := blk_cell X4 6 _ rfl
  have q7 := blk_cell X4 7 _ rfl
  have q8 := blk_cell X4 8 _ rfl
  have q9 := blk_cell X4 9 _ rfl
  have q10 := blk_cell X4 10 _ rfl
  have q11 := blk_cell X4 11 _ rfl
  go_wp2_with fail
  refine (heldOp_yes _ _ _ _ _ _ _ _ _ _ _ a2 y2.L.length c2 w4 (by omega) HZ4.out).mono ?_
  rintro e w5 ⟨rfl, hb5⟩
  have B5 := after B4 hb5
  have P5 := after P4 hb5
  have X5 := blk_below X4 hb5
  have HZ5 : Hid (IntsAt w5 a2 y2.L.length (fun j => 1 + j)) := HZ4.out.below hb5
  clear q0 q1 q2 q3 q4 q5 q6 q7 q8 q9 q10 q11 B4 P4 X4 HZ4 hb5
  go_wp2_with fail
  refine (implRead_any s w5 hs (HF.out.2.1.below P5) (HF.out.1.below P5) (HF.out.2.2.below P5)).mono ?_
  rintro e w6 ⟨y3, k3, rfl, h3⟩
  have HR3 : Hid (ReadOut s w5 w6 y3 k3) := h3
  have hB3 := after P5 h3.bel
  have l3 := (read_short h3).1
  obtain ⟨a3, c3, hv, hvc, hvm, hvn⟩ := own_form h3.own
  have ecs : y3.cs = #[.int .i64 y3.kind, .string y3.own, .int .i64 y3.name, .slice a3 y3.L.length c3, .int .i64 y3.p.pe, .int .i64 y3.p.len, .int .i64 y3.p.hei, .int .i64 y3.p.cl, .bool y3.p.all, .int .i64 y3.p.be, .int .i64 y3.unt, .int .i64 y3.now] := by unfold OpR.cs; rw [hv]
  rw [ecs]
  have HO3 : Hid (World.ownsRow (w6.alloc (.cells #[.int .i64 y3.kind, .string y3.own, .int .i64 y3.name, .slice a3 y3.L.length c3, .int .i64 y3.p.pe, .int .i64 y3.p.len, .int .i64 y3.p.hei, .int .i64 y3.p.cl, .bool y3.p.all, .int .i64 y3.p.be, .int .i64 y3.unt, .int .i64 y3.now] 32)) w5.heap.size 3 1 (.slice a3 y3.L.length c3) y3.L.length (cellsI y3.L)) := own_below (push (Below.refl _ _) _) (by have h := h3.own; rw [hv] at h; exact h)
  have HI3 : Hid (OpD.Is (w6.alloc (.cells #[.int .i64 y3.kind, .string y3.own, .int .i64 y3.name, .slice a3 y3.L.length c3, .int .i64 y3.p.pe, .int .i64 y3.p.len, .int .i64 y3.p.hei, .int .i64 y3.p.cl, .bool y3.p.all, .int .i64 y3.p.be, .int .i64 y3.unt, .int .i64 y3.now] 32)) [.int .i64 y3.kind, .string y3.own, .int .i64 y3.name, .slice a3 y3.L.length c3, .int .i64 y3.p.pe, .int .i64 y3.p.len, .int .i64 y3.p.hei, .int .i64 y3.p.cl, .bool y3.p.all, .int .i64 y3.p.be, .int .i64 y3.unt, .int .i64 y3.now] y3.d) := ⟨a3, c3, rfl, own_ints HO3.out, ⟨hvc, hvm, hvn⟩⟩
  have HSH3 : Hid (OpD.Short y3.d 1048576) := ⟨by have h := (read_short h3).2; show y3.own.size ≤ _; omega, by show y3.L.length ≤ _; omega⟩
  have X3 := heap_alloc_new w6 (.cells #[.int .i64 y3.kind, .string y3.own, .int .i64 y3.name, .slice a3 y3.L.length c3, .int .i64 y3.p.pe, .int .i64 y3.p.len, .int .i64 y3.p.hei, .int .i64 y3.p.cl, .bool y3.p.all, .int .i64 y3.p.be, .int .i64 y3.unt, .int .i64 y3.now] 32)
  have b3 : Below w5.heap.size w5 (w6.alloc (.cells #[.int .i64 y3.kind, .string y3.own, .int .i64 y3.name, .slice a3 y3.L.length c3, .int .i64 y3.p.pe, .int .i64 y3.p.len, .int .i64 y3.p.hei, .int .i64 y3.p.cl, .bool y3.p.all, .int .i64 y3.p.be, .int .i64 y3.unt, .int .i64 y3.now] 32)) := push h3.bel _
  have P3 := push hB3 (.cells #[.int .i64 y3.kind, .string y3.own, .int .i64 y3.name, .slice a3 y3.L.length c3, .int .i64 y3.p.pe, .int .i64 y3.p.len, .int .i64 y3.p.hei, .int .i64 y3.p.cl, .bool y3.p.all, .int .i64 y3.p.be, .int .i64 y3.unt, .int .i64 y3.now] 32)
  clear h3 hv hvc hvm hvn ecs hB3
  go_upto_region 16 with fail
  generalize w6.alloc (.cells #[.int .i64 y3.kind, .string y3.own, .int .i64 y3.name, .slice a3 y3.L.length c3, .int .i64 y3.p.pe, .int .i64 y3.p.len, .int .i64 y3.p.hei, .int .i64 y3.p.cl, .bool y3.p.all, .int .i64 y3.p.be, .int .i64 y3.unt, .int .i64 y3.now] 32) = W6 at HO3 HI3 X3 b3 P3 ⊢
  obtain ⟨hkk, hsm⟩ := read_same HR3.out HR1.out
  have HSM3 : Hid (SameOp y3.d y1.d) := hsm
  subst hkk
  have kn : (k3 != k3) = false := by simp
  have kn' : (k3 == k3) = true := by simp
  clear hsm
  have B6 := after B5 b3
  have x1 := blk_below X1 B6
  have X6 := blk_below X5 b3
  have HZ6 : Hid (IntsAt W6 a2 y2.L.length (fun j => 1 + j)) := HZ5.out.below b3
  have p0 := blk_cell x1 0 _ rfl
  have p1 := blk_cell x1 1 _ rfl
  have p2 := blk_cell x1 2 _ rfl
  have p3 := blk_cell x1 3 _ rfl
  have p4 := blk_cell x1 4 _ rfl
  have p5 := blk_cell x1 5 _ rfl
  have p6 := blk_cell x1 6 _ rfl
  have p7 := blk_cell x1 7 _ rfl
  have p8 := blk_cell x1 8 _ rfl
  have p9 := blk_cell x1 9 _ rfl
  have p10 := blk_cell x1 10 _ rfl
  have p11 := blk_cell x1 11 _ rfl
  have q0 := blk_cell X3 0 _ rfl
  have q1 := blk_cell X3 1 _ rfl
  have q2 := blk_cell X3 2 _ rfl
  have q3 := blk_cell X3 3 _ rfl
  have q4 := blk_cell X3 4 _ rfl
  have q5 := blk_cell X3 5 _ rfl
  have q6 := blk_cell X3 6 _ rfl
  have q7 := blk_cell X3 7 _ rfl
  have q8 := blk_cell X3 8 _ rfl
  have q9 := blk_cell X3 9 _ rfl
  have q10 := blk_cell X3 10 _ rfl
  have q11 := blk_cell X3 11 _ rfl
  go_wp2_with fail
  refine (eqOp_same [.int .i64 y3.kind, .string y3.own, .int .i64 y3.name, .slice a3 y3.L.length c3, .int .i64 y3.p.pe, .int .i64 y3.p.len, .int .i64 y3.p.hei, .int .i64 y3.p.cl, .bool y3.p.all, .int .i64 y3.p.be, .int .i64 y3.unt, .int .i64 y3.now] [.int .i64 y1.kind, .string y1.own, .int .i64 y1.name, .slice a1 y1.L.length c1, .int .i64 y1.p.pe, .int .i64 y1.p.len, .int .i64 y1.p.hei, .int .i64 y1.p.cl, .bool y1.p.all, .int .i64 y1.p.be, .int .i64 y1.unt, .int .i64 y1.now] y3.d W6 HSH3.out HI3.out (is_same (HI1.out.below B6) HSM3.out)).mono ?_
  rintro e w7 ⟨rfl, hb7⟩
  have P7 := after P3 hb7
  have X7 := blk_below X6 hb7
  have HZ7 : Hid (IntsAt w7 a2 y2.L.length (fun j => 1 + j)) := HZ6.out.below hb7
  clear p0 p1 p2 p3 p4 p5 p6 p7 p8 p9 p10 p11 q0 q1 q2 q3 q4 q5 q6 q7 q8 q9 q10 q11 x1 X6 HZ6 HZ5 hb7 b3 P3 B6 B5 X5 HO3 HI3 X3
  have q0 := blk_cell X7 0 _ rfl
  have q1 := blk_cell X7 1 _ rfl
  have q2 := blk_cell X7 2 _ rfl
  have q3 := blk_cell X7 3 _ rfl
  have q4 := blk_cell X7 4 _ rfl
  have q5 := blk_cell X7 5 _ rfl
  have q6 := blk_cell X7 6 _ rfl
  have q7 := blk_cell X7 7 _ rfl
  have q8 := blk_cell X7 8 _ rfl
  have q9 := blk_cell X7 9 _ rfl
  have q10 := blk_cell X7 10 _ rfl
  have q11 := blk_cell X7 11 _ rfl
  go_wp2_with fail
  refine (heldOp_yes _ _ _ _ _ _ _ _ _ _ _ a2 y2.L.length c2 w7 (by omega) HZ7.out).mono ?_
  rintro e w8 ⟨rfl, hb8⟩
  have P8 := after P7 hb8
  go_wp2
  go_ret
  exact ⟨rfl, P8⟩

end Go.Proofs.YtfbooamjddnagaaDoor
