/-
  OWN TEXT: LOp.
-/
import Derived.Deep.RegionHeld3
import Derived.Deep.DeepCutAuto
import Derived.Test.YtfbooamjddnagaaDoorB07
import Derived.Test.YtfbooamjddnagaaDoorB06
namespace Go.Proofs.YtfbooamjddnagaaDoor
open Go.RowKit

theorem op_set_3_4 {w : World} {g t : Nat} {u0 u1 u2 u3 u4 u5 u6 u7 u8 u9 u10 u11 v3 : Value} (h : w.heap[g]? = some (.cells #[u0, u1, u2, u3, u4, u5, u6, u7, u8, u9, u10, u11] t (0, 0))) : (setFrom w g 3 [v3]).heap[g]? = some (.cells #[u0, u1, u2, v3, u4, u5, u6, u7, u8, u9, u10, u11] t (0, 0)) := by
  have := (blk_set h 3 v3)
  simp only [setFrom]
  simpa using this
theorem op_set_4_12 {w : World} {g t : Nat} {u0 u1 u2 u3 u4 u5 u6 u7 u8 u9 u10 u11 v4 v5 v6 v7 v8 v9 v10 v11 : Value} (h : w.heap[g]? = some (.cells #[u0, u1, u2, u3, u4, u5, u6, u7, u8, u9, u10, u11] t (0, 0))) : (setFrom w g 4 [v4, v5, v6, v7, v8, v9, v10, v11]).heap[g]? = some (.cells #[u0, u1, u2, u3, v4, v5, v6, v7, v8, v9, v10, v11] t (0, 0)) := by
  have := (blk_set (blk_set (blk_set (blk_set (blk_set (blk_set (blk_set (blk_set h 4 v4) 5 v5) 6 v6) 7 v7) 8 v8) 9 v9) 10 v10) 11 v11)
  simp only [setFrom]
  simpa using this
theorem op_set_0_12 {w : World} {g t : Nat} {u0 u1 u2 u3 u4 u5 u6 u7 u8 u9 u10 u11 v0 v1 v2 v3 v4 v5 v6 v7 v8 v9 v10 v11 : Value} (h : w.heap[g]? = some (.cells #[u0, u1, u2, u3, u4, u5, u6, u7, u8, u9, u10, u11] t (0, 0))) : (setFrom w g 0 [v0, v1, v2, v3, v4, v5, v6, v7, v8, v9, v10, v11]).heap[g]? = some (.cells #[v0, v1, v2, v3, v4, v5, v6, v7, v8, v9, v10, v11] t (0, 0)) := by
  have := (blk_set (blk_set (blk_set (blk_set (blk_set (blk_set (blk_set (blk_set (blk_set (blk_set (blk_set (blk_set h 0 v0) 1 v1) 2 v2) 3 v3) 4 v4) 5 v5) 6 v6) 7 v7) 8 v8) 9 v9) 10 v10) 11 v11)
  simp only [setFrom]
  simpa using this

set_option maxHeartbeats 800000 in
theorem szOp_raw (kind : Int) (own : ByteArray) (name : Int) (alg : Option Addr) (lgn clg : Nat) (pe : Int) (len : Int) (hei : Int) (cl : Int) (all : Bool) (be : Int) (unt : Int) (now : Int) (L : Int) (w : World) (h0 : 0 ≤ L) (hL : L ≤ 1048576) (bown : own.size ≤ 1000000000000000) (blg : lgn ≤ 1000000000000000) :
    Calls Tryd.prog 7 #[.agg #[.int .i64 kind, .string own, .int .i64 name, .slice alg lgn clg, .int .i64 pe, .int .i64 len, .int .i64 hei, .int .i64 cl, .bool all, .int .i64 be, .int .i64 unt, .int .i64 now], .int .i64 L] w fun e w' => ∃ r : Int, e = .returned (.int .i64 r) ∧ (r = -1 ∨ (0 ≤ r ∧ r ≤ L ∧ own.size ≤ 1048576 ∧ lgn ≤ 1048576)) ∧ Below w.heap.size w w' := by
  have hb0 : Below w.heap.size w (w.alloc (.cells #[.int .i64 kind, .string own, .int .i64 name, .slice alg lgn clg, .int .i64 pe, .int .i64 len, .int .i64 hei, .int .i64 cl, .bool all, .int .i64 be, .int .i64 unt, .int .i64 now] 26)) := push (Below.refl _ _) _
  have hA0 := heap_alloc_new w (.cells #[.int .i64 kind, .string own, .int .i64 name, .slice alg lgn clg, .int .i64 pe, .int .i64 len, .int .i64 hei, .int .i64 cl, .bool all, .int .i64 be, .int .i64 unt, .int .i64 now] 26)
  by_cases gown : (own.size : Int) ≤ L
  · have eown : decide (L - (own.size : Int) < 0) = false := by simp; omega
    go_enter Tryd.func7, Tryd.ntmps7
    go_wp2_with fail
    refine (szIntS_any alg lgn clg (L - (own.size : Int)) _ (by omega) (by omega) blg).mono ?_
    rintro e w1 ⟨r1, rfl, hr1, hb1'⟩
    have hA1' := blk_below hA0 hb1'
    have hbb1 := after hb0 hb1'
    rcases hr1 with rfl | ⟨r10, r11, r12⟩
    · go_wp2
      go_ret
      exact ⟨_, rfl, .inl rfl, hbb1⟩
    · have d1 : decide (r1 < 0) = false := by simpa using r10
      go_wp2
      go_ret
      exact ⟨_, rfl, .inr ⟨by omega, by omega, by omega, r12⟩, hbb1⟩
  · have eown : decide (L - (own.size : Int) < 0) = true := by simp; omega
    go_enter Tryd.func7, Tryd.ntmps7
    go_wp2
    go_ret
    exact ⟨_, rfl, .inl rfl, hb0⟩

set_option maxHeartbeats 3200000 in
set_option maxRecDepth 100000 in
theorem toOp_raw (kind : Int) (own : ByteArray) (name : Int) (alg : Option Addr) (lgn clg : Nat) (lg : Nat → Int) (pe : Int) (len : Int) (hei : Int) (cl : Int) (all : Bool) (be : Int) (unt : Int) (now : Int) (w : World) (nlg : lgn ≤ 1048576) (hlg : IntsAt w alg lgn lg) :
    Calls Tryd.prog 9 #[.agg #[.int .i64 kind, .string own, .int .i64 name, .slice alg lgn clg, .int .i64 pe, .int .i64 len, .int .i64 hei, .int .i64 cl, .bool all, .int .i64 be, .int .i64 unt, .int .i64 now]] w fun e w' => ∃ llg, e = .returned (.agg #[.int .i64 kind, .string own, .int .i64 name, .slice (some ⟨llg, 0, none⟩) lgn lgn, .int .i64 pe, .int .i64 len, .int .i64 hei, .int .i64 cl, .bool all, .int .i64 be, .int .i64 unt, .int .i64 now]) ∧ (w.heap.size ≤ llg ∧ llg < w'.heap.size ∧ w'.rowIs llg 3 lgn (fun k => .int .i64 (lg k))) ∧ Below w.heap.size w w' := by
  go_enter Tryd.func9, Tryd.ntmps9
  go_wp2_with fail
  obtain ⟨W0, hW0⟩ : ∃ W, W = (((w.alloc (.cells #[.int .i64 kind, .string own, .int .i64 name, .slice alg lgn clg, .int .i64 pe, .int .i64 len, .int .i64 hei, .int .i64 cl, .bool all, .int .i64 be, .int .i64 unt, .int .i64 now] 26)).alloc (.cells #[.int .i64 0, .string ⟨#[]⟩, .int .i64 0, .slice none 0 0, .int .i64 0, .int .i64 0, .int .i64 0, .int .i64 0, .bool false, .int .i64 0, .int .i64 0, .int .i64 0] 32)).alloc (.cells #[.int .i64 kind, .string own, .int .i64 name, .slice none 0 0, .int .i64 0, .int .i64 0, .int .i64 0, .int .i64 0, .bool false, .int .i64 0, .int .i64 0, .int .i64 0] 32)) := ⟨_, rfl⟩
  have H0 : Below w.heap.size w W0 := by rw [hW0]; exact push (push (push (Below.refl _ _) _) _) _
  have A0 : W0.heap[w.heap.size]? = some (.cells #[.int .i64 kind, .string own, .int .i64 name, .slice alg lgn clg, .int .i64 pe, .int .i64 len, .int .i64 hei, .int .i64 cl, .bool all, .int .i64 be, .int .i64 unt, .int .i64 now] 26 (0, 0)) := by rw [hW0]; exact blk_alloc (blk_alloc (heap_alloc_new w _) _) _
  have R0 : W0.heap[w.heap.size + 1]? = some (.cells #[.int .i64 0, .string ⟨#[]⟩, .int .i64 0, .slice none 0 0, .int .i64 0, .int .i64 0, .int .i64 0, .int .i64 0, .bool false, .int .i64 0, .int .i64 0, .int .i64 0] 32 (0, 0)) := by rw [hW0]; exact blk_alloc (by simpa using heap_alloc_new (w.alloc _) _) _
  have O0 : W0.heap[w.heap.size + 1 + 1]? = some (.cells #[.int .i64 kind, .string own, .int .i64 name, .slice none 0 0, .int .i64 0, .int .i64 0, .int .i64 0, .int .i64 0, .bool false, .int .i64 0, .int .i64 0, .int .i64 0] 32 (0, 0)) := by rw [hW0]; simpa using heap_alloc_new ((w.alloc _).alloc _) _
  rw [← hW0]
  clear hW0
  refine (toIntS_any alg lgn clg lg _ nlg (hlg.below H0)).mono ?_
  rintro e v0 ⟨llg, rfl, gllg, rowlg, hb0⟩
  have Av0 := blk_below A0 hb0
  have Rv0 := blk_below R0 hb0
  have Ov0 := blk_below O0 hb0
  have Hv0 := after H0 hb0
  have gtlg : w.heap.size + 1 + 1 < llg := by have := blk_lt O0; omega
  have gelg : w.heap.size ≤ llg := by omega
  clear A0 R0 O0 H0 hb0 gllg
  have qa4 := blk_cell Av0 4 _ rfl
  have qa5 := blk_cell Av0 5 _ rfl
  have qa6 := blk_cell Av0 6 _ rfl
  have qa7 := blk_cell Av0 7 _ rfl
  have qa8 := blk_cell Av0 8 _ rfl
  have qa9 := blk_cell Av0 9 _ rfl
  have fo3 := blk_free Ov0 3
  have qo3 := blk_cell Ov0 3 _ rfl
  go_wp2_with fail
  clear qa4 qa5 qa6 qa7 qa8 qa9 fo3 qo3
  obtain ⟨W1, hW1⟩ : ∃ W, W = setFrom v0 (w.heap.size + 1 + 1) 3 [.slice (some ⟨llg, 0, none⟩) lgn lgn] := ⟨_, rfl⟩
  have A1 : W1.heap[w.heap.size]? = some (.cells #[.int .i64 kind, .string own, .int .i64 name, .slice alg lgn clg, .int .i64 pe, .int .i64 len, .int .i64 hei, .int .i64 cl, .bool all, .int .i64 be, .int .i64 unt, .int .i64 now] 26 (0, 0)) := by rw [hW1]; exact setFrom_blk_other (by omega) _ _ _ Av0
  have R1 : W1.heap[w.heap.size + 1]? = some (.cells #[.int .i64 0, .string ⟨#[]⟩, .int .i64 0, .slice none 0 0, .int .i64 0, .int .i64 0, .int .i64 0, .int .i64 0, .bool false, .int .i64 0, .int .i64 0, .int .i64 0] 32 (0, 0)) := by rw [hW1]; exact setFrom_blk_other (by omega) _ _ _ Rv0
  have O1 : W1.heap[w.heap.size + 1 + 1]? = some (.cells #[.int .i64 kind, .string own, .int .i64 name, .slice (some ⟨llg, 0, none⟩) lgn lgn, .int .i64 0, .int .i64 0, .int .i64 0, .int .i64 0, .bool false, .int .i64 0, .int .i64 0, .int .i64 0] 32 (0, 0)) := by rw [hW1]; exact op_set_3_4 Ov0
  have H1 : Below w.heap.size w W1 := by rw [hW1]; exact setFrom_below (by omega) _ _ _ Hv0
  have rowlg' : W1.rowIs llg 3 lgn (fun k => .int .i64 (lg k)) := by rw [hW1]; exact setFrom_other (by omega) _ _ _ rowlg
  have hC1 : W1 = (v0.setCell ⟨w.heap.size + 1 + 1, 3, none⟩ (.slice (some ⟨llg, 0, none⟩) lgn lgn)) := by rw [hW1]; rfl
  rw [← hC1]
  clear hW1 hC1 Av0 Rv0 Ov0 Hv0 rowlg
  have rowlg := rowlg'
  clear rowlg'
  refine (toParty_any pe len hei cl all be _).mono ?_
  rintro e v1 ⟨rfl, hb1⟩
  have Av1 := blk_below A1 hb1
  have Rv1 := blk_below R1 hb1
  have Ov1 := blk_below O1 hb1
  have Hv1 := after H1 hb1
  have rowlg1 := row_below rowlg hb1
  clear A1 R1 O1 H1 hb1 rowlg
  have rowlg := rowlg1
  clear rowlg1
  have qa10 := blk_cell Av1 10 _ rfl
  have qa11 := blk_cell Av1 11 _ rfl
  have fo4 := blk_free Ov1 4
  have fo5 := blk_free Ov1 5
  have fo6 := blk_free Ov1 6
  have fo7 := blk_free Ov1 7
  have fo8 := blk_free Ov1 8
  have fo9 := blk_free Ov1 9
  have fo10 := blk_free Ov1 10
  have fo11 := blk_free Ov1 11
  have qo0 := blk_cell Ov1 0 _ rfl
  have qo1 := blk_cell Ov1 1 _ rfl
  have qo2 := blk_cell Ov1 2 _ rfl
  have qo3 := blk_cell Ov1 3 _ rfl
  have qo4 := blk_cell Ov1 4 _ rfl
  have qo5 := blk_cell Ov1 5 _ rfl
  have qo6 := blk_cell Ov1 6 _ rfl
  have qo7 := blk_cell Ov1 7 _ rfl
  have qo8 := blk_cell Ov1 8 _ rfl
  have qo9 := blk_cell Ov1 9 _ rfl
  have qo10 := blk_cell Ov1 10 _ rfl
  have qo11 := blk_cell Ov1 11 _ rfl
  have z0 := blk_free Rv1 0
  have y0 := blk_cell Rv1 0 _ rfl
  have z1 := blk_free Rv1 1
  have y1 := blk_cell Rv1 1 _ rfl
  have z2 := blk_free Rv1 2
  have y2 := blk_cell Rv1 2 _ rfl
  have z3 := blk_free Rv1 3
  have y3 := blk_cell Rv1 3 _ rfl
  have z4 := blk_free Rv1 4
  have y4 := blk_cell Rv1 4 _ rfl
  have z5 := blk_free Rv1 5
  have y5 := blk_cell Rv1 5 _ rfl
  have z6 := blk_free Rv1 6
  have y6 := blk_cell Rv1 6 _ rfl
  have z7 := blk_free Rv1 7
  have y7 := blk_cell Rv1 7 _ rfl
  have z8 := blk_free Rv1 8
  have y8 := blk_cell Rv1 8 _ rfl
  have z9 := blk_free Rv1 9
  have y9 := blk_cell Rv1 9 _ rfl
  have z10 := blk_free Rv1 10
  have y10 := blk_cell Rv1 10 _ rfl
  have z11 := blk_free Rv1 11
  have y11 := blk_cell Rv1 11 _ rfl
  go_wp2
  clear qa10 qa11 fo4 fo5 fo6 fo7 fo8 fo9 fo10 fo11 qo0 qo1 qo2 qo3 qo4 qo5 qo6 qo7 qo8 qo9 qo10 qo11 z0 y0 z1 y1 z2 y2 z3 y3 z4 y4 z5 y5 z6 y6 z7 y7 z8 y8 z9 y9 z10 y10 z11 y11
  obtain ⟨W2, hW2⟩ : ∃ W, W = setFrom v1 (w.heap.size + 1 + 1) 4 [.int .i64 pe, .int .i64 len, .int .i64 hei, .int .i64 cl, .bool all, .int .i64 be, .int .i64 unt, .int .i64 now] := ⟨_, rfl⟩
  have A2 : W2.heap[w.heap.size]? = some (.cells #[.int .i64 kind, .string own, .int .i64 name, .slice alg lgn clg, .int .i64 pe, .int .i64 len, .int .i64 hei, .int .i64 cl, .bool all, .int .i64 be, .int .i64 unt, .int .i64 now] 26 (0, 0)) := by rw [hW2]; exact setFrom_blk_other (by omega) _ _ _ Av1
  have R2 : W2.heap[w.heap.size + 1]? = some (.cells #[.int .i64 0, .string ⟨#[]⟩, .int .i64 0, .slice none 0 0, .int .i64 0, .int .i64 0, .int .i64 0, .int .i64 0, .bool false, .int .i64 0, .int .i64 0, .int .i64 0] 32 (0, 0)) := by rw [hW2]; exact setFrom_blk_other (by omega) _ _ _ Rv1
  have O2 : W2.heap[w.heap.size + 1 + 1]? = some (.cells #[.int .i64 kind, .string own, .int .i64 name, .slice (some ⟨llg, 0, none⟩) lgn lgn, .int .i64 pe, .int .i64 len, .int .i64 hei, .int .i64 cl, .bool all, .int .i64 be, .int .i64 unt, .int .i64 now] 32 (0, 0)) := by rw [hW2]; exact op_set_4_12 Ov1
  have H2 : Below w.heap.size w W2 := by rw [hW2]; exact setFrom_below (by omega) _ _ _ Hv1
  have rowlg' : W2.rowIs llg 3 lgn (fun k => .int .i64 (lg k)) := by rw [hW2]; exact setFrom_other (by omega) _ _ _ rowlg
  have hC2 : W2 = ((((((((v1.setCell ⟨w.heap.size + 1 + 1, 4, none⟩ (.int .i64 pe)).setCell ⟨w.heap.size + 1 + 1, 5, none⟩ (.int .i64 len)).setCell ⟨w.heap.size + 1 + 1, 6, none⟩ (.int .i64 hei)).setCell ⟨w.heap.size + 1 + 1, 7, none⟩ (.int .i64 cl)).setCell ⟨w.heap.size + 1 + 1, 8, none⟩ (.bool all)).setCell ⟨w.heap.size + 1 + 1, 9, none⟩ (.int .i64 be)).setCell ⟨w.heap.size + 1 + 1, 10, none⟩ (.int .i64 unt)).setCell ⟨w.heap.size + 1 + 1, 11, none⟩ (.int .i64 now)) := by rw [hW2]; rfl
  rw [← hC2]
  clear hW2 hC2 Av1 Rv1 Ov1 Hv1 rowlg
  have rowlg := rowlg'
  clear rowlg'
  obtain ⟨F, hF⟩ : ∃ F, F = setFrom W2 (w.heap.size + 1) 0 [.int .i64 kind, .string own, .int .i64 name, .slice (some ⟨llg, 0, none⟩) lgn lgn, .int .i64 pe, .int .i64 len, .int .i64 hei, .int .i64 cl, .bool all, .int .i64 be, .int .i64 unt, .int .i64 now] := ⟨_, rfl⟩
  have RF : F.heap[w.heap.size + 1]? = some (.cells #[.int .i64 kind, .string own, .int .i64 name, .slice (some ⟨llg, 0, none⟩) lgn lgn, .int .i64 pe, .int .i64 len, .int .i64 hei, .int .i64 cl, .bool all, .int .i64 be, .int .i64 unt, .int .i64 now] 32 (0, 0)) := by rw [hF]; exact op_set_0_12 R2
  have HF : Below w.heap.size w F := by rw [hF]; exact setFrom_below (by omega) _ _ _ H2
  have rFlg : F.rowIs llg 3 lgn (fun k => .int .i64 (lg k)) := by rw [hF]; exact setFrom_other (by omega) _ _ _ rowlg
  have hCF : F = ((((((((((((W2.setCell ⟨w.heap.size + 1, 0, none⟩ (.int .i64 kind)).setCell ⟨w.heap.size + 1, 1, none⟩ (.string own)).setCell ⟨w.heap.size + 1, 2, none⟩ (.int .i64 name)).setCell ⟨w.heap.size + 1, 3, none⟩ (.slice (some ⟨llg, 0, none⟩) lgn lgn)).setCell ⟨w.heap.size + 1, 4, none⟩ (.int .i64 pe)).setCell ⟨w.heap.size + 1, 5, none⟩ (.int .i64 len)).setCell ⟨w.heap.size + 1, 6, none⟩ (.int .i64 hei)).setCell ⟨w.heap.size + 1, 7, none⟩ (.int .i64 cl)).setCell ⟨w.heap.size + 1, 8, none⟩ (.bool all)).setCell ⟨w.heap.size + 1, 9, none⟩ (.int .i64 be)).setCell ⟨w.heap.size + 1, 10, none⟩ (.int .i64 unt)).setCell ⟨w.heap.size + 1, 11, none⟩ (.int .i64 now)) := by rw [hF]; rfl
  rw [← hCF]
  clear hF hCF
  have z0 := blk_cell RF 0 _ rfl
  have z1 := blk_cell RF 1 _ rfl
  have z2 := blk_cell RF 2 _ rfl
  have z3 := blk_cell RF 3 _ rfl
  have z4 := blk_cell RF 4 _ rfl
  have z5 := blk_cell RF 5 _ rfl
  have z6 := blk_cell RF 6 _ rfl
  have z7 := blk_cell RF 7 _ rfl
  have z8 := blk_cell RF 8 _ rfl
  have z9 := blk_cell RF 9 _ rfl
  have z10 := blk_cell RF 10 _ rfl
  have z11 := blk_cell RF 11 _ rfl
  exact bodyPost_ret (v := .agg #[.int .i64 kind, .string own, .int .i64 name, .slice (some ⟨llg, 0, none⟩) lgn lgn, .int .i64 pe, .int .i64 len, .int .i64 hei, .int .i64 cl, .bool all, .int .i64 be, .int .i64 unt, .int .i64 now]) (by simp [results, Tryd.results9, go_sem, z0, z1, z2, z3, z4, z5, z6, z7, z8, z9, z10, z11]) rfl ⟨llg, rfl, ⟨gelg, rFlg.lt, rFlg⟩, HF⟩

set_option maxHeartbeats 3200000 in
set_option maxRecDepth 100000 in
theorem eqOp_raw (kind : Int) (own : ByteArray) (name : Int) (alg : Option Addr) (lgn clg : Nat) (lg : Nat → Int) (pe : Int) (len : Int) (hei : Int) (cl : Int) (all : Bool) (be : Int) (unt : Int) (now : Int) (alg' : Option Addr) (clg' : Nat) (w : World) (nlg : lgn ≤ 1048576) (hlg : IntsAt w alg lgn lg) (hlg' : IntsAt w alg' lgn lg) :
    Calls Tryd.prog 11 #[.agg #[.int .i64 kind, .string own, .int .i64 name, .slice alg lgn clg, .int .i64 pe, .int .i64 len, .int .i64 hei, .int .i64 cl, .bool all, .int .i64 be, .int .i64 unt, .int .i64 now], .agg #[.int .i64 kind, .string own, .int .i64 name, .slice alg' lgn clg', .int .i64 pe, .int .i64 len, .int .i64 hei, .int .i64 cl, .bool all, .int .i64 be, .int .i64 unt, .int .i64 now]] w fun e w' => e = .returned (.bool true) ∧ Below w.heap.size w w' := by
  have H0 : Below w.heap.size w ((w.alloc (.cells #[.int .i64 kind, .string own, .int .i64 name, .slice alg lgn clg, .int .i64 pe, .int .i64 len, .int .i64 hei, .int .i64 cl, .bool all, .int .i64 be, .int .i64 unt, .int .i64 now] 32)).alloc (.cells #[.int .i64 kind, .string own, .int .i64 name, .slice alg' lgn clg', .int .i64 pe, .int .i64 len, .int .i64 hei, .int .i64 cl, .bool all, .int .i64 be, .int .i64 unt, .int .i64 now] 32)) := push (push (Below.refl _ _) _) _
  have A0 : ((w.alloc (.cells #[.int .i64 kind, .string own, .int .i64 name, .slice alg lgn clg, .int .i64 pe, .int .i64 len, .int .i64 hei, .int .i64 cl, .bool all, .int .i64 be, .int .i64 unt, .int .i64 now] 32)).alloc (.cells #[.int .i64 kind, .string own, .int .i64 name, .slice alg' lgn clg', .int .i64 pe, .int .i64 len, .int .i64 hei, .int .i64 cl, .bool all, .int .i64 be, .int .i64 unt, .int .i64 now] 32)).heap[w.heap.size]? = some (.cells #[.int .i64 kind, .string own, .int .i64 name, .slice alg lgn clg, .int .i64 pe, .int .i64 len, .int .i64 hei, .int .i64 cl, .bool all, .int .i64 be, .int .i64 unt, .int .i64 now] 32 (0, 0)) := blk_alloc (heap_alloc_new w _) _
  have B0 : ((w.alloc (.cells #[.int .i64 kind, .string own, .int .i64 name, .slice alg lgn clg, .int .i64 pe, .int .i64 len, .int .i64 hei, .int .i64 cl, .bool all, .int .i64 be, .int .i64 unt, .int .i64 now] 32)).alloc (.cells #[.int .i64 kind, .string own, .int .i64 name, .slice alg' lgn clg', .int .i64 pe, .int .i64 len, .int .i64 hei, .int .i64 cl, .bool all, .int .i64 be, .int .i64 unt, .int .i64 now] 32)).heap[w.heap.size + 1]? = some (.cells #[.int .i64 kind, .string own, .int .i64 name, .slice alg' lgn clg', .int .i64 pe, .int .i64 len, .int .i64 hei, .int .i64 cl, .bool all, .int .i64 be, .int .i64 unt, .int .i64 now] 32 (0, 0)) := by simpa using heap_alloc_new (w.alloc _) _
  go_enter Tryd.func11, Tryd.ntmps11
  go_wp2_with fail
  generalize (w.alloc (.cells #[.int .i64 kind, .string own, .int .i64 name, .slice alg lgn clg, .int .i64 pe, .int .i64 len, .int .i64 hei, .int .i64 cl, .bool all, .int .i64 be, .int .i64 unt, .int .i64 now] 32)).alloc (.cells #[.int .i64 kind, .string own, .int .i64 name, .slice alg' lgn clg', .int .i64 pe, .int .i64 len, .int .i64 hei, .int .i64 cl, .bool all, .int .i64 be, .int .i64 unt, .int .i64 now] 32) = v at H0 A0 B0 ⊢
  refine (eqIntS_same alg alg' lgn clg clg' lg _ nlg (hlg.below H0) (hlg'.below H0)).mono ?_
  rintro e v0 ⟨rfl, hb0⟩
  have A1 := blk_below A0 hb0
  have B1 := blk_below B0 hb0
  have H1 := after H0 hb0
  clear A0 B0 H0 hb0
  have qa4 := blk_cell A1 4 _ rfl
  have qb4 := blk_cell B1 4 _ rfl
  have qa5 := blk_cell A1 5 _ rfl
  have qb5 := blk_cell B1 5 _ rfl
  have qa6 := blk_cell A1 6 _ rfl
  have qb6 := blk_cell B1 6 _ rfl
  have qa7 := blk_cell A1 7 _ rfl
  have qb7 := blk_cell B1 7 _ rfl
  have qa8 := blk_cell A1 8 _ rfl
  have qb8 := blk_cell B1 8 _ rfl
  have qa9 := blk_cell A1 9 _ rfl
  have qb9 := blk_cell B1 9 _ rfl
  go_wp2_with fail
  clear qa4 qb4 qa5 qb5 qa6 qb6 qa7 qb7 qa8 qb8 qa9 qb9
  refine (eqParty_same pe len hei cl all be _).mono ?_
  rintro e v1 ⟨rfl, hb1⟩
  have A2 := blk_below A1 hb1
  have B2 := blk_below B1 hb1
  have H2 := after H1 hb1
  clear A1 B1 H1 hb1
  have qa10 := blk_cell A2 10 _ rfl
  have qb10 := blk_cell B2 10 _ rfl
  have qa11 := blk_cell A2 11 _ rfl
  have qb11 := blk_cell B2 11 _ rfl
  go_wp2
  go_ret
  exact ⟨rfl, H2⟩

theorem szOp_any (cs : List Value) (x : OpD) (L : Int) (w : World) (h0 : 0 ≤ L) (hL : L ≤ 1048576) (hs : OpD.Short x 1000000000000000) (h : OpD.Is w cs x) :
    Calls Tryd.prog 7 #[.agg cs.toArray, .int .i64 L] w fun e w' => ∃ r : Int, e = .returned (.int .i64 r) ∧ (r = -1 ∨ (0 ≤ r ∧ r ≤ L ∧ OpD.Short x 1048576)) ∧ Below w.heap.size w w' := by
  obtain ⟨alg, clg, rfl, hlg, slg⟩ := h
  obtain ⟨bown, blg⟩ := hs
  exact szOp_raw _ _ _ _ _ _ _ _ _ _ _ _ _ _ L w h0 hL bown blg
theorem toOp_any (cs : List Value) (x : OpD) (w : World) (hs : OpD.Short x 1048576) (h : OpD.Is w cs x) :
    Calls Tryd.prog 9 #[.agg cs.toArray] w fun e w' => ∃ cs', e = .returned (.agg cs'.toArray) ∧ OpD.In w' w.heap.size w'.heap.size cs' x ∧ Below w.heap.size w w' := by
  obtain ⟨alg, clg, rfl, hlg, slg⟩ := h
  obtain ⟨_, blg⟩ := hs
  refine (toOp_raw _ _ _ _ _ _ _ _ _ _ _ _ _ _ _ w blg hlg).mono ?_
  rintro e w' ⟨llg, he, rlg, hb⟩
  exact ⟨_, he, ⟨llg, rfl, rlg⟩, hb⟩
theorem eqOp_same (cs ds : List Value) (x : OpD) (w : World) (hs : OpD.Short x 1048576) (h : OpD.Is w cs x) (h' : OpD.Is w ds x) :
    Calls Tryd.prog 11 #[.agg cs.toArray, .agg ds.toArray] w fun e w' => e = .returned (.bool true) ∧ Below w.heap.size w w' := by
  obtain ⟨alg, clg, rfl, hlg, slg⟩ := h
  obtain ⟨alg', clg', rfl, hlg', slg'⟩ := h'
  obtain ⟨_, blg⟩ := hs
  exact eqOp_raw _ _ _ _ _ _ _ _ _ _ _ _ _ _ _ _ _ w blg hlg hlg'

end Go.Proofs.YtfbooamjddnagaaDoor
