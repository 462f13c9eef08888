/-
  OWN TEXT: contracts of the laws' helpers over what is done: sz, to, eq.
-/
import Derived.Test.YtcioofnmhfehaaaKitDone
import Derived.Test.YtcioofnmhfehaaaKitG
import Derived.Deep.RegionHeld3
import Derived.Deep.DeepCutAuto
import Derived.Test.YtcioofnmhfehaaaKitRes
namespace Go.Proofs.Ytcioofnmhfehaaa
open Go.RowKit

theorem done_set_1_13 {w : World} {g t : Nat} {u0 u1 u2 u3 u4 u5 u6 u7 u8 u9 u10 u11 u12 u13 u14 u15 u16 v1 v2 v3 v4 v5 v6 v7 v8 v9 v10 v11 v12 : Value} (h : w.heap[g]? = some (.cells #[u0, u1, u2, u3, u4, u5, u6, u7, u8, u9, u10, u11, u12, u13, u14, u15, u16] t (0, 0))) : (setFrom w g 1 [v1, v2, v3, v4, v5, v6, v7, v8, v9, v10, v11, v12]).heap[g]? = some (.cells #[u0, v1, v2, v3, v4, v5, v6, v7, v8, v9, v10, v11, v12, u13, u14, u15, u16] t (0, 0)) := by
  have := (blk_set (blk_set (blk_set (blk_set (blk_set (blk_set (blk_set (blk_set (blk_set (blk_set (blk_set (blk_set h 1 v1) 2 v2) 3 v3) 4 v4) 5 v5) 6 v6) 7 v7) 8 v8) 9 v9) 10 v10) 11 v11) 12 v12)
  simp only [setFrom]
  simpa using this
theorem done_set_13_17 {w : World} {g t : Nat} {u0 u1 u2 u3 u4 u5 u6 u7 u8 u9 u10 u11 u12 u13 u14 u15 u16 v13 v14 v15 v16 : Value} (h : w.heap[g]? = some (.cells #[u0, u1, u2, u3, u4, u5, u6, u7, u8, u9, u10, u11, u12, u13, u14, u15, u16] t (0, 0))) : (setFrom w g 13 [v13, v14, v15, v16]).heap[g]? = some (.cells #[u0, u1, u2, u3, u4, u5, u6, u7, u8, u9, u10, u11, u12, v13, v14, v15, v16] t (0, 0)) := by
  have := (blk_set (blk_set (blk_set (blk_set h 13 v13) 14 v14) 15 v15) 16 v16)
  simp only [setFrom]
  simpa using this
theorem done_set_0_17 {w : World} {g t : Nat} {u0 u1 u2 u3 u4 u5 u6 u7 u8 u9 u10 u11 u12 u13 u14 u15 u16 v0 v1 v2 v3 v4 v5 v6 v7 v8 v9 v10 v11 v12 v13 v14 v15 v16 : Value} (h : w.heap[g]? = some (.cells #[u0, u1, u2, u3, u4, u5, u6, u7, u8, u9, u10, u11, u12, u13, u14, u15, u16] t (0, 0))) : (setFrom w g 0 [v0, v1, v2, v3, v4, v5, v6, v7, v8, v9, v10, v11, v12, v13, v14, v15, v16]).heap[g]? = some (.cells #[v0, v1, v2, v3, v4, v5, v6, v7, v8, v9, v10, v11, v12, v13, v14, v15, v16] t (0, 0)) := by
  have := (blk_set (blk_set (blk_set (blk_set (blk_set (blk_set (blk_set (blk_set (blk_set (blk_set (blk_set (blk_set (blk_set (blk_set (blk_set (blk_set (blk_set h 0 v0) 1 v1) 2 v2) 3 v3) 4 v4) 5 v5) 6 v6) 7 v7) 8 v8) 9 v9) 10 v10) 11 v11) 12 v12) 13 v13) 14 v14) 15 v15) 16 v16)
  simp only [setFrom]
  simpa using this

set_option maxHeartbeats 800000 in
theorem szDone_raw (who : Int) (kind : Int) (own : ByteArray) (name : Int) (alg : Option Addr) (lgn clg : Nat) (pe : Int) (len : Int) (hei : Int) (cl : Int) (all : Bool) (be : Int) (unt : Int) (now : Int) (code : Int) (anam : Int) (price : Int) (arw : Option Addr) (rwn crw : Nat) (rw : Nat → MRow) (L : Int) (w : World) (h0 : 0 ≤ L) (hL : L ≤ 1048576) (bown : own.size ≤ 1000000000000000) (blg : lgn ≤ 1000000000000000) (brw : MRowsShort rwn rw 1000000000000000) (hrw : MRowsAt w arw rwn rw) :
    Calls Try.prog 19 #[.agg #[.int .i64 who, .int .i64 kind, .string own, .int .i64 name, .slice alg lgn clg, .int .i64 pe, .int .i64 len, .int .i64 hei, .int .i64 cl, .bool all, .int .i64 be, .int .i64 unt, .int .i64 now, .int .i64 code, .int .i64 anam, .int .i64 price, .slice arw rwn crw], .int .i64 L] w fun e w' => ∃ r : Int, e = .returned (.int .i64 r) ∧ (r = -1 ∨ (0 ≤ r ∧ r ≤ L ∧ own.size ≤ 1048576 ∧ lgn ≤ 1048576 ∧ MRowsShort rwn rw 1048576)) ∧ Below w.heap.size w w' := by
  have hb0 : Below w.heap.size w (w.alloc (.cells #[.int .i64 who, .int .i64 kind, .string own, .int .i64 name, .slice alg lgn clg, .int .i64 pe, .int .i64 len, .int .i64 hei, .int .i64 cl, .bool all, .int .i64 be, .int .i64 unt, .int .i64 now, .int .i64 code, .int .i64 anam, .int .i64 price, .slice arw rwn crw] 49)) := push (Below.refl _ _) _
  have hA0 := heap_alloc_new w (.cells #[.int .i64 who, .int .i64 kind, .string own, .int .i64 name, .slice alg lgn clg, .int .i64 pe, .int .i64 len, .int .i64 hei, .int .i64 cl, .bool all, .int .i64 be, .int .i64 unt, .int .i64 now, .int .i64 code, .int .i64 anam, .int .i64 price, .slice arw rwn crw] 49)
  go_enter Try.func19, Try.ntmps19
  go_wp2_with fail
  refine (szOp_raw kind own name alg lgn clg pe len hei cl all be unt now (L) _ (by omega) (by omega) bown blg).mono ?_
  rintro e w0 ⟨r0, rfl, hr0, hb0'⟩
  have hA0' := blk_below hA0 hb0'
  have hbb0 := after hb0 hb0'
  rcases hr0 with rfl | ⟨r00, r01, r02⟩
  · go_wp2
    go_ret
    exact ⟨_, rfl, .inl rfl, hbb0⟩
  · have d0 : decide (r0 < 0) = false := by simpa using r00
    have q0_13 := blk_cell hA0' 13 _ rfl
    have q0_14 := blk_cell hA0' 14 _ rfl
    have q0_15 := blk_cell hA0' 15 _ rfl
    have q0_16 := blk_cell hA0' 16 _ rfl
    go_wp2_with fail
    refine (szAnswer_raw code anam price arw rwn crw rw (r0) _ (by omega) (by omega) brw (hrw.below hbb0)).mono ?_
    rintro e w1 ⟨r1, rfl, hr1, hb1'⟩
    have hA1' := blk_below hA0' hb1'
    have hbb1 := after hbb0 hb1'
    rcases hr1 with rfl | ⟨r10, r11, r12⟩
    · go_wp2
      go_ret
      exact ⟨_, rfl, .inl rfl, hbb1⟩
    · have d1 : decide (r1 < 0) = false := by simpa using r10
      go_wp2
      go_ret
      exact ⟨_, rfl, .inr ⟨by omega, by omega, r02.1, r02.2, r12⟩, hbb1⟩

set_option maxHeartbeats 3200000 in
set_option maxRecDepth 100000 in
theorem toDone_raw (who : Int) (kind : Int) (own : ByteArray) (name : Int) (alg : Option Addr) (lgn clg : Nat) (lg : Nat → Int) (pe : Int) (len : Int) (hei : Int) (cl : Int) (all : Bool) (be : Int) (unt : Int) (now : Int) (code : Int) (anam : Int) (price : Int) (arw : Option Addr) (rwn crw : Nat) (rw : Nat → MRow) (w : World) (nlg : lgn ≤ 1048576) (nrw : rwn ≤ 1048576) (hlg : IntsAt w alg lgn lg) (hrw : MRowsAt w arw rwn rw) :
    Calls Try.prog 20 #[.agg #[.int .i64 who, .int .i64 kind, .string own, .int .i64 name, .slice alg lgn clg, .int .i64 pe, .int .i64 len, .int .i64 hei, .int .i64 cl, .bool all, .int .i64 be, .int .i64 unt, .int .i64 now, .int .i64 code, .int .i64 anam, .int .i64 price, .slice arw rwn crw]] w fun e w' => ∃ llg lrw, e = .returned (.agg #[.int .i64 who, .int .i64 kind, .string own, .int .i64 name, .slice (some ⟨llg, 0, none⟩) lgn lgn, .int .i64 pe, .int .i64 len, .int .i64 hei, .int .i64 cl, .bool all, .int .i64 be, .int .i64 unt, .int .i64 now, .int .i64 code, .int .i64 anam, .int .i64 price, .slice (some ⟨lrw, 0, none⟩) rwn rwn]) ∧ (w.heap.size ≤ llg ∧ llg < w'.heap.size ∧ w'.rowIs llg 3 lgn (fun k => .int .i64 (lg k))) ∧ (w.heap.size ≤ lrw ∧ lrw < w'.heap.size ∧ w'.rowIs lrw 72 (rwn * 5) (rowCell rw)) ∧ Below w.heap.size w w' := by
  go_enter Try.func20, Try.ntmps20
  go_wp2_with fail
  obtain ⟨W0, hW0⟩ : ∃ W, W = (((w.alloc (.cells #[.int .i64 who, .int .i64 kind, .string own, .int .i64 name, .slice alg lgn clg, .int .i64 pe, .int .i64 len, .int .i64 hei, .int .i64 cl, .bool all, .int .i64 be, .int .i64 unt, .int .i64 now, .int .i64 code, .int .i64 anam, .int .i64 price, .slice arw rwn crw] 49)).alloc (.cells #[.int .i64 0, .int .i64 0, .string ⟨#[]⟩, .int .i64 0, .slice none 0 0, .int .i64 0, .int .i64 0, .int .i64 0, .int .i64 0, .bool false, .int .i64 0, .int .i64 0, .int .i64 0, .int .i64 0, .int .i64 0, .int .i64 0, .slice none 0 0] 57)).alloc (.cells #[.int .i64 who, .int .i64 0, .string ⟨#[]⟩, .int .i64 0, .slice none 0 0, .int .i64 0, .int .i64 0, .int .i64 0, .int .i64 0, .bool false, .int .i64 0, .int .i64 0, .int .i64 0, .int .i64 0, .int .i64 0, .int .i64 0, .slice none 0 0] 57)) := ⟨_, rfl⟩
  have H0 : Below w.heap.size w W0 := by rw [hW0]; exact push (push (push (Below.refl _ _) _) _) _
  have A0 : W0.heap[w.heap.size]? = some (.cells #[.int .i64 who, .int .i64 kind, .string own, .int .i64 name, .slice alg lgn clg, .int .i64 pe, .int .i64 len, .int .i64 hei, .int .i64 cl, .bool all, .int .i64 be, .int .i64 unt, .int .i64 now, .int .i64 code, .int .i64 anam, .int .i64 price, .slice arw rwn crw] 49 (0, 0)) := by rw [hW0]; exact blk_alloc (blk_alloc (heap_alloc_new w _) _) _
  have R0 : W0.heap[w.heap.size + 1]? = some (.cells #[.int .i64 0, .int .i64 0, .string ⟨#[]⟩, .int .i64 0, .slice none 0 0, .int .i64 0, .int .i64 0, .int .i64 0, .int .i64 0, .bool false, .int .i64 0, .int .i64 0, .int .i64 0, .int .i64 0, .int .i64 0, .int .i64 0, .slice none 0 0] 57 (0, 0)) := by rw [hW0]; exact blk_alloc (by simpa using heap_alloc_new (w.alloc _) _) _
  have O0 : W0.heap[w.heap.size + 1 + 1]? = some (.cells #[.int .i64 who, .int .i64 0, .string ⟨#[]⟩, .int .i64 0, .slice none 0 0, .int .i64 0, .int .i64 0, .int .i64 0, .int .i64 0, .bool false, .int .i64 0, .int .i64 0, .int .i64 0, .int .i64 0, .int .i64 0, .int .i64 0, .slice none 0 0] 57 (0, 0)) := by rw [hW0]; simpa using heap_alloc_new ((w.alloc _).alloc _) _
  rw [← hW0]
  clear hW0
  refine (toOp_raw kind own name alg lgn clg lg pe len hei cl all be unt now _ nlg (hlg.below H0)).mono ?_
  rintro e v0 ⟨llg, rfl, ⟨gllg, _, rowlg⟩, hb0⟩
  have Av0 := blk_below A0 hb0
  have Rv0 := blk_below R0 hb0
  have Ov0 := blk_below O0 hb0
  have Hv0 := after H0 hb0
  have gtlg : w.heap.size + 1 + 1 < llg := by have := blk_lt O0; omega
  have gelg : w.heap.size ≤ llg := by omega
  clear A0 R0 O0 H0 hb0 gllg
  have qa13 := blk_cell Av0 13 _ rfl
  have qa14 := blk_cell Av0 14 _ rfl
  have qa15 := blk_cell Av0 15 _ rfl
  have qa16 := blk_cell Av0 16 _ rfl
  have fo1 := blk_free Ov0 1
  have fo2 := blk_free Ov0 2
  have fo3 := blk_free Ov0 3
  have fo4 := blk_free Ov0 4
  have fo5 := blk_free Ov0 5
  have fo6 := blk_free Ov0 6
  have fo7 := blk_free Ov0 7
  have fo8 := blk_free Ov0 8
  have fo9 := blk_free Ov0 9
  have fo10 := blk_free Ov0 10
  have fo11 := blk_free Ov0 11
  have fo12 := blk_free Ov0 12
  have qo1 := blk_cell Ov0 1 _ rfl
  have qo2 := blk_cell Ov0 2 _ rfl
  have qo3 := blk_cell Ov0 3 _ rfl
  have qo4 := blk_cell Ov0 4 _ rfl
  have qo5 := blk_cell Ov0 5 _ rfl
  have qo6 := blk_cell Ov0 6 _ rfl
  have qo7 := blk_cell Ov0 7 _ rfl
  have qo8 := blk_cell Ov0 8 _ rfl
  have qo9 := blk_cell Ov0 9 _ rfl
  have qo10 := blk_cell Ov0 10 _ rfl
  have qo11 := blk_cell Ov0 11 _ rfl
  have qo12 := blk_cell Ov0 12 _ rfl
  go_wp2_with fail
  clear qa13 qa14 qa15 qa16 fo1 fo2 fo3 fo4 fo5 fo6 fo7 fo8 fo9 fo10 fo11 fo12 qo1 qo2 qo3 qo4 qo5 qo6 qo7 qo8 qo9 qo10 qo11 qo12
  obtain ⟨W1, hW1⟩ : ∃ W, W = setFrom v0 (w.heap.size + 1 + 1) 1 [.int .i64 kind, .string own, .int .i64 name, .slice (some ⟨llg, 0, none⟩) lgn lgn, .int .i64 pe, .int .i64 len, .int .i64 hei, .int .i64 cl, .bool all, .int .i64 be, .int .i64 unt, .int .i64 now] := ⟨_, rfl⟩
  have A1 : W1.heap[w.heap.size]? = some (.cells #[.int .i64 who, .int .i64 kind, .string own, .int .i64 name, .slice alg lgn clg, .int .i64 pe, .int .i64 len, .int .i64 hei, .int .i64 cl, .bool all, .int .i64 be, .int .i64 unt, .int .i64 now, .int .i64 code, .int .i64 anam, .int .i64 price, .slice arw rwn crw] 49 (0, 0)) := by rw [hW1]; exact setFrom_blk_other (by omega) _ _ _ Av0
  have R1 : W1.heap[w.heap.size + 1]? = some (.cells #[.int .i64 0, .int .i64 0, .string ⟨#[]⟩, .int .i64 0, .slice none 0 0, .int .i64 0, .int .i64 0, .int .i64 0, .int .i64 0, .bool false, .int .i64 0, .int .i64 0, .int .i64 0, .int .i64 0, .int .i64 0, .int .i64 0, .slice none 0 0] 57 (0, 0)) := by rw [hW1]; exact setFrom_blk_other (by omega) _ _ _ Rv0
  have O1 : W1.heap[w.heap.size + 1 + 1]? = some (.cells #[.int .i64 who, .int .i64 kind, .string own, .int .i64 name, .slice (some ⟨llg, 0, none⟩) lgn lgn, .int .i64 pe, .int .i64 len, .int .i64 hei, .int .i64 cl, .bool all, .int .i64 be, .int .i64 unt, .int .i64 now, .int .i64 0, .int .i64 0, .int .i64 0, .slice none 0 0] 57 (0, 0)) := by rw [hW1]; exact done_set_1_13 Ov0
  have H1 : Below w.heap.size w W1 := by rw [hW1]; exact setFrom_below (by omega) _ _ _ Hv0
  have rowlg' : W1.rowIs llg 3 lgn (fun k => .int .i64 (lg k)) := by rw [hW1]; exact setFrom_other (by omega) _ _ _ rowlg
  have hC1 : W1 = ((((((((((((v0.setCell ⟨w.heap.size + 1 + 1, 1, none⟩ (.int .i64 kind)).setCell ⟨w.heap.size + 1 + 1, 2, none⟩ (.string own)).setCell ⟨w.heap.size + 1 + 1, 3, none⟩ (.int .i64 name)).setCell ⟨w.heap.size + 1 + 1, 4, none⟩ (.slice (some ⟨llg, 0, none⟩) lgn lgn)).setCell ⟨w.heap.size + 1 + 1, 5, none⟩ (.int .i64 pe)).setCell ⟨w.heap.size + 1 + 1, 6, none⟩ (.int .i64 len)).setCell ⟨w.heap.size + 1 + 1, 7, none⟩ (.int .i64 hei)).setCell ⟨w.heap.size + 1 + 1, 8, none⟩ (.int .i64 cl)).setCell ⟨w.heap.size + 1 + 1, 9, none⟩ (.bool all)).setCell ⟨w.heap.size + 1 + 1, 10, none⟩ (.int .i64 be)).setCell ⟨w.heap.size + 1 + 1, 11, none⟩ (.int .i64 unt)).setCell ⟨w.heap.size + 1 + 1, 12, none⟩ (.int .i64 now)) := by rw [hW1]; rfl
  rw [← hC1]
  clear hW1 hC1 Av0 Rv0 Ov0 Hv0 rowlg
  have rowlg := rowlg'
  clear rowlg'
  refine (toAnswer_raw code anam price arw rwn crw rw _ nrw (hrw.below H1)).mono ?_
  rintro e v1 ⟨lrw, rfl, ⟨glrw, _, rowrw⟩, hb1⟩
  have Av1 := blk_below A1 hb1
  have Rv1 := blk_below R1 hb1
  have Ov1 := blk_below O1 hb1
  have Hv1 := after H1 hb1
  have rowlg1 := row_below rowlg hb1
  have gtrw : w.heap.size + 1 + 1 < lrw := by have := blk_lt O1; omega
  have gerw : w.heap.size ≤ lrw := by omega
  clear A1 R1 O1 H1 hb1 glrw rowlg
  have rowlg := rowlg1
  clear rowlg1
  have fo13 := blk_free Ov1 13
  have fo14 := blk_free Ov1 14
  have fo15 := blk_free Ov1 15
  have fo16 := blk_free Ov1 16
  have qo0 := blk_cell Ov1 0 _ rfl
  have qo1 := blk_cell Ov1 1 _ rfl
  have qo2 := blk_cell Ov1 2 _ rfl
  have qo3 := blk_cell Ov1 3 _ rfl
  have qo4 := blk_cell Ov1 4 _ rfl
  have qo5 := blk_cell Ov1 5 _ rfl
  have qo6 := blk_cell Ov1 6 _ rfl
  have qo7 := blk_cell Ov1 7 _ rfl
  have qo8 := blk_cell Ov1 8 _ rfl
  have qo9 := blk_cell Ov1 9 _ rfl
  have qo10 := blk_cell Ov1 10 _ rfl
  have qo11 := blk_cell Ov1 11 _ rfl
  have qo12 := blk_cell Ov1 12 _ rfl
  have qo13 := blk_cell Ov1 13 _ rfl
  have qo14 := blk_cell Ov1 14 _ rfl
  have qo15 := blk_cell Ov1 15 _ rfl
  have qo16 := blk_cell Ov1 16 _ rfl
  go_upto_region 5 with fail
  clear fo13 fo14 fo15 fo16 qo0 qo1 qo2 qo3 qo4 qo5 qo6 qo7 qo8 qo9 qo10 qo11 qo12 qo13 qo14 qo15 qo16
  obtain ⟨W2, hW2⟩ : ∃ W, W = setFrom v1 (w.heap.size + 1 + 1) 13 [.int .i64 code, .int .i64 anam, .int .i64 price, .slice (some ⟨lrw, 0, none⟩) rwn rwn] := ⟨_, rfl⟩
  have A2 : W2.heap[w.heap.size]? = some (.cells #[.int .i64 who, .int .i64 kind, .string own, .int .i64 name, .slice alg lgn clg, .int .i64 pe, .int .i64 len, .int .i64 hei, .int .i64 cl, .bool all, .int .i64 be, .int .i64 unt, .int .i64 now, .int .i64 code, .int .i64 anam, .int .i64 price, .slice arw rwn crw] 49 (0, 0)) := by rw [hW2]; exact setFrom_blk_other (by omega) _ _ _ Av1
  have R2 : W2.heap[w.heap.size + 1]? = some (.cells #[.int .i64 0, .int .i64 0, .string ⟨#[]⟩, .int .i64 0, .slice none 0 0, .int .i64 0, .int .i64 0, .int .i64 0, .int .i64 0, .bool false, .int .i64 0, .int .i64 0, .int .i64 0, .int .i64 0, .int .i64 0, .int .i64 0, .slice none 0 0] 57 (0, 0)) := by rw [hW2]; exact setFrom_blk_other (by omega) _ _ _ Rv1
  have O2 : W2.heap[w.heap.size + 1 + 1]? = some (.cells #[.int .i64 who, .int .i64 kind, .string own, .int .i64 name, .slice (some ⟨llg, 0, none⟩) lgn lgn, .int .i64 pe, .int .i64 len, .int .i64 hei, .int .i64 cl, .bool all, .int .i64 be, .int .i64 unt, .int .i64 now, .int .i64 code, .int .i64 anam, .int .i64 price, .slice (some ⟨lrw, 0, none⟩) rwn rwn] 57 (0, 0)) := by rw [hW2]; exact done_set_13_17 Ov1
  have H2 : Below w.heap.size w W2 := by rw [hW2]; exact setFrom_below (by omega) _ _ _ Hv1
  have rowlg' : W2.rowIs llg 3 lgn (fun k => .int .i64 (lg k)) := by rw [hW2]; exact setFrom_other (by omega) _ _ _ rowlg
  have rowrw' : W2.rowIs lrw 72 (rwn * 5) (rowCell rw) := by rw [hW2]; exact setFrom_other (by omega) _ _ _ rowrw
  have hC2 : W2 = ((((v1.setCell ⟨w.heap.size + 1 + 1, 13, none⟩ (.int .i64 code)).setCell ⟨w.heap.size + 1 + 1, 14, none⟩ (.int .i64 anam)).setCell ⟨w.heap.size + 1 + 1, 15, none⟩ (.int .i64 price)).setCell ⟨w.heap.size + 1 + 1, 16, none⟩ (.slice (some ⟨lrw, 0, none⟩) rwn rwn)) := by rw [hW2]; rfl
  rw [← hC2]
  clear hW2 hC2 Av1 Rv1 Ov1 Hv1 rowlg rowrw
  have rowlg := rowlg'
  clear rowlg'
  have rowrw := rowrw'
  clear rowrw'
  have HSZ : (Try.prog.info? 57).map (·.size) = some 17 := by kernel_rfl
  refine wp_region_lit ?_
  refine wpList_load_row rfl _ _ rfl (w.heap.size + 1 + 1) rfl _ _ (0, 0) _ O2 Try.underlying57 rfl HSZ ?_
  refine wpList_store_row rfl _ _ _ rfl (w.heap.size + 1) _ rfl rfl _ _ R2 HSZ rfl (by simp [Value.oneCell']) ?_
  obtain ⟨F, hF⟩ : ∃ F, F = W2.setRow (w.heap.size + 1) #[.int .i64 who, .int .i64 kind, .string own, .int .i64 name, .slice (some ⟨llg, 0, none⟩) lgn lgn, .int .i64 pe, .int .i64 len, .int .i64 hei, .int .i64 cl, .bool all, .int .i64 be, .int .i64 unt, .int .i64 now, .int .i64 code, .int .i64 anam, .int .i64 price, .slice (some ⟨lrw, 0, none⟩) rwn rwn] := ⟨_, rfl⟩
  have RF : F.heap[w.heap.size + 1]? = some (.cells #[.int .i64 who, .int .i64 kind, .string own, .int .i64 name, .slice (some ⟨llg, 0, none⟩) lgn lgn, .int .i64 pe, .int .i64 len, .int .i64 hei, .int .i64 cl, .bool all, .int .i64 be, .int .i64 unt, .int .i64 now, .int .i64 code, .int .i64 anam, .int .i64 price, .slice (some ⟨lrw, 0, none⟩) rwn rwn] 57 (0, 0)) := by rw [hF]; exact setRow_heap _ _ _ _ _ _ R2
  have HF : Below w.heap.size w F := by rw [hF]; exact below_setRow H2 (by omega) _
  have rFlg : F.rowIs llg 3 lgn (fun k => .int .i64 (lg k)) := by rw [hF]; exact rowlg.of_block (setRow_other _ _ _ _ (by omega))
  have rFrw : F.rowIs lrw 72 (rwn * 5) (rowCell rw) := by rw [hF]; exact rowrw.of_block (setRow_other _ _ _ _ (by omega))
  rw [← hF]
  clear hF
  have hl := run_loadVar_row (P := Try.prog) F (w.heap.size + 1) 57 57 _ (0, 0) _ RF Try.underlying57 rfl HSZ
  go_wp2
  exact bodyPost_ret (v := .agg #[.int .i64 who, .int .i64 kind, .string own, .int .i64 name, .slice (some ⟨llg, 0, none⟩) lgn lgn, .int .i64 pe, .int .i64 len, .int .i64 hei, .int .i64 cl, .bool all, .int .i64 be, .int .i64 unt, .int .i64 now, .int .i64 code, .int .i64 anam, .int .i64 price, .slice (some ⟨lrw, 0, none⟩) rwn rwn]) (results_cell Try.results20 rfl hl) rfl ⟨llg, lrw, rfl, ⟨gelg, rFlg.lt, rFlg⟩, ⟨gerw, rFrw.lt, rFrw⟩, HF⟩

set_option maxHeartbeats 3200000 in
set_option maxRecDepth 100000 in
theorem eqDone_raw (who : Int) (kind : Int) (own : ByteArray) (name : Int) (alg : Option Addr) (lgn clg : Nat) (lg : Nat → Int) (pe : Int) (len : Int) (hei : Int) (cl : Int) (all : Bool) (be : Int) (unt : Int) (now : Int) (code : Int) (anam : Int) (price : Int) (arw : Option Addr) (rwn crw : Nat) (rw : Nat → MRow) (alg' : Option Addr) (clg' : Nat) (arw' : Option Addr) (crw' : Nat) (w : World) (nlg : lgn ≤ 1048576) (nrw : rwn ≤ 1048576) (hlg : IntsAt w alg lgn lg) (hrw : MRowsAt w arw rwn rw) (hlg' : IntsAt w alg' lgn lg) (hrw' : MRowsAt w arw' rwn rw) :
    Calls Try.prog 21 #[.agg #[.int .i64 who, .int .i64 kind, .string own, .int .i64 name, .slice alg lgn clg, .int .i64 pe, .int .i64 len, .int .i64 hei, .int .i64 cl, .bool all, .int .i64 be, .int .i64 unt, .int .i64 now, .int .i64 code, .int .i64 anam, .int .i64 price, .slice arw rwn crw], .agg #[.int .i64 who, .int .i64 kind, .string own, .int .i64 name, .slice alg' lgn clg', .int .i64 pe, .int .i64 len, .int .i64 hei, .int .i64 cl, .bool all, .int .i64 be, .int .i64 unt, .int .i64 now, .int .i64 code, .int .i64 anam, .int .i64 price, .slice arw' rwn crw']] w fun e w' => e = .returned (.bool true) ∧ Below w.heap.size w w' := by
  have H0 : Below w.heap.size w ((w.alloc (.cells #[.int .i64 who, .int .i64 kind, .string own, .int .i64 name, .slice alg lgn clg, .int .i64 pe, .int .i64 len, .int .i64 hei, .int .i64 cl, .bool all, .int .i64 be, .int .i64 unt, .int .i64 now, .int .i64 code, .int .i64 anam, .int .i64 price, .slice arw rwn crw] 57)).alloc (.cells #[.int .i64 who, .int .i64 kind, .string own, .int .i64 name, .slice alg' lgn clg', .int .i64 pe, .int .i64 len, .int .i64 hei, .int .i64 cl, .bool all, .int .i64 be, .int .i64 unt, .int .i64 now, .int .i64 code, .int .i64 anam, .int .i64 price, .slice arw' rwn crw'] 57)) := push (push (Below.refl _ _) _) _
  have A0 : ((w.alloc (.cells #[.int .i64 who, .int .i64 kind, .string own, .int .i64 name, .slice alg lgn clg, .int .i64 pe, .int .i64 len, .int .i64 hei, .int .i64 cl, .bool all, .int .i64 be, .int .i64 unt, .int .i64 now, .int .i64 code, .int .i64 anam, .int .i64 price, .slice arw rwn crw] 57)).alloc (.cells #[.int .i64 who, .int .i64 kind, .string own, .int .i64 name, .slice alg' lgn clg', .int .i64 pe, .int .i64 len, .int .i64 hei, .int .i64 cl, .bool all, .int .i64 be, .int .i64 unt, .int .i64 now, .int .i64 code, .int .i64 anam, .int .i64 price, .slice arw' rwn crw'] 57)).heap[w.heap.size]? = some (.cells #[.int .i64 who, .int .i64 kind, .string own, .int .i64 name, .slice alg lgn clg, .int .i64 pe, .int .i64 len, .int .i64 hei, .int .i64 cl, .bool all, .int .i64 be, .int .i64 unt, .int .i64 now, .int .i64 code, .int .i64 anam, .int .i64 price, .slice arw rwn crw] 57 (0, 0)) := blk_alloc (heap_alloc_new w _) _
  have B0 : ((w.alloc (.cells #[.int .i64 who, .int .i64 kind, .string own, .int .i64 name, .slice alg lgn clg, .int .i64 pe, .int .i64 len, .int .i64 hei, .int .i64 cl, .bool all, .int .i64 be, .int .i64 unt, .int .i64 now, .int .i64 code, .int .i64 anam, .int .i64 price, .slice arw rwn crw] 57)).alloc (.cells #[.int .i64 who, .int .i64 kind, .string own, .int .i64 name, .slice alg' lgn clg', .int .i64 pe, .int .i64 len, .int .i64 hei, .int .i64 cl, .bool all, .int .i64 be, .int .i64 unt, .int .i64 now, .int .i64 code, .int .i64 anam, .int .i64 price, .slice arw' rwn crw'] 57)).heap[w.heap.size + 1]? = some (.cells #[.int .i64 who, .int .i64 kind, .string own, .int .i64 name, .slice alg' lgn clg', .int .i64 pe, .int .i64 len, .int .i64 hei, .int .i64 cl, .bool all, .int .i64 be, .int .i64 unt, .int .i64 now, .int .i64 code, .int .i64 anam, .int .i64 price, .slice arw' rwn crw'] 57 (0, 0)) := by simpa using heap_alloc_new (w.alloc _) _
  go_enter Try.func21, Try.ntmps21
  go_wp2_with fail
  generalize (w.alloc (.cells #[.int .i64 who, .int .i64 kind, .string own, .int .i64 name, .slice alg lgn clg, .int .i64 pe, .int .i64 len, .int .i64 hei, .int .i64 cl, .bool all, .int .i64 be, .int .i64 unt, .int .i64 now, .int .i64 code, .int .i64 anam, .int .i64 price, .slice arw rwn crw] 57)).alloc (.cells #[.int .i64 who, .int .i64 kind, .string own, .int .i64 name, .slice alg' lgn clg', .int .i64 pe, .int .i64 len, .int .i64 hei, .int .i64 cl, .bool all, .int .i64 be, .int .i64 unt, .int .i64 now, .int .i64 code, .int .i64 anam, .int .i64 price, .slice arw' rwn crw'] 57) = v at H0 A0 B0 ⊢
  refine (eqOp_raw kind own name alg lgn clg lg pe len hei cl all be unt now alg' clg' _ nlg (hlg.below H0) (hlg'.below H0)).mono ?_
  rintro e v0 ⟨rfl, hb0⟩
  have A1 := blk_below A0 hb0
  have B1 := blk_below B0 hb0
  have H1 := after H0 hb0
  clear A0 B0 H0 hb0
  have qa13 := blk_cell A1 13 _ rfl
  have qb13 := blk_cell B1 13 _ rfl
  have qa14 := blk_cell A1 14 _ rfl
  have qb14 := blk_cell B1 14 _ rfl
  have qa15 := blk_cell A1 15 _ rfl
  have qb15 := blk_cell B1 15 _ rfl
  have qa16 := blk_cell A1 16 _ rfl
  have qb16 := blk_cell B1 16 _ rfl
  go_wp2_with fail
  clear qa13 qb13 qa14 qb14 qa15 qb15 qa16 qb16
  refine (eqAnswer_raw code anam price arw rwn crw rw arw' crw' _ nrw (hrw.below H1) (hrw'.below H1)).mono ?_
  rintro e v1 ⟨rfl, hb1⟩
  have A2 := blk_below A1 hb1
  have B2 := blk_below B1 hb1
  have H2 := after H1 hb1
  clear A1 B1 H1 hb1
  go_wp2
  go_ret
  exact ⟨rfl, H2⟩

theorem szDone_any (cs : List Value) (x : DoneD) (L : Int) (w : World) (h0 : 0 ≤ L) (hL : L ≤ 1048576) (hs : DoneD.Short x 1000000000000000) (h : DoneD.Is w cs x) :
    Calls Try.prog 19 #[.agg cs.toArray, .int .i64 L] w fun e w' => ∃ r : Int, e = .returned (.int .i64 r) ∧ (r = -1 ∨ (0 ≤ r ∧ r ≤ L ∧ DoneD.Short x 1048576)) ∧ Below w.heap.size w w' := by
  obtain ⟨alg, clg, arw, crw, rfl, hlg, slg, hrw, srw⟩ := h
  obtain ⟨bown, blg, brw⟩ := hs
  exact szDone_raw _ _ _ _ _ _ _ _ _ _ _ _ _ _ _ _ _ _ _ _ _ _ L w h0 hL bown blg brw hrw
theorem toDone_any (cs : List Value) (x : DoneD) (w : World) (hs : DoneD.Short x 1048576) (h : DoneD.Is w cs x) :
    Calls Try.prog 20 #[.agg cs.toArray] w fun e w' => ∃ cs', e = .returned (.agg cs'.toArray) ∧ DoneD.In w' w.heap.size w'.heap.size cs' x ∧ Below w.heap.size w w' := by
  obtain ⟨alg, clg, arw, crw, rfl, hlg, slg, hrw, srw⟩ := h
  obtain ⟨_, blg, brw⟩ := hs
  refine (toDone_raw _ _ _ _ _ _ _ _ _ _ _ _ _ _ _ _ _ _ _ _ _ _ _ w blg brw.1 hlg hrw).mono ?_
  rintro e w' ⟨llg, lrw, he, rlg, rrw, hb⟩
  exact ⟨_, he, ⟨llg, lrw, rfl, rlg, rrw⟩, hb⟩
theorem eqDone_same (cs ds : List Value) (x : DoneD) (w : World) (hs : DoneD.Short x 1048576) (h : DoneD.Is w cs x) (h' : DoneD.Is w ds x) :
    Calls Try.prog 21 #[.agg cs.toArray, .agg ds.toArray] w fun e w' => e = .returned (.bool true) ∧ Below w.heap.size w w' := by
  obtain ⟨alg, clg, arw, crw, rfl, hlg, slg, hrw, srw⟩ := h
  obtain ⟨alg', clg', arw', crw', rfl, hlg', slg', hrw', srw'⟩ := h'
  obtain ⟨_, blg, brw⟩ := hs
  exact eqDone_raw _ _ _ _ _ _ _ _ _ _ _ _ _ _ _ _ _ _ _ _ _ _ _ _ _ _ _ w blg brw.1 hlg hrw hlg' hrw'

end Go.Proofs.Ytcioofnmhfehaaa
