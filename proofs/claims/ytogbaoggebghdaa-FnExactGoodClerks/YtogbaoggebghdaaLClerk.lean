/-
  OWN TEXT: contracts of the laws' helpers over a clerk: sz, to, eq.
-/
import Derived.Test.YtogbaoggebghdaaKitClerk
import Derived.Test.YtogbaoggebghdaaKitG
import Derived.Deep.RegionHeld3
import Derived.Deep.DeepCutAuto
namespace Go.Proofs.Ytogbaoggebghdaa
open Go.RowKit

theorem clerk_set_3_7 {w : World} {g t : Nat} {u0 u1 u2 u3 u4 u5 u6 v3 v4 v5 v6 : Value} (h : w.heap[g]? = some (.cells #[u0, u1, u2, u3, u4, u5, u6] t (0, 0))) : (setFrom w g 3 [v3, v4, v5, v6]).heap[g]? = some (.cells #[u0, u1, u2, v3, v4, v5, v6] t (0, 0)) := by
  have := (blk_set (blk_set (blk_set (blk_set h 3 v3) 4 v4) 5 v5) 6 v6)
  simp only [setFrom]
  simpa using this
theorem clerk_set_0_7 {w : World} {g t : Nat} {u0 u1 u2 u3 u4 u5 u6 v0 v1 v2 v3 v4 v5 v6 : Value} (h : w.heap[g]? = some (.cells #[u0, u1, u2, u3, u4, u5, u6] t (0, 0))) : (setFrom w g 0 [v0, v1, v2, v3, v4, v5, v6]).heap[g]? = some (.cells #[v0, v1, v2, v3, v4, v5, v6] t (0, 0)) := by
  have := (blk_set (blk_set (blk_set (blk_set (blk_set (blk_set (blk_set h 0 v0) 1 v1) 2 v2) 3 v3) 4 v4) 5 v5) 6 v6)
  simp only [setFrom]
  simpa using this

set_option maxHeartbeats 800000 in
theorem szClerk_raw (nam : ByteArray) (num : Int) (opn : Bool) (code : Int) (anam : Int) (price : Int) (arw : Option Addr) (rwn crw : Nat) (rw : Nat → MRow) (L : Int) (w : World) (h0 : 0 ≤ L) (hL : L ≤ 1048576) (bnam : nam.size ≤ 1000000000000000) (brw : MRowsShort rwn rw 1000000000000000) (hrw : MRowsAt w arw rwn rw) :
    Calls Try.prog 51 #[.agg #[.string nam, .int .i64 num, .bool opn, .int .i64 code, .int .i64 anam, .int .i64 price, .slice arw rwn crw], .int .i64 L] w fun e w' => ∃ r : Int, e = .returned (.int .i64 r) ∧ (r = -1 ∨ (0 ≤ r ∧ r ≤ L ∧ nam.size ≤ 1048576 ∧ MRowsShort rwn rw 1048576)) ∧ Below w.heap.size w w' := by
  have hb0 : Below w.heap.size w (w.alloc (.cells #[.string nam, .int .i64 num, .bool opn, .int .i64 code, .int .i64 anam, .int .i64 price, .slice arw rwn crw] 87)) := push (Below.refl _ _) _
  have hA0 := heap_alloc_new w (.cells #[.string nam, .int .i64 num, .bool opn, .int .i64 code, .int .i64 anam, .int .i64 price, .slice arw rwn crw] 87)
  by_cases gnam : (nam.size : Int) ≤ L
  · have enam : decide (L - (nam.size : Int) < 0) = false := by simp; omega
    go_enter Try.func51, Try.ntmps51
    go_wp2_with fail
    refine (szAnswer_raw code anam price arw rwn crw rw (L - (nam.size : Int)) _ (by omega) (by omega) brw (hrw.below hb0)).mono ?_
    rintro e w1 ⟨r1, rfl, hr1, hb1'⟩
    have hA1' := blk_below hA0 hb1'
    have hbb1 := after hb0 hb1'
    rcases hr1 with rfl | ⟨r10, r11, r12⟩
    · go_wp2
      go_ret
      exact ⟨_, rfl, .inl rfl, hbb1⟩
    · have d1 : decide (r1 < 0) = false := by simpa using r10
      go_wp2
      go_ret
      exact ⟨_, rfl, .inr ⟨by omega, by omega, by omega, r12⟩, hbb1⟩
  · have enam : decide (L - (nam.size : Int) < 0) = true := by simp; omega
    go_enter Try.func51, Try.ntmps51
    go_wp2
    go_ret
    exact ⟨_, rfl, .inl rfl, hb0⟩

set_option maxHeartbeats 3200000 in
set_option maxRecDepth 100000 in
theorem toClerk_raw (nam : ByteArray) (num : Int) (opn : Bool) (code : Int) (anam : Int) (price : Int) (arw : Option Addr) (rwn crw : Nat) (rw : Nat → MRow) (w : World) (nrw : rwn ≤ 1048576) (hrw : MRowsAt w arw rwn rw) :
    Calls Try.prog 53 #[.agg #[.string nam, .int .i64 num, .bool opn, .int .i64 code, .int .i64 anam, .int .i64 price, .slice arw rwn crw]] w fun e w' => ∃ lrw, e = .returned (.agg #[.string nam, .int .i64 num, .bool opn, .int .i64 code, .int .i64 anam, .int .i64 price, .slice (some ⟨lrw, 0, none⟩) rwn rwn]) ∧ (w.heap.size ≤ lrw ∧ lrw < w'.heap.size ∧ w'.rowIs lrw 84 (rwn * 5) (rowCell rw)) ∧ Below w.heap.size w w' := by
  go_enter Try.func53, Try.ntmps53
  go_wp2_with fail
  obtain ⟨W0, hW0⟩ : ∃ W, W = (((w.alloc (.cells #[.string nam, .int .i64 num, .bool opn, .int .i64 code, .int .i64 anam, .int .i64 price, .slice arw rwn crw] 87)).alloc (.cells #[.string ⟨#[]⟩, .int .i64 0, .bool false, .int .i64 0, .int .i64 0, .int .i64 0, .slice none 0 0] 68)).alloc (.cells #[.string nam, .int .i64 num, .bool opn, .int .i64 0, .int .i64 0, .int .i64 0, .slice none 0 0] 68)) := ⟨_, rfl⟩
  have H0 : Below w.heap.size w W0 := by rw [hW0]; exact push (push (push (Below.refl _ _) _) _) _
  have A0 : W0.heap[w.heap.size]? = some (.cells #[.string nam, .int .i64 num, .bool opn, .int .i64 code, .int .i64 anam, .int .i64 price, .slice arw rwn crw] 87 (0, 0)) := by rw [hW0]; exact blk_alloc (blk_alloc (heap_alloc_new w _) _) _
  have R0 : W0.heap[w.heap.size + 1]? = some (.cells #[.string ⟨#[]⟩, .int .i64 0, .bool false, .int .i64 0, .int .i64 0, .int .i64 0, .slice none 0 0] 68 (0, 0)) := by rw [hW0]; exact blk_alloc (by simpa using heap_alloc_new (w.alloc _) _) _
  have O0 : W0.heap[w.heap.size + 1 + 1]? = some (.cells #[.string nam, .int .i64 num, .bool opn, .int .i64 0, .int .i64 0, .int .i64 0, .slice none 0 0] 68 (0, 0)) := by rw [hW0]; simpa using heap_alloc_new ((w.alloc _).alloc _) _
  rw [← hW0]
  clear hW0
  refine (toAnswer_raw code anam price arw rwn crw rw _ nrw (hrw.below H0)).mono ?_
  rintro e v0 ⟨lrw, rfl, ⟨glrw, _, rowrw⟩, hb0⟩
  have Av0 := blk_below A0 hb0
  have Rv0 := blk_below R0 hb0
  have Ov0 := blk_below O0 hb0
  have Hv0 := after H0 hb0
  have gtrw : w.heap.size + 1 + 1 < lrw := by have := blk_lt O0; omega
  have gerw : w.heap.size ≤ lrw := by omega
  clear A0 R0 O0 H0 hb0 glrw
  have fo3 := blk_free Ov0 3
  have fo4 := blk_free Ov0 4
  have fo5 := blk_free Ov0 5
  have fo6 := blk_free Ov0 6
  have qo0 := blk_cell Ov0 0 _ rfl
  have qo1 := blk_cell Ov0 1 _ rfl
  have qo2 := blk_cell Ov0 2 _ rfl
  have qo3 := blk_cell Ov0 3 _ rfl
  have qo4 := blk_cell Ov0 4 _ rfl
  have qo5 := blk_cell Ov0 5 _ rfl
  have qo6 := blk_cell Ov0 6 _ rfl
  have z0 := blk_free Rv0 0
  have y0 := blk_cell Rv0 0 _ rfl
  have z1 := blk_free Rv0 1
  have y1 := blk_cell Rv0 1 _ rfl
  have z2 := blk_free Rv0 2
  have y2 := blk_cell Rv0 2 _ rfl
  have z3 := blk_free Rv0 3
  have y3 := blk_cell Rv0 3 _ rfl
  have z4 := blk_free Rv0 4
  have y4 := blk_cell Rv0 4 _ rfl
  have z5 := blk_free Rv0 5
  have y5 := blk_cell Rv0 5 _ rfl
  have z6 := blk_free Rv0 6
  have y6 := blk_cell Rv0 6 _ rfl
  go_wp2
  clear fo3 fo4 fo5 fo6 qo0 qo1 qo2 qo3 qo4 qo5 qo6 z0 y0 z1 y1 z2 y2 z3 y3 z4 y4 z5 y5 z6 y6
  obtain ⟨W1, hW1⟩ : ∃ W, W = setFrom v0 (w.heap.size + 1 + 1) 3 [.int .i64 code, .int .i64 anam, .int .i64 price, .slice (some ⟨lrw, 0, none⟩) rwn rwn] := ⟨_, rfl⟩
  have A1 : W1.heap[w.heap.size]? = some (.cells #[.string nam, .int .i64 num, .bool opn, .int .i64 code, .int .i64 anam, .int .i64 price, .slice arw rwn crw] 87 (0, 0)) := by rw [hW1]; exact setFrom_blk_other (by omega) _ _ _ Av0
  have R1 : W1.heap[w.heap.size + 1]? = some (.cells #[.string ⟨#[]⟩, .int .i64 0, .bool false, .int .i64 0, .int .i64 0, .int .i64 0, .slice none 0 0] 68 (0, 0)) := by rw [hW1]; exact setFrom_blk_other (by omega) _ _ _ Rv0
  have O1 : W1.heap[w.heap.size + 1 + 1]? = some (.cells #[.string nam, .int .i64 num, .bool opn, .int .i64 code, .int .i64 anam, .int .i64 price, .slice (some ⟨lrw, 0, none⟩) rwn rwn] 68 (0, 0)) := by rw [hW1]; exact clerk_set_3_7 Ov0
  have H1 : Below w.heap.size w W1 := by rw [hW1]; exact setFrom_below (by omega) _ _ _ Hv0
  have rowrw' : W1.rowIs lrw 84 (rwn * 5) (rowCell rw) := by rw [hW1]; exact setFrom_other (by omega) _ _ _ rowrw
  have hC1 : W1 = ((((v0.setCell ⟨w.heap.size + 1 + 1, 3, none⟩ (.int .i64 code)).setCell ⟨w.heap.size + 1 + 1, 4, none⟩ (.int .i64 anam)).setCell ⟨w.heap.size + 1 + 1, 5, none⟩ (.int .i64 price)).setCell ⟨w.heap.size + 1 + 1, 6, none⟩ (.slice (some ⟨lrw, 0, none⟩) rwn rwn)) := by rw [hW1]; rfl
  rw [← hC1]
  clear hW1 hC1 Av0 Rv0 Ov0 Hv0 rowrw
  have rowrw := rowrw'
  clear rowrw'
  obtain ⟨F, hF⟩ : ∃ F, F = setFrom W1 (w.heap.size + 1) 0 [.string nam, .int .i64 num, .bool opn, .int .i64 code, .int .i64 anam, .int .i64 price, .slice (some ⟨lrw, 0, none⟩) rwn rwn] := ⟨_, rfl⟩
  have RF : F.heap[w.heap.size + 1]? = some (.cells #[.string nam, .int .i64 num, .bool opn, .int .i64 code, .int .i64 anam, .int .i64 price, .slice (some ⟨lrw, 0, none⟩) rwn rwn] 68 (0, 0)) := by rw [hF]; exact clerk_set_0_7 R1
  have HF : Below w.heap.size w F := by rw [hF]; exact setFrom_below (by omega) _ _ _ H1
  have rFrw : F.rowIs lrw 84 (rwn * 5) (rowCell rw) := by rw [hF]; exact setFrom_other (by omega) _ _ _ rowrw
  have hCF : F = (((((((W1.setCell ⟨w.heap.size + 1, 0, none⟩ (.string nam)).setCell ⟨w.heap.size + 1, 1, none⟩ (.int .i64 num)).setCell ⟨w.heap.size + 1, 2, none⟩ (.bool opn)).setCell ⟨w.heap.size + 1, 3, none⟩ (.int .i64 code)).setCell ⟨w.heap.size + 1, 4, none⟩ (.int .i64 anam)).setCell ⟨w.heap.size + 1, 5, none⟩ (.int .i64 price)).setCell ⟨w.heap.size + 1, 6, none⟩ (.slice (some ⟨lrw, 0, none⟩) rwn rwn)) := by rw [hF]; rfl
  rw [← hCF]
  clear hF hCF
  have z0 := blk_cell RF 0 _ rfl
  have z1 := blk_cell RF 1 _ rfl
  have z2 := blk_cell RF 2 _ rfl
  have z3 := blk_cell RF 3 _ rfl
  have z4 := blk_cell RF 4 _ rfl
  have z5 := blk_cell RF 5 _ rfl
  have z6 := blk_cell RF 6 _ rfl
  exact bodyPost_ret (v := .agg #[.string nam, .int .i64 num, .bool opn, .int .i64 code, .int .i64 anam, .int .i64 price, .slice (some ⟨lrw, 0, none⟩) rwn rwn]) (by simp [results, Try.results53, go_sem, z0, z1, z2, z3, z4, z5, z6]) rfl ⟨lrw, rfl, ⟨gerw, rFrw.lt, rFrw⟩, HF⟩

set_option maxHeartbeats 3200000 in
set_option maxRecDepth 100000 in
theorem eqClerk_raw (nam : ByteArray) (num : Int) (opn : Bool) (code : Int) (anam : Int) (price : Int) (arw : Option Addr) (rwn crw : Nat) (rw : Nat → MRow) (arw' : Option Addr) (crw' : Nat) (w : World) (nrw : rwn ≤ 1048576) (hrw : MRowsAt w arw rwn rw) (hrw' : MRowsAt w arw' rwn rw) :
    Calls Try.prog 55 #[.agg #[.string nam, .int .i64 num, .bool opn, .int .i64 code, .int .i64 anam, .int .i64 price, .slice arw rwn crw], .agg #[.string nam, .int .i64 num, .bool opn, .int .i64 code, .int .i64 anam, .int .i64 price, .slice arw' rwn crw']] w fun e w' => e = .returned (.bool true) ∧ Below w.heap.size w w' := by
  have H0 : Below w.heap.size w ((w.alloc (.cells #[.string nam, .int .i64 num, .bool opn, .int .i64 code, .int .i64 anam, .int .i64 price, .slice arw rwn crw] 68)).alloc (.cells #[.string nam, .int .i64 num, .bool opn, .int .i64 code, .int .i64 anam, .int .i64 price, .slice arw' rwn crw'] 68)) := push (push (Below.refl _ _) _) _
  have A0 : ((w.alloc (.cells #[.string nam, .int .i64 num, .bool opn, .int .i64 code, .int .i64 anam, .int .i64 price, .slice arw rwn crw] 68)).alloc (.cells #[.string nam, .int .i64 num, .bool opn, .int .i64 code, .int .i64 anam, .int .i64 price, .slice arw' rwn crw'] 68)).heap[w.heap.size]? = some (.cells #[.string nam, .int .i64 num, .bool opn, .int .i64 code, .int .i64 anam, .int .i64 price, .slice arw rwn crw] 68 (0, 0)) := blk_alloc (heap_alloc_new w _) _
  have B0 : ((w.alloc (.cells #[.string nam, .int .i64 num, .bool opn, .int .i64 code, .int .i64 anam, .int .i64 price, .slice arw rwn crw] 68)).alloc (.cells #[.string nam, .int .i64 num, .bool opn, .int .i64 code, .int .i64 anam, .int .i64 price, .slice arw' rwn crw'] 68)).heap[w.heap.size + 1]? = some (.cells #[.string nam, .int .i64 num, .bool opn, .int .i64 code, .int .i64 anam, .int .i64 price, .slice arw' rwn crw'] 68 (0, 0)) := by simpa using heap_alloc_new (w.alloc _) _
  go_enter Try.func55, Try.ntmps55
  go_wp2_with fail
  generalize (w.alloc (.cells #[.string nam, .int .i64 num, .bool opn, .int .i64 code, .int .i64 anam, .int .i64 price, .slice arw rwn crw] 68)).alloc (.cells #[.string nam, .int .i64 num, .bool opn, .int .i64 code, .int .i64 anam, .int .i64 price, .slice arw' rwn crw'] 68) = v at H0 A0 B0 ⊢
  refine (eqAnswer_raw code anam price arw rwn crw rw arw' crw' _ nrw (hrw.below H0) (hrw'.below H0)).mono ?_
  rintro e v0 ⟨rfl, hb0⟩
  have A1 := blk_below A0 hb0
  have B1 := blk_below B0 hb0
  have H1 := after H0 hb0
  clear A0 B0 H0 hb0
  go_wp2
  go_ret
  exact ⟨rfl, H1⟩

theorem szClerk_any (cs : List Value) (x : ClkD) (L : Int) (w : World) (h0 : 0 ≤ L) (hL : L ≤ 1048576) (hs : ClkD.Short x 1000000000000000) (h : ClkD.Is w cs x) :
    Calls Try.prog 51 #[.agg cs.toArray, .int .i64 L] w fun e w' => ∃ r : Int, e = .returned (.int .i64 r) ∧ (r = -1 ∨ (0 ≤ r ∧ r ≤ L ∧ ClkD.Short x 1048576)) ∧ Below w.heap.size w w' := by
  obtain ⟨arw, crw, rfl, hrw, srw⟩ := h
  obtain ⟨bnam, brw⟩ := hs
  exact szClerk_raw _ _ _ _ _ _ _ _ _ _ L w h0 hL bnam brw hrw
theorem toClerk_any (cs : List Value) (x : ClkD) (w : World) (hs : ClkD.Short x 1048576) (h : ClkD.Is w cs x) :
    Calls Try.prog 53 #[.agg cs.toArray] w fun e w' => ∃ cs', e = .returned (.agg cs'.toArray) ∧ ClkD.In w' w.heap.size w'.heap.size cs' x ∧ Below w.heap.size w w' := by
  obtain ⟨arw, crw, rfl, hrw, srw⟩ := h
  obtain ⟨_, brw⟩ := hs
  refine (toClerk_raw _ _ _ _ _ _ _ _ _ _ w brw.1 hrw).mono ?_
  rintro e w' ⟨lrw, he, rrw, hb⟩
  exact ⟨_, he, ⟨lrw, rfl, rrw⟩, hb⟩
theorem eqClerk_same (cs ds : List Value) (x : ClkD) (w : World) (hs : ClkD.Short x 1048576) (h : ClkD.Is w cs x) (h' : ClkD.Is w ds x) :
    Calls Try.prog 55 #[.agg cs.toArray, .agg ds.toArray] w fun e w' => e = .returned (.bool true) ∧ Below w.heap.size w w' := by
  obtain ⟨arw, crw, rfl, hrw, srw⟩ := h
  obtain ⟨arw', crw', rfl, hrw', srw'⟩ := h'
  obtain ⟨_, brw⟩ := hs
  exact eqClerk_raw _ _ _ _ _ _ _ _ _ _ _ _ w brw.1 hrw hrw'

end Go.Proofs.Ytogbaoggebghdaa
