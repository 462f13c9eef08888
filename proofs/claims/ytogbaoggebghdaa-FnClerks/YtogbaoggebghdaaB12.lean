/-
  OWN TEXT: LClerk, LClerks.
-/
import Derived.Deep.RegionHeld3
import Derived.Deep.DeepCutAuto
import Derived.Test.YtogbaoggebghdaaB05
import Derived.Test.YtogbaoggebghdaaB04
namespace Go.Proofs.Ytogbaoggebghdaa
open Go.RowKit

theorem clerk_set_3_7 {w : World} {g t : Nat} {u0 u1 u2 u3 u4 u5 u6 v3 v4 v5 v6 : Value} (h : w.heap[g]? = some (.cells #[u0, u1, u2, u3, u4, u5, u6] t (0, 0))) : (setFrom w g 3 [v3, v4, v5, v6]).heap[g]? = some (.cells #[u0, u1, u2, v3, v4, v5, v6] t (0, 0)) := by
  have := (blk_set (blk_set (blk_set (blk_set h 3 v3) 4 v4) 5 v5) 6 v6)
  simp only [setFrom]
  simpa using this
theorem clerk_set_0_7 {w : World} {g t : Nat} {u0 u1 u2 u3 u4 u5 u6 v0 v1 v2 v3 v4 v5 v6 : Value} (h : w.heap[g]? = some (.cells #[u0, u1, u2, u3, u4, u5, u6] t (0, 0))) : (setFrom w g 0 [v0, v1, v2, v3, v4, v5, v6]).heap[g]? = some (.cells #[v0, v1, v2, v3, v4, v5, v6] t (0, 0)) := by
  have := (blk_set (blk_set (blk_set (blk_set (blk_set (blk_set (blk_set h 0 v0) 1 v1) 2 v2) 3 v3) 4 v4) 5 v5) 6 v6)
  simp only [setFrom]
  simpa using this

set_option maxHeartbeats 800000 in
theorem szClerk_raw (nam : ByteArray) (num : Int) (opn : Bool) (code : Int) (anam : Int) (price : Int) (arw : Option Addr) (rwn crw : Nat) (rw : Nat → MRow) (L : Int) (w : World) (h0 : 0 ≤ L) (hL : L ≤ 1048576) (bnam : nam.size ≤ 1000000000000000) (brw : MRowsShort rwn rw 1000000000000000) (hrw : MRowsAt w arw rwn rw) :
    Calls Try.prog 51 #[.agg #[.string nam, .int .i64 num, .bool opn, .int .i64 code, .int .i64 anam, .int .i64 price, .slice arw rwn crw], .int .i64 L] w fun e w' => ∃ r : Int, e = .returned (.int .i64 r) ∧ (r = -1 ∨ (0 ≤ r ∧ r ≤ L ∧ nam.size ≤ 1048576 ∧ MRowsShort rwn rw 1048576)) ∧ Below w.heap.size w w' := by
  have hb0 : Below w.heap.size w (w.alloc (.cells #[.string nam, .int .i64 num, .bool opn, .int .i64 code, .int .i64 anam, .int .i64 price, .slice arw rwn crw] 87)) := push (Below.refl _ _) _
  have hA0 := heap_alloc_new w (.cells #[.string nam, .int .i64 num, .bool opn, .int .i64 code, .int .i64 anam, .int .i64 price, .slice arw rwn crw] 87)
  by_cases gnam : (nam.size : Int) ≤ L
  · have enam : decide (L - (nam.size : Int) < 0) = false := by simp; omega
    go_enter Try.func51, Try.ntmps51
    go_wp2_with fail
    refine (szAnswer_raw code anam price arw rwn crw rw (L - (nam.size : Int)) _ (by omega) (by omega) brw (hrw.below hb0)).mono ?_
    rintro e w1 ⟨r1, rfl, hr1, hb1'⟩
    have hA1' := blk_below hA0 hb1'
    have hbb1 := after hb0 hb1'
    rcases hr1 with rfl | ⟨r10, r11, r12⟩
    · go_wp2
      go_ret
      exact ⟨_, rfl, .inl rfl, hbb1⟩
    · have d1 : decide (r1 < 0) = false := by simpa using r10
      go_wp2
      go_ret
      exact ⟨_, rfl, .inr ⟨by omega, by omega, by omega, r12⟩, hbb1⟩
  · have enam : decide (L - (nam.size : Int) < 0) = true := by simp; omega
    go_enter Try.func51, Try.ntmps51
    go_wp2
    go_ret
    exact ⟨_, rfl, .inl rfl, hb0⟩

set_option maxHeartbeats 3200000 in
set_option maxRecDepth 100000 in
theorem toClerk_raw (nam : ByteArray) (num : Int) (opn : Bool) (code : Int) (anam : Int) (price : Int) (arw : Option Addr) (rwn crw : Nat) (rw : Nat → MRow) (w : World) (nrw : rwn ≤ 1048576) (hrw : MRowsAt w arw rwn rw) :
    Calls Try.prog 53 #[.agg #[.string nam, .int .i64 num, .bool opn, .int .i64 code, .int .i64 anam, .int .i64 price, .slice arw rwn crw]] w fun e w' => ∃ lrw, e = .returned (.agg #[.string nam, .int .i64 num, .bool opn, .int .i64 code, .int .i64 anam, .int .i64 price, .slice (some ⟨lrw, 0, none⟩) rwn rwn]) ∧ (w.heap.size ≤ lrw ∧ lrw < w'.heap.size ∧ w'.rowIs lrw 84 (rwn * 5) (rowCell rw)) ∧ Below w.heap.size w w' := by
  go_enter Try.func53, Try.ntmps53
  go_wp2_with fail
  obtain ⟨W0, hW0⟩ : ∃ W, W = (((w.alloc (.cells #[.string nam, .int .i64 num, .bool opn, .int .i64 code, .int .i64 anam, .int .i64 price, .slice arw rwn crw] 87)).alloc (.cells #[.string ⟨#[]⟩, .int .i64 0, .bool false, .int .i64 0, .int .i64 0, .int .i64 0, .slice none 0 0] 68)).alloc (.cells #[.string nam, .int .i64 num, .bool opn, .int .i64 0, .int .i64 0, .int .i64 0, .slice none 0 0] 68)) := ⟨_, rfl⟩
  have H0 : Below w.heap.size w W0 := by rw [hW0]; exact push (push (push (Below.refl _ _) _) _) _
  have A0 : W0.heap[w.heap.size]? = some (.cells #[.string nam, .int .i64 num, .bool opn, .int .i64 code, .int .i64 anam, .int .i64 price, .slice arw rwn crw] 87 (0, 0)) := by rw [hW0]; exact blk_alloc (blk_alloc (heap_alloc_new w _) _) _
  have R0 : W0.heap[w.heap.size + 1]? = some (.cells #[.string ⟨#[]⟩, .int .i64 0, .bool false, .int .i64 0, .int .i64 0, .int .i64 0, .slice none 0 0] 68 (0, 0)) := by rw [hW0]; exact blk_alloc (by simpa using heap_alloc_new (w.alloc _) _) _
  have O0 : W0.heap[w.heap.size + 1 + 1]? = some (.cells #[.string nam, .int .i64 num, .bool opn, .int .i64 0, .int .i64 0, .int .i64 0, .slice none 0 0] 68 (0, 0)) := by rw [hW0]; simpa using heap_alloc_new ((w.alloc _).alloc _) _
  rw [← hW0]
  clear hW0
  refine (toAnswer_raw code anam price arw rwn crw rw _ nrw (hrw.below H0)).mono ?_
  rintro e v0 ⟨lrw, rfl, ⟨glrw, _, rowrw⟩, hb0⟩
  have Av0 := blk_below A0 hb0
  have Rv0 := blk_below R0 hb0
  have Ov0 := blk_below O0 hb0
  have Hv0 := after H0 hb0
  have gtrw : w.heap.size + 1 + 1 < lrw := by have := blk_lt O0; omega
  have gerw : w.heap.size ≤ lrw := by omega
  clear A0 R0 O0 H0 hb0 glrw
  have fo3 := blk_free Ov0 3
  have fo4 := blk_free Ov0 4
  have fo5 := blk_free Ov0 5
  have fo6 := blk_free Ov0 6
  have qo0 := blk_cell Ov0 0 _ rfl
  have qo1 := blk_cell Ov0 1 _ rfl
  have qo2 := blk_cell Ov0 2 _ rfl
  have qo3 := blk_cell Ov0 3 _ rfl
  have qo4 := blk_cell Ov0 4 _ rfl
  have qo5 := blk_cell Ov0 5 _ rfl
  have qo6 := blk_cell Ov0 6 _ rfl
  have z0 := blk_free Rv0 0
  have y0 := blk_cell Rv0 0 _ rfl
  have z1 := blk_free Rv0 1
  have y1 := blk_cell Rv0 1 _ rfl
  have z2 := blk_free Rv0 2
  have y2 := blk_cell Rv0 2 _ rfl
  have z3 := blk_free Rv0 3
  have y3 := blk_cell Rv0 3 _ rfl
  have z4 := blk_free Rv0 4
  have y4 := blk_cell Rv0 4 _ rfl
  have z5 := blk_free Rv0 5
  have y5 := blk_cell Rv0 5 _ rfl
  have z6 := blk_free Rv0 6
  have y6 := blk_cell Rv0 6 _ rfl
  go_wp2
  clear fo3 fo4 fo5 fo6 qo0 qo1 qo2 qo3 qo4 qo5 qo6 z0 y0 z1 y1 z2 y2 z3 y3 z4 y4 z5 y5 z6 y6
  obtain ⟨W1, hW1⟩ : ∃ W, W = setFrom v0 (w.heap.size + 1 + 1) 3 [.int .i64 code, .int .i64 anam, .int .i64 price, .slice (some ⟨lrw, 0, none⟩) rwn rwn] := ⟨_, rfl⟩
  have A1 : W1.heap[w.heap.size]? = some (.cells #[.string nam, .int .i64 num, .bool opn, .int .i64 code, .int .i64 anam, .int .i64 price, .slice arw rwn crw] 87 (0, 0)) := by rw [hW1]; exact setFrom_blk_other (by omega) _ _ _ Av0
  have R1 : W1.heap[w.heap.size + 1]? = some (.cells #[.string ⟨#[]⟩, .int .i64 0, .bool false, .int .i64 0, .int .i64 0, .int .i64 0, .slice none 0 0] 68 (0, 0)) := by rw [hW1]; exact setFrom_blk_other (by omega) _ _ _ Rv0
  have O1 : W1.heap[w.heap.size + 1 + 1]? = some (.cells #[.string nam, .int .i64 num, .bool opn, .int .i64 code, .int .i64 anam, .int .i64 price, .slice (some ⟨lrw, 0, none⟩) rwn rwn] 68 (0, 0)) := by rw [hW1]; exact clerk_set_3_7 Ov0
  have H1 : Below w.heap.size w W1 := by rw [hW1]; exact setFrom_below (by omega) _ _ _ Hv0
  have rowrw' : W1.rowIs lrw 84 (rwn * 5) (rowCell rw) := by rw [hW1]; exact setFrom_other (by omega) _ _ _ rowrw
  have hC1 : W1 = ((((v0.setCell ⟨w.heap.size + 1 + 1, 3, none⟩ (.int .i64 code)).setCell ⟨w.heap.size + 1 + 1, 4, none⟩ (.int .i64 anam)).setCell ⟨w.heap.size + 1 + 1, 5, none⟩ (.int .i64 price)).setCell ⟨w.heap.size + 1 + 1, 6, none⟩ (.slice (some ⟨lrw, 0, none⟩) rwn rwn)) := by rw [hW1]; rfl
  rw [← hC1]
  clear hW1 hC1 Av0 Rv0 Ov0 Hv0 rowrw
  have rowrw := rowrw'
  clear rowrw'
  obtain ⟨F, hF⟩ : ∃ F, F = setFrom W1 (w.heap.size + 1) 0 [.string nam, .int .i64 num, .bool opn, .int .i64 code, .int .i64 anam, .int .i64 price, .slice (some ⟨lrw, 0, none⟩) rwn rwn] := ⟨_, rfl⟩
  have RF : F.heap[w.heap.size + 1]? = some (.cells #[.string nam, .int .i64 num, .bool opn, .int .i64 code, .int .i64 anam, .int .i64 price, .slice (some ⟨lrw, 0, none⟩) rwn rwn] 68 (0, 0)) := by rw [hF]; exact clerk_set_0_7 R1
  have HF : Below w.heap.size w F := by rw [hF]; exact setFrom_below (by omega) _ _ _ H1
  have rFrw : F.rowIs lrw 84 (rwn * 5) (rowCell rw) := by rw [hF]; exact setFrom_other (by omega) _ _ _ rowrw
  have hCF : F = (((((((W1.setCell ⟨w.heap.size + 1, 0, none⟩ (.string nam)).setCell ⟨w.heap.size + 1, 1, none⟩ (.int .i64 num)).setCell ⟨w.heap.size + 1, 2, none⟩ (.bool opn)).setCell ⟨w.heap.size + 1, 3, none⟩ (.int .i64 code)).setCell ⟨w.heap.size + 1, 4, none⟩ (.int .i64 anam)).setCell ⟨w.heap.size + 1, 5, none⟩ (.int .i64 price)).setCell ⟨w.heap.size + 1, 6, none⟩ (.slice (some ⟨lrw, 0, none⟩) rwn rwn)) := by rw [hF]; rfl
  rw [← hCF]
  clear hF hCF
  have z0 := blk_cell RF 0 _ rfl
  have z1 := blk_cell RF 1 _ rfl
  have z2 := blk_cell RF 2 _ rfl
  have z3 := blk_cell RF 3 _ rfl
  have z4 := blk_cell RF 4 _ rfl
  have z5 := blk_cell RF 5 _ rfl
  have z6 := blk_cell RF 6 _ rfl
  exact bodyPost_ret (v := .agg #[.string nam, .int .i64 num, .bool opn, .int .i64 code, .int .i64 anam, .int .i64 price, .slice (some ⟨lrw, 0, none⟩) rwn rwn]) (by simp [results, Try.results53, go_sem, z0, z1, z2, z3, z4, z5, z6]) rfl ⟨lrw, rfl, ⟨gerw, rFrw.lt, rFrw⟩, HF⟩

set_option maxHeartbeats 3200000 in
set_option maxRecDepth 100000 in
theorem eqClerk_raw (nam : ByteArray) (num : Int) (opn : Bool) (code : Int) (anam : Int) (price : Int) (arw : Option Addr) (rwn crw : Nat) (rw : Nat → MRow) (arw' : Option Addr) (crw' : Nat) (w : World) (nrw : rwn ≤ 1048576) (hrw : MRowsAt w arw rwn rw) (hrw' : MRowsAt w arw' rwn rw) :
    Calls Try.prog 55 #[.agg #[.string nam, .int .i64 num, .bool opn, .int .i64 code, .int .i64 anam, .int .i64 price, .slice arw rwn crw], .agg #[.string nam, .int .i64 num, .bool opn, .int .i64 code, .int .i64 anam, .int .i64 price, .slice arw' rwn crw']] w fun e w' => e = .returned (.bool true) ∧ Below w.heap.size w w' := by
  have H0 : Below w.heap.size w ((w.alloc (.cells #[.string nam, .int .i64 num, .bool opn, .int .i64 code, .int .i64 anam, .int .i64 price, .slice arw rwn crw] 68)).alloc (.cells #[.string nam, .int .i64 num, .bool opn, .int .i64 code, .int .i64 anam, .int .i64 price, .slice arw' rwn crw'] 68)) := push (push (Below.refl _ _) _) _
  have A0 : ((w.alloc (.cells #[.string nam, .int .i64 num, .bool opn, .int .i64 code, .int .i64 anam, .int .i64 price, .slice arw rwn crw] 68)).alloc (.cells #[.string nam, .int .i64 num, .bool opn, .int .i64 code, .int .i64 anam, .int .i64 price, .slice arw' rwn crw'] 68)).heap[w.heap.size]? = some (.cells #[.string nam, .int .i64 num, .bool opn, .int .i64 code, .int .i64 anam, .int .i64 price, .slice arw rwn crw] 68 (0, 0)) := blk_alloc (heap_alloc_new w _) _
  have B0 : ((w.alloc (.cells #[.string nam, .int .i64 num, .bool opn, .int .i64 code, .int .i64 anam, .int .i64 price, .slice arw rwn crw] 68)).alloc (.cells #[.string nam, .int .i64 num, .bool opn, .int .i64 code, .int .i64 anam, .int .i64 price, .slice arw' rwn crw'] 68)).heap[w.heap.size + 1]? = some (.cells #[.string nam, .int .i64 num, .bool opn, .int .i64 code, .int .i64 anam, .int .i64 price, .slice arw' rwn crw'] 68 (0, 0)) := by simpa using heap_alloc_new (w.alloc _) _
  go_enter Try.func55, Try.ntmps55
  go_wp2_with fail
  generalize (w.alloc (.cells #[.string nam, .int .i64 num, .bool opn, .int .i64 code, .int .i64 anam, .int .i64 price, .slice arw rwn crw] 68)).alloc (.cells #[.string nam, .int .i64 num, .bool opn, .int .i64 code, .int .i64 anam, .int .i64 price, .slice arw' rwn crw'] 68) = v at H0 A0 B0 ⊢
  refine (eqAnswer_raw code anam price arw rwn crw rw arw' crw' _ nrw (hrw.below H0) (hrw'.below H0)).mono ?_
  rintro e v0 ⟨rfl, hb0⟩
  have A1 := blk_below A0 hb0
  have B1 := blk_below B0 hb0
  have H1 := after H0 hb0
  clear A0 B0 H0 hb0
  go_wp2
  go_ret
  exact ⟨rfl, H1⟩

theorem szClerk_any (cs : List Value) (x : ClkD) (L : Int) (w : World) (h0 : 0 ≤ L) (hL : L ≤ 1048576) (hs : ClkD.Short x 1000000000000000) (h : ClkD.Is w cs x) :
    Calls Try.prog 51 #[.agg cs.toArray, .int .i64 L] w fun e w' => ∃ r : Int, e = .returned (.int .i64 r) ∧ (r = -1 ∨ (0 ≤ r ∧ r ≤ L ∧ ClkD.Short x 1048576)) ∧ Below w.heap.size w w' := by
  obtain ⟨arw, crw, rfl, hrw, srw⟩ := h
  obtain ⟨bnam, brw⟩ := hs
  exact szClerk_raw _ _ _ _ _ _ _ _ _ _ L w h0 hL bnam brw hrw
theorem toClerk_any (cs : List Value) (x : ClkD) (w : World) (hs : ClkD.Short x 1048576) (h : ClkD.Is w cs x) :
    Calls Try.prog 53 #[.agg cs.toArray] w fun e w' => ∃ cs', e = .returned (.agg cs'.toArray) ∧ ClkD.In w' w.heap.size w'.heap.size cs' x ∧ Below w.heap.size w w' := by
  obtain ⟨arw, crw, rfl, hrw, srw⟩ := h
  obtain ⟨_, brw⟩ := hs
  refine (toClerk_raw _ _ _ _ _ _ _ _ _ _ w brw.1 hrw).mono ?_
  rintro e w' ⟨lrw, he, rrw, hb⟩
  exact ⟨_, he, ⟨lrw, rfl, rrw⟩, hb⟩
theorem eqClerk_same (cs ds : List Value) (x : ClkD) (w : World) (hs : ClkD.Short x 1048576) (h : ClkD.Is w cs x) (h' : ClkD.Is w ds x) :
    Calls Try.prog 55 #[.agg cs.toArray, .agg ds.toArray] w fun e w' => e = .returned (.bool true) ∧ Below w.heap.size w w' := by
  obtain ⟨arw, crw, rfl, hrw, srw⟩ := h
  obtain ⟨arw', crw', rfl, hrw', srw'⟩ := h'
  obtain ⟨_, brw⟩ := hs
  exact eqClerk_raw _ _ _ _ _ _ _ _ _ _ _ _ w brw.1 hrw hrw'

end Go.Proofs.Ytogbaoggebghdaa

namespace Go.Proofs.Ytogbaoggebghdaa
open Go.RowKit

set_option maxHeartbeats 1600000 in
set_option maxRecDepth 100000 in
theorem szClerkS_any (ao : Option Addr) (N c : Nat) (S : Nat → ClkD) (L0 : Int) (w : World) (h0 : 0 ≤ L0) (hL0 : L0 ≤ 1048576) (hN : N ≤ 1000000000000000) (hs : ClkDsShort N S 1000000000000000) (hx : ClkDsAt w ao N S) :
    Calls Try.prog 14 #[.slice ao N c, .int .i64 L0] w fun e w' => ∃ r : Int, e = .returned (.int .i64 r) ∧ (r = -1 ∨ (0 ≤ r ∧ r ≤ L0 ∧ N ≤ 1048576 ∧ ClkDsShort N S 1048576)) ∧ Below w.heap.size w w' := by
  have HS : Hid (ClkDsShort N S 1000000000000000) := hs
  have HX : Hid (ClkDsAt w ao N S) := hx
  clear hs hx
  by_cases hf : (N : Int) ≤ L0
  · have d0 : decide (L0 - (N : Int) < 0) = false := by simp; omega
    go_enter Try.func14, Try.ntmps14
    go_wp2
    go_loopw [1, 5] (fun l i wr => ∃ (k : Nat) (L : Int), k ≤ N ∧ i = .int .i64 k ∧ l = .int .i64 L ∧ 0 ≤ L ∧ L ≤ L0 ∧ ClkDsShort k S 1048576 ∧ Below w.heap.size w wr) (fun _ i _ => N - (intOf i).toNat)
    case atStart => exact ⟨0, _, Nat.zero_le _, rfl, rfl, by omega, by omega, fun i hi => by omega, Below.refl _ _⟩
    case round =>
      obtain ⟨k, L, hk, rfl, rfl, l0, l1, hst, hbel⟩ := hrel
      have HT : Hid (ClkDsShort k S 1048576) := hst
      clear hst d0
      by_cases hlt : k < N
      · obtain ⟨C, hC, hI⟩ := HX.out
        obtain ⟨b, off, rfl, hc⟩ := hC k hlt
        have HIK : Hid (ClkD.Is w (C k) (S k)) := hI k hlt
        obtain ⟨arw, crw, eC, hrw, srw⟩ := hI k hlt
        have hlt' : b < w.heap.size := World.block_lt_of_cell? w _ (hc 0 (by decide))
        have c0 : wr.cell? ⟨b, off + k * 7, none⟩ = some (.string (S k).nam) := (hbel.cell (p := ⟨b, off + k * 7, none⟩) hlt').trans (by have := hc 0 (by decide); rw [eC] at this; exact this)
        have c1 : wr.cell? ⟨b, off + k * 7 + 1, none⟩ = some (.int .i64 (S k).num) := (hbel.cell (p := ⟨b, off + k * 7 + 1, none⟩) hlt').trans (by have := hc 1 (by decide); rw [eC] at this; exact this)
        have c2 : wr.cell? ⟨b, off + k * 7 + 2, none⟩ = some (.bool (S k).opn) := (hbel.cell (p := ⟨b, off + k * 7 + 2, none⟩) hlt').trans (by have := hc 2 (by decide); rw [eC] at this; exact this)
        have c3 : wr.cell? ⟨b, off + k * 7 + 3, none⟩ = some (.int .i64 (S k).code) := (hbel.cell (p := ⟨b, off + k * 7 + 3, none⟩) hlt').trans (by have := hc 3 (by decide); rw [eC] at this; exact this)
        have c4 : wr.cell? ⟨b, off + k * 7 + 4, none⟩ = some (.int .i64 (S k).anam) := (hbel.cell (p := ⟨b, off + k * 7 + 4, none⟩) hlt').trans (by have := hc 4 (by decide); rw [eC] at this; exact this)
        have c5 : wr.cell? ⟨b, off + k * 7 + 5, none⟩ = some (.int .i64 (S k).price) := (hbel.cell (p := ⟨b, off + k * 7 + 5, none⟩) hlt').trans (by have := hc 5 (by decide); rw [eC] at this; exact this)
        have c6 : wr.cell? ⟨b, off + k * 7 + 6, none⟩ = some (.slice arw (S k).rwn crw) := (hbel.cell (p := ⟨b, off + k * 7 + 6, none⟩) hlt').trans (by have := hc 6 (by decide); rw [eC] at this; exact this)
        have HIW : Hid (ClkD.Is wr [.string (S k).nam, .int .i64 (S k).num, .bool (S k).opn, .int .i64 (S k).code, .int .i64 (S k).anam, .int .i64 (S k).price, .slice arw (S k).rwn crw] (S k)) := by show ClkD.Is wr [.string (S k).nam, .int .i64 (S k).num, .bool (S k).opn, .int .i64 (S k).code, .int .i64 (S k).anam, .int .i64 (S k).price, .slice arw (S k).rwn crw] (S k); rw [← eC]; exact HIK.out.below hbel
        have HSK : Hid (ClkD.Short (S k) 1000000000000000) := HS.out k hlt
        clear hC hI hc eC HIK hrw srw
        go_wp2_with fail
        refine (szClerk_any [.string (S k).nam, .int .i64 (S k).num, .bool (S k).opn, .int .i64 (S k).code, .int .i64 (S k).anam, .int .i64 (S k).price, .slice arw (S k).rwn crw] (S k) L _ l0 (by omega) HSK.out HIW.out).mono ?_
        rintro e w2 ⟨r, rfl, hr, hb3⟩
        rcases hr with rfl | ⟨r0, r1, r2⟩
        · go_wp2
          go_ret
          exact ⟨_, rfl, .inl rfl, after hbel hb3⟩
        · have d1 : decide (r < 0) = false := by simpa using r0
          go_wp2
          go_roundw
          case rel =>
            refine ⟨k + 1, r, by omega, by go_num, rfl, r0, by omega, fun i hi => ?_, after hbel hb3⟩
            by_cases e : i = k
            · subst e; exact r2
            · exact HT.out i (by omega)
          case measure => simp [intOf]; omega
      · obtain rfl : k = N := by omega
        go_wp2
        go_ret
        exact ⟨_, rfl, .inr ⟨l0, l1, by omega, HT.out⟩, hbel⟩
  · have d0 : decide (L0 - (N : Int) < 0) = true := by simp; omega
    go_enter Try.func14, Try.ntmps14
    go_wp2
    go_ret
    exact ⟨_, rfl, .inl rfl, Below.refl _ _⟩

theorem Try.infoClerk : (Try.prog.info? 68).map (fun i => (i.zero, i.size, i.bytes)) = some (some (.agg #[.string ⟨#[]⟩, .int .i64 0, .bool false, .int .i64 0, .int .i64 0, .int .i64 0, .slice none 0 0]), 7, 80) := by kernel_rfl

set_option maxHeartbeats 1600000 in
set_option maxRecDepth 100000 in
/-- toClerkS: a copy, its lists in new memory behind its own row. -/
theorem toClerkS_any (ao : Option Addr) (N cap : Nat) (S : Nat → ClkD) (w : World) (hN : N ≤ 1048576) (hs : ClkDsShort N S 1048576) (hz : ClkDsAt w ao N S) :
    Calls Try.prog 16 #[.slice ao N cap] w fun e w' => ∃ g C, e = .returned (.slice (some ⟨g, 0, none⟩) N N) ∧ ClkDsTo w' N w.heap.size w'.heap.size g N S C ∧ Below w.heap.size w w' := by
  obtain ⟨i0, hi, hz0, hz1, hz2⟩ := info_parts Try.infoClerk
  have HS : Hid (ClkDsShort N S 1048576) := hs
  have HX : Hid (ClkDsAt w ao N S) := hz
  clear hs hz
  go_enter Try.func16, Try.ntmps16
  go_wp2_with (first | (at_make; refine wpList_make_full _ rfl _ _ 23 rfl w.heap.size 68 i0 _ 7 Try.underlying23 hi hz0 hz1 .i64 .i64 _ _ N rfl rfl rfl rfl (by rw [hz2]; omega) (by unfold maxLen; omega) (Nat.le_refl _) ?_; intro w1 hown1 hgrow1))
  go_loopw [4] (fun i wr => ∃ (k : Nat) (C : Nat → List Value), k ≤ N ∧ i = .int .i64 k ∧ ClkDsTo wr k w.heap.size wr.heap.size w.heap.size N S C ∧ Below w.heap.size w wr)
    (fun i _ => N - (intOf i).toNat)
  case atStart => exact ⟨0, fun _ => [], Nat.zero_le _, rfl, ⟨(row_of_own hown1).congr (fun j hj => (made_recs (z := #[.string ⟨#[]⟩, .int .i64 0, .bool false, .int .i64 0, .int .i64 0, .int .i64 0, .slice none 0 0]) (sz := 7) rfl N j hj).trans (by unfold recCell; rw [upto_ge _ _ (by omega)])), Nat.le_refl _, (row_of_own hown1).lt, fun i hi => by omega⟩, (Below.refl _ _).grown hgrow1 (Nat.le_refl _) (by simp)⟩
  case round =>
    obtain ⟨k, C, hk, rfl, hrow, hbel⟩ := hrel
    clear hown1 hgrow1
    by_cases hlt : k < N
    · obtain ⟨E, hE, hI⟩ := HX.out
      obtain ⟨b, off, rfl, hc⟩ := hE k hlt
      have HIK : Hid (ClkD.Is w (E k) (S k)) := hI k hlt
      obtain ⟨arw, crw, eC, hrw, srw⟩ := hI k hlt
      have hlt' : b < w.heap.size := World.block_lt_of_cell? w _ (hc 0 (by decide))
      have c0 : wr.cell? ⟨b, off + k * 7, none⟩ = some (.string (S k).nam) := (hbel.cell (p := ⟨b, off + k * 7, none⟩) hlt').trans (by have := hc 0 (by decide); rw [eC] at this; exact this)
      have c1 : wr.cell? ⟨b, off + k * 7 + 1, none⟩ = some (.int .i64 (S k).num) := (hbel.cell (p := ⟨b, off + k * 7 + 1, none⟩) hlt').trans (by have := hc 1 (by decide); rw [eC] at this; exact this)
      have c2 : wr.cell? ⟨b, off + k * 7 + 2, none⟩ = some (.bool (S k).opn) := (hbel.cell (p := ⟨b, off + k * 7 + 2, none⟩) hlt').trans (by have := hc 2 (by decide); rw [eC] at this; exact this)
      have c3 : wr.cell? ⟨b, off + k * 7 + 3, none⟩ = some (.int .i64 (S k).code) := (hbel.cell (p := ⟨b, off + k * 7 + 3, none⟩) hlt').trans (by have := hc 3 (by decide); rw [eC] at this; exact this)
      have c4 : wr.cell? ⟨b, off + k * 7 + 4, none⟩ = some (.int .i64 (S k).anam) := (hbel.cell (p := ⟨b, off + k * 7 + 4, none⟩) hlt').trans (by have := hc 4 (by decide); rw [eC] at this; exact this)
      have c5 : wr.cell? ⟨b, off + k * 7 + 5, none⟩ = some (.int .i64 (S k).price) := (hbel.cell (p := ⟨b, off + k * 7 + 5, none⟩) hlt').trans (by have := hc 5 (by decide); rw [eC] at this; exact this)
      have c6 : wr.cell? ⟨b, off + k * 7 + 6, none⟩ = some (.slice arw (S k).rwn crw) := (hbel.cell (p := ⟨b, off + k * 7 + 6, none⟩) hlt').trans (by have := hc 6 (by decide); rw [eC] at this; exact this)
      have HIW : Hid (ClkD.Is wr [.string (S k).nam, .int .i64 (S k).num, .bool (S k).opn, .int .i64 (S k).code, .int .i64 (S k).anam, .int .i64 (S k).price, .slice arw (S k).rwn crw] (S k)) := by show ClkD.Is wr [.string (S k).nam, .int .i64 (S k).num, .bool (S k).opn, .int .i64 (S k).code, .int .i64 (S k).anam, .int .i64 (S k).price, .slice arw (S k).rwn crw] (S k); rw [← eC]; exact HIK.out.below hbel
      have HSK : Hid (ClkD.Short (S k) 1048576) := HS.out k hlt
      have HROW : Hid (ClkDsTo wr k w.heap.size wr.heap.size w.heap.size N S C) := hrow
      clear hE hI hc eC HIK hrow hrw srw
      go_wp2_with fail
      refine (toClerk_any [.string (S k).nam, .int .i64 (S k).num, .bool (S k).opn, .int .i64 (S k).code, .int .i64 (S k).anam, .int .i64 (S k).price, .slice arw (S k).rwn crw] (S k) _ HSK.out HIW.out).mono ?_
      rintro e w2 ⟨cs', rfl, hin, hb2⟩
      have HIN : Hid (ClkD.In w2 wr.heap.size w2.heap.size cs' (S k)) := hin
      obtain ⟨lrw, rfl, _⟩ := hin
      unfold whole
      have hr2 := (HROW.out.below hb2).wide (Nat.le_refl _) hb2.size
      have hsz := HROW.out.ghi
      clear c0 c1 c2 c3 c4 c5 c6
      have o0 := hr2.row.cell (i := k * 7) (by omega)
      have f0 := hr2.row.frozen (k * 7)
      have o1 := hr2.row.cell (i := k * 7 + 1) (by omega)
      have f1 := hr2.row.frozen (k * 7 + 1)
      have o2 := hr2.row.cell (i := k * 7 + 2) (by omega)
      have f2 := hr2.row.frozen (k * 7 + 2)
      have o3 := hr2.row.cell (i := k * 7 + 3) (by omega)
      have f3 := hr2.row.frozen (k * 7 + 3)
      have o4 := hr2.row.cell (i := k * 7 + 4) (by omega)
      have f4 := hr2.row.frozen (k * 7 + 4)
      have o5 := hr2.row.cell (i := k * 7 + 5) (by omega)
      have f5 := hr2.row.frozen (k * 7 + 5)
      have o6 := hr2.row.cell (i := k * 7 + 6) (by omega)
      have f6 := hr2.row.frozen (k * 7 + 6)
      have HR2 : Hid (ClkDsTo w2 k w.heap.size w2.heap.size w.heap.size N S C) := hr2
      clear hr2
      go_wp2
      go_roundw
      case rel =>
        clear o0 f0 o1 f1 o2 f2 o3 f3 o4 f4 o5 f5 o6 f6
        obtain ⟨W, hW⟩ : ∃ W, W = setFrom w2 w.heap.size (k * 7) [.string (S k).nam, .int .i64 (S k).num, .bool (S k).opn, .int .i64 (S k).code, .int .i64 (S k).anam, .int .i64 (S k).price, .slice (some ⟨lrw, 0, none⟩) (S k).rwn (S k).rwn] := ⟨_, rfl⟩
        have hC : W = (((((((w2.setCell ⟨w.heap.size, k * 7, none⟩ (.string (S k).nam)).setCell ⟨w.heap.size, k * 7 + 1, none⟩ (.int .i64 (S k).num)).setCell ⟨w.heap.size, k * 7 + 2, none⟩ (.bool (S k).opn)).setCell ⟨w.heap.size, k * 7 + 3, none⟩ (.int .i64 (S k).code)).setCell ⟨w.heap.size, k * 7 + 4, none⟩ (.int .i64 (S k).anam)).setCell ⟨w.heap.size, k * 7 + 5, none⟩ (.int .i64 (S k).price)).setCell ⟨w.heap.size, k * 7 + 6, none⟩ (.slice (some ⟨lrw, 0, none⟩) (S k).rwn (S k).rwn)) := by rw [hW]; rfl
        rw [← hC]
        clear hC
        have hk2 : Kept w2 W (fun x => x = w.heap.size) := by rw [hW]; exact setFrom_kept (S := fun x => x = w.heap.size) rfl _ _ _ (Kept.refl _ _)
        have hszW : W.heap.size = w2.heap.size := by rw [hW, setFrom_size]
        refine ⟨k + 1, fun i => if i = k then [.string (S k).nam, .int .i64 (S k).num, .bool (S k).opn, .int .i64 (S k).code, .int .i64 (S k).anam, .int .i64 (S k).price, .slice (some ⟨lrw, 0, none⟩) (S k).rwn (S k).rwn] else C i, by omega, by go_num, ⟨?_, Nat.le_refl _, by rw [hszW]; exact HR2.out.ghi, fun i hi => ?_⟩, by rw [hW]; exact setFrom_below (Nat.le_refl _) _ _ _ (after hbel hb2)⟩
        · rw [hW]
          refine rec_set HR2.out.row rfl (by decide) (fun i e => ?_) ?_
          · rw [upto_step _ _ _ _ e]; unfold upto; by_cases h : i < k
            · rw [if_pos h, if_pos h]; exact if_neg e
            · rw [if_neg h, if_neg h]
          · rw [upto_lt _ _ (Nat.lt_succ_self k)]; exact if_pos rfl
        · rw [hszW]
          by_cases e : i = k
          · subst e
            rw [if_pos rfl]
            exact (HIN.out.wide (by omega) (Nat.le_refl _)).kept hk2 (fun b h => by left; omega)
          · rw [if_neg e]
            exact (HR2.out.each i (by omega)).kept hk2 (fun b h => by left; omega)
      case measure => simp [intOf]; omega
    · obtain rfl : k = N := by omega
      go_wp2
      go_ret
      exact ⟨_, C, rfl, hrow, hbel⟩

set_option maxHeartbeats 3200000 in
set_option maxRecDepth 100000 in
/-- eqClerkS at two lists that are one. -/
theorem eqClerkS_same (ao bo : Option Addr) (N c1 c2 : Nat) (S : Nat → ClkD) (w : World) (hN : N ≤ 1048576) (hs : ClkDsShort N S 1048576) (hx : ClkDsAt w ao N S) (hy : ClkDsAt w bo N S) :
    Calls Try.prog 18 #[.slice ao N c1, .slice bo N c2] w fun e w' => e = .returned (.bool true) ∧ Below w.heap.size w w' := by
  have HS : Hid (ClkDsShort N S 1048576) := hs
  have HX : Hid (ClkDsAt w ao N S) := hx
  have HY : Hid (ClkDsAt w bo N S) := hy
  clear hs hx hy
  go_enter Try.func18, Try.ntmps18
  go_wp2
  go_loopw [5] (fun i wr => ∃ k : Nat, k ≤ N ∧ i = .int .i64 k ∧ Below w.heap.size w wr) (fun i _ => N - (intOf i).toNat)
  case atStart => exact ⟨0, Nat.zero_le _, rfl, Below.refl _ _⟩
  case round =>
    obtain ⟨k, hk, rfl, hbel⟩ := hrel
    by_cases hlt : k < N
    · obtain ⟨C, hC, hI⟩ := HX.out
      obtain ⟨D, hD, hJ⟩ := HY.out
      obtain ⟨b, off, rfl, hc⟩ := hC k hlt
      obtain ⟨b2, off2, rfl, hd⟩ := hD k hlt
      have HIK : Hid (ClkD.Is w (C k) (S k)) := hI k hlt
      have HJK : Hid (ClkD.Is w (D k) (S k)) := hJ k hlt
      obtain ⟨arw, crw, eC, hrw, srw⟩ := hI k hlt
      obtain ⟨arw', crw', eD, hrw', srw'⟩ := hJ k hlt
      have l1 : b < w.heap.size := World.block_lt_of_cell? w _ (hc 0 (by decide))
      have l2 : b2 < w.heap.size := World.block_lt_of_cell? w _ (hd 0 (by decide))
      have i1 : (0 : Int) ≤ (k : Int) := by omega
      have i2 : (k : Int) < (N : Int) := by omega
      have z0 : ∀ g : Grown wr, g.val.cell? ⟨b, off + k * 7, none⟩ = some (.string (S k).nam) := fun g => ((hbel.trans (g.bel.mono hbel.size)).cell (p := ⟨b, off + k * 7, none⟩) l1).trans (by have := hc 0 (by decide); rw [eC] at this; exact this)
      have y0 : ∀ g : Grown wr, g.val.cell? ⟨b2, off2 + k * 7, none⟩ = some (.string (S k).nam) := fun g => ((hbel.trans (g.bel.mono hbel.size)).cell (p := ⟨b2, off2 + k * 7, none⟩) l2).trans (by have := hd 0 (by decide); rw [eD] at this; exact this)
      have z1 : ∀ g : Grown wr, g.val.cell? ⟨b, off + k * 7 + 1, none⟩ = some (.int .i64 (S k).num) := fun g => ((hbel.trans (g.bel.mono hbel.size)).cell (p := ⟨b, off + k * 7 + 1, none⟩) l1).trans (by have := hc 1 (by decide); rw [eC] at this; exact this)
      have y1 : ∀ g : Grown wr, g.val.cell? ⟨b2, off2 + k * 7 + 1, none⟩ = some (.int .i64 (S k).num) := fun g => ((hbel.trans (g.bel.mono hbel.size)).cell (p := ⟨b2, off2 + k * 7 + 1, none⟩) l2).trans (by have := hd 1 (by decide); rw [eD] at this; exact this)
      have z2 : ∀ g : Grown wr, g.val.cell? ⟨b, off + k * 7 + 2, none⟩ = some (.bool (S k).opn) := fun g => ((hbel.trans (g.bel.mono hbel.size)).cell (p := ⟨b, off + k * 7 + 2, none⟩) l1).trans (by have := hc 2 (by decide); rw [eC] at this; exact this)
      have y2 : ∀ g : Grown wr, g.val.cell? ⟨b2, off2 + k * 7 + 2, none⟩ = some (.bool (S k).opn) := fun g => ((hbel.trans (g.bel.mono hbel.size)).cell (p := ⟨b2, off2 + k * 7 + 2, none⟩) l2).trans (by have := hd 2 (by decide); rw [eD] at this; exact this)
      have z3 : ∀ g : Grown wr, g.val.cell? ⟨b, off + k * 7 + 3, none⟩ = some (.int .i64 (S k).code) := fun g => ((hbel.trans (g.bel.mono hbel.size)).cell (p := ⟨b, off + k * 7 + 3, none⟩) l1).trans (by have := hc 3 (by decide); rw [eC] at this; exact this)
      have y3 : ∀ g : Grown wr, g.val.cell? ⟨b2, off2 + k * 7 + 3, none⟩ = some (.int .i64 (S k).code) := fun g => ((hbel.trans (g.bel.mono hbel.size)).cell (p := ⟨b2, off2 + k * 7 + 3, none⟩) l2).trans (by have := hd 3 (by decide); rw [eD] at this; exact this)
      have z4 : ∀ g : Grown wr, g.val.cell? ⟨b, off + k * 7 + 4, none⟩ = some (.int .i64 (S k).anam) := fun g => ((hbel.trans (g.bel.mono hbel.size)).cell (p := ⟨b, off + k * 7 + 4, none⟩) l1).trans (by have := hc 4 (by decide); rw [eC] at this; exact this)
      have y4 : ∀ g : Grown wr, g.val.cell? ⟨b2, off2 + k * 7 + 4, none⟩ = some (.int .i64 (S k).anam) := fun g => ((hbel.trans (g.bel.mono hbel.size)).cell (p := ⟨b2, off2 + k * 7 + 4, none⟩) l2).trans (by have := hd 4 (by decide); rw [eD] at this; exact this)
      have z5 : ∀ g : Grown wr, g.val.cell? ⟨b, off + k * 7 + 5, none⟩ = some (.int .i64 (S k).price) := fun g => ((hbel.trans (g.bel.mono hbel.size)).cell (p := ⟨b, off + k * 7 + 5, none⟩) l1).trans (by have := hc 5 (by decide); rw [eC] at this; exact this)
      have y5 : ∀ g : Grown wr, g.val.cell? ⟨b2, off2 + k * 7 + 5, none⟩ = some (.int .i64 (S k).price) := fun g => ((hbel.trans (g.bel.mono hbel.size)).cell (p := ⟨b2, off2 + k * 7 + 5, none⟩) l2).trans (by have := hd 5 (by decide); rw [eD] at this; exact this)
      have z6 : ∀ g : Grown wr, g.val.cell? ⟨b, off + k * 7 + 6, none⟩ = some (.slice arw (S k).rwn crw) := fun g => ((hbel.trans (g.bel.mono hbel.size)).cell (p := ⟨b, off + k * 7 + 6, none⟩) l1).trans (by have := hc 6 (by decide); rw [eC] at this; exact this)
      have y6 : ∀ g : Grown wr, g.val.cell? ⟨b2, off2 + k * 7 + 6, none⟩ = some (.slice arw' (S k).rwn crw') := fun g => ((hbel.trans (g.bel.mono hbel.size)).cell (p := ⟨b2, off2 + k * 7 + 6, none⟩) l2).trans (by have := hd 6 (by decide); rw [eD] at this; exact this)
      have ZI : Hid (∀ g : Grown wr, ClkD.Is g.val [.string (S k).nam, .int .i64 (S k).num, .bool (S k).opn, .int .i64 (S k).code, .int .i64 (S k).anam, .int .i64 (S k).price, .slice arw (S k).rwn crw] (S k)) := fun g => by rw [← eC]; exact (HIK.out.below hbel).below g.bel
      have ZJ : Hid (∀ g : Grown wr, ClkD.Is g.val [.string (S k).nam, .int .i64 (S k).num, .bool (S k).opn, .int .i64 (S k).code, .int .i64 (S k).anam, .int .i64 (S k).price, .slice arw' (S k).rwn crw'] (S k)) := fun g => by rw [← eD]; exact (HJK.out.below hbel).below g.bel
      have HSK : Hid (ClkD.Short (S k) 1048576) := HS.out k hlt
      clear hC hI hD hJ hc hd eC eD HIK HJK hrw srw hrw' srw'
      go_upto_region 6 with fail
      refine wp_region_grow (by kernel_rfl) (by kernel_rfl) ?_
      repeat (first | go_big_quiet_skip | (go_big_quiet_want; go_big_quiet_op; first | go_big_quiet_on | (apply Exists.intro; refine ⟨fun g => ?_, ?_⟩; (focus (first | (go_at_call 55; refine grown_call (v := .bool true) ((eqClerk_same [.string (S k).nam, .int .i64 (S k).num, .bool (S k).opn, .int .i64 (S k).code, .int .i64 (S k).anam, .int .i64 (S k).price, .slice arw (S k).rwn crw] [.string (S k).nam, .int .i64 (S k).num, .bool (S k).opn, .int .i64 (S k).code, .int .i64 (S k).anam, .int .i64 (S k).price, .slice arw' (S k).rwn crw'] (S k) _ HSK.out (ZI.out g) (ZJ.out g)).mono ?_); rintro e w2 ⟨rfl, hb2⟩; exact ⟨rfl, hb2⟩))); go_big_quiet_on)))
      refine wpQuiet_nil ?_
      rintro _ ⟨g, rfl⟩
      clear z0 y0 z1 y1 z2 y2 z3 y3 z4 y4 z5 y5 z6 y6
      go_wp2
      go_roundw
      case rel => exact ⟨k + 1, by omega, by go_num, after hbel g.bel⟩
      case measure => simp [intOf]; omega
    · go_wp2
      go_ret
      exact ⟨rfl, hbel⟩

end Go.Proofs.Ytogbaoggebghdaa
