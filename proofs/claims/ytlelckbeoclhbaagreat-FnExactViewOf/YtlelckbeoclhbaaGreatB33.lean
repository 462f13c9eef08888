/-
  OWN TEXT: LLoad, LLoads, LOffice, MarkStay.
-/
import Derived.Deep.RegionHeld3
import Derived.Deep.DeepCutAuto
import Derived.Test.YtlelckbeoclhbaaGreatB32
import Derived.Test.YtlelckbeoclhbaaGreatB10
import Derived.Test.YtlelckbeoclhbaaGreatB07
import Derived.Test.YtlelckbeoclhbaaGreatB08
set_option maxHeartbeats 12800000
set_option maxRecDepth 100000
namespace Go.Proofs.YtlelckbeoclhbaaGreat
open Go.RowKit
theorem load_set_0_1 {w : World} {g t : Nat} {u0 u1 u2 v0 : Value} (h : w.heap[g]? = some (.cells #[u0, u1, u2] t (0, 0))) : (setFrom w g 0 [v0]).heap[g]? = some (.cells #[v0, u1, u2] t (0, 0)) := by
  have := (blk_set h 0 v0)
  simp only [setFrom]
  simpa using this
theorem load_set_1_2 {w : World} {g t : Nat} {u0 u1 u2 v1 : Value} (h : w.heap[g]? = some (.cells #[u0, u1, u2] t (0, 0))) : (setFrom w g 1 [v1]).heap[g]? = some (.cells #[u0, v1, u2] t (0, 0)) := by
  have := (blk_set h 1 v1)
  simp only [setFrom]
  simpa using this
theorem load_set_2_3 {w : World} {g t : Nat} {u0 u1 u2 v2 : Value} (h : w.heap[g]? = some (.cells #[u0, u1, u2] t (0, 0))) : (setFrom w g 2 [v2]).heap[g]? = some (.cells #[u0, u1, v2] t (0, 0)) := by
  have := (blk_set h 2 v2)
  simp only [setFrom]
  simpa using this
theorem load_set_0_3 {w : World} {g t : Nat} {u0 u1 u2 v0 v1 v2 : Value} (h : w.heap[g]? = some (.cells #[u0, u1, u2] t (0, 0))) : (setFrom w g 0 [v0, v1, v2]).heap[g]? = some (.cells #[v0, v1, v2] t (0, 0)) := by
  have := (blk_set (blk_set (blk_set h 0 v0) 1 v1) 2 v2)
  simp only [setFrom]
  simpa using this
theorem szLoad_raw (ast : Option Addr) (stn cst : Nat) (aro : Option Addr) (ron cro : Nat) (ase : Option Addr) (sen cse : Nat) (L : Int) (w : World) (h0 : 0 ≤ L) (hL : L ≤ 1048576) (bst : stn ≤ 1000000000000000) (bro : ron ≤ 1000000000000000) (bse : sen ≤ 1000000000000000) :
    Calls Tryz.prog 46 #[.agg #[.slice ast stn cst, .slice aro ron cro, .slice ase sen cse], .int .i64 L] w fun e w' => ∃ r : Int, e = .returned (.int .i64 r) ∧ (r = -1 ∨ (0 ≤ r ∧ r ≤ L ∧ stn ≤ 1048576 ∧ ron ≤ 1048576 ∧ sen ≤ 1048576)) ∧ Below w.heap.size w w' := by
  have hb0 : Below w.heap.size w (w.alloc (.cells #[.slice ast stn cst, .slice aro ron cro, .slice ase sen cse] 101)) := push (Below.refl _ _) _
  have hA0 := heap_alloc_new w (.cells #[.slice ast stn cst, .slice aro ron cro, .slice ase sen cse] 101)
  go_enter Tryz.func46, Tryz.ntmps46
  go_wp2_with fail
  refine (szStayS_any ast stn cst (L) _ (by omega) (by omega) bst).mono ?_
  rintro e w0 ⟨r0, rfl, hr0, hb0'⟩
  have hA0' := blk_below hA0 hb0'
  have hbb0 := after hb0 hb0'
  rcases hr0 with rfl | ⟨r00, r01, r02⟩
  · go_wp2
    go_ret
    exact ⟨_, rfl, .inl rfl, hbb0⟩
  · have d0 : decide (r0 < 0) = false := by simpa using r00
    have q01 := blk_cell hA0' 1 _ rfl
    have q02 := blk_cell hA0' 2 _ rfl
    go_wp2_with fail
    refine (szRoomS_any aro ron cro (r0) _ (by omega) (by omega) bro).mono ?_
    rintro e w1 ⟨r1, rfl, hr1, hb1'⟩
    have hA1' := blk_below hA0' hb1'
    have hbb1 := after hbb0 hb1'
    rcases hr1 with rfl | ⟨r10, r11, r12⟩
    · go_wp2
      go_ret
      exact ⟨_, rfl, .inl rfl, hbb1⟩
    · have d1 : decide (r1 < 0) = false := by simpa using r10
      have q12 := blk_cell hA1' 2 _ rfl
      go_wp2_with fail
      refine (szSeatS_any ase sen cse (r1) _ (by omega) (by omega) bse).mono ?_
      rintro e w2 ⟨r2, rfl, hr2, hb2'⟩
      have hA2' := blk_below hA1' hb2'
      have hbb2 := after hbb1 hb2'
      rcases hr2 with rfl | ⟨r20, r21, r22⟩
      · go_wp2
        go_ret
        exact ⟨_, rfl, .inl rfl, hbb2⟩
      · have d2 : decide (r2 < 0) = false := by simpa using r20
        go_wp2
        go_ret
        exact ⟨_, rfl, .inr ⟨by omega, by omega, r02, r12, r22⟩, hbb2⟩
theorem toLoad_raw (ast : Option Addr) (stn cst : Nat) (st : Nat → Stay) (aro : Option Addr) (ron cro : Nat) (ro : Nat → Room) (ase : Option Addr) (sen cse : Nat) (se : Nat → Seat) (w : World) (nst : stn ≤ 1048576) (nro : ron ≤ 1048576) (nse : sen ≤ 1048576) (hst : StaysAt w ast stn st) (hro : RoomsAt w aro ron ro) (hse : SeatsAt w ase sen se) :
    Calls Tryz.prog 59 #[.agg #[.slice ast stn cst, .slice aro ron cro, .slice ase sen cse]] w fun e w' => ∃ lst lro lse, e = .returned (.agg #[.slice (some ⟨lst, 0, none⟩) stn stn, .slice (some ⟨lro, 0, none⟩) ron ron, .slice (some ⟨lse, 0, none⟩) sen sen]) ∧ (w.heap.size ≤ lst ∧ lst < w'.heap.size ∧ w'.rowIs lst 118 (stn * 4) (stayCell st)) ∧ (w.heap.size ≤ lro ∧ lro < w'.heap.size ∧ w'.rowIs lro 120 (ron * 4) (roomCell ro)) ∧ (w.heap.size ≤ lse ∧ lse < w'.heap.size ∧ w'.rowIs lse 126 (sen * 2) (seatCell se)) ∧ Below w.heap.size w w' := by
  go_enter Tryz.func59, Tryz.ntmps59
  go_wp2_with fail
  obtain ⟨W0, hW0⟩ : ∃ W, W = (((w.alloc (.cells #[.slice ast stn cst, .slice aro ron cro, .slice ase sen cse] 101)).alloc (.cells #[.slice none 0 0, .slice none 0 0, .slice none 0 0] 62)).alloc (.cells #[.slice none 0 0, .slice none 0 0, .slice none 0 0] 62)) := ⟨_, rfl⟩
  have H0 : Below w.heap.size w W0 := by rw [hW0]; exact push (push (push (Below.refl _ _) _) _) _
  have A0 : W0.heap[w.heap.size]? = some (.cells #[.slice ast stn cst, .slice aro ron cro, .slice ase sen cse] 101 (0, 0)) := by rw [hW0]; exact blk_alloc (blk_alloc (heap_alloc_new w _) _) _
  have R0 : W0.heap[w.heap.size + 1]? = some (.cells #[.slice none 0 0, .slice none 0 0, .slice none 0 0] 62 (0, 0)) := by rw [hW0]; exact blk_alloc (by simpa using heap_alloc_new (w.alloc _) _) _
  have O0 : W0.heap[w.heap.size + 1 + 1]? = some (.cells #[.slice none 0 0, .slice none 0 0, .slice none 0 0] 62 (0, 0)) := by rw [hW0]; simpa using heap_alloc_new ((w.alloc _).alloc _) _
  rw [← hW0]
  clear hW0
  refine (toStayS_any ast stn cst st _ nst (hst.below H0)).mono ?_
  rintro e v0 ⟨lst, rfl, glst, rowst, hb0⟩
  have Av0 := blk_below A0 hb0
  have Rv0 := blk_below R0 hb0
  have Ov0 := blk_below O0 hb0
  have Hv0 := after H0 hb0
  have gtst : w.heap.size + 1 + 1 < lst := by have := blk_lt O0; omega
  have gest : w.heap.size ≤ lst := by omega
  clear A0 R0 O0 H0 hb0 glst
  have qa1 := blk_cell Av0 1 _ rfl
  have fo0 := blk_free Ov0 0
  have qo0 := blk_cell Ov0 0 _ rfl
  go_wp2_with fail
  clear qa1 fo0 qo0
  obtain ⟨W1, hW1⟩ : ∃ W, W = setFrom v0 (w.heap.size + 1 + 1) 0 [.slice (some ⟨lst, 0, none⟩) stn stn] := ⟨_, rfl⟩
  have A1 : W1.heap[w.heap.size]? = some (.cells #[.slice ast stn cst, .slice aro ron cro, .slice ase sen cse] 101 (0, 0)) := by rw [hW1]; exact setFrom_blk_other (by omega) _ _ _ Av0
  have R1 : W1.heap[w.heap.size + 1]? = some (.cells #[.slice none 0 0, .slice none 0 0, .slice none 0 0] 62 (0, 0)) := by rw [hW1]; exact setFrom_blk_other (by omega) _ _ _ Rv0
  have O1 : W1.heap[w.heap.size + 1 + 1]? = some (.cells #[.slice (some ⟨lst, 0, none⟩) stn stn, .slice none 0 0, .slice none 0 0] 62 (0, 0)) := by rw [hW1]; exact load_set_0_1 Ov0
  have H1 : Below w.heap.size w W1 := by rw [hW1]; exact setFrom_below (by omega) _ _ _ Hv0
  have rowst' : W1.rowIs lst 118 (stn * 4) (stayCell st) := by rw [hW1]; exact setFrom_other (by omega) _ _ _ rowst
  have hC1 : W1 = (v0.setCell ⟨w.heap.size + 1 + 1, 0, none⟩ (.slice (some ⟨lst, 0, none⟩) stn stn)) := by rw [hW1]; rfl
  rw [← hC1]
  clear hW1 hC1 Av0 Rv0 Ov0 Hv0 rowst
  have rowst := rowst'
  clear rowst'
  refine (toRoomS_any aro ron cro ro _ nro (hro.below H1)).mono ?_
  rintro e v1 ⟨lro, rfl, glro, rowro, hb1⟩
  have Av1 := blk_below A1 hb1
  have Rv1 := blk_below R1 hb1
  have Ov1 := blk_below O1 hb1
  have Hv1 := after H1 hb1
  have rowst1 := row_below rowst hb1
  have gtro : w.heap.size + 1 + 1 < lro := by have := blk_lt O1; omega
  have gero : w.heap.size ≤ lro := by omega
  clear A1 R1 O1 H1 hb1 glro rowst
  have rowst := rowst1
  clear rowst1
  have qa2 := blk_cell Av1 2 _ rfl
  have fo1 := blk_free Ov1 1
  have qo1 := blk_cell Ov1 1 _ rfl
  go_wp2_with fail
  clear qa2 fo1 qo1
  obtain ⟨W2, hW2⟩ : ∃ W, W = setFrom v1 (w.heap.size + 1 + 1) 1 [.slice (some ⟨lro, 0, none⟩) ron ron] := ⟨_, rfl⟩
  have A2 : W2.heap[w.heap.size]? = some (.cells #[.slice ast stn cst, .slice aro ron cro, .slice ase sen cse] 101 (0, 0)) := by rw [hW2]; exact setFrom_blk_other (by omega) _ _ _ Av1
  have R2 : W2.heap[w.heap.size + 1]? = some (.cells #[.slice none 0 0, .slice none 0 0, .slice none 0 0] 62 (0, 0)) := by rw [hW2]; exact setFrom_blk_other (by omega) _ _ _ Rv1
  have O2 : W2.heap[w.heap.size + 1 + 1]? = some (.cells #[.slice (some ⟨lst, 0, none⟩) stn stn, .slice (some ⟨lro, 0, none⟩) ron ron, .slice none 0 0] 62 (0, 0)) := by rw [hW2]; exact load_set_1_2 Ov1
  have H2 : Below w.heap.size w W2 := by rw [hW2]; exact setFrom_below (by omega) _ _ _ Hv1
  have rowst' : W2.rowIs lst 118 (stn * 4) (stayCell st) := by rw [hW2]; exact setFrom_other (by omega) _ _ _ rowst
  have rowro' : W2.rowIs lro 120 (ron * 4) (roomCell ro) := by rw [hW2]; exact setFrom_other (by omega) _ _ _ rowro
  have hC2 : W2 = (v1.setCell ⟨w.heap.size + 1 + 1, 1, none⟩ (.slice (some ⟨lro, 0, none⟩) ron ron)) := by rw [hW2]; rfl
  rw [← hC2]
  clear hW2 hC2 Av1 Rv1 Ov1 Hv1 rowst rowro
  have rowst := rowst'
  clear rowst'
  have rowro := rowro'
  clear rowro'
  refine (toSeatS_any ase sen cse se _ nse (hse.below H2)).mono ?_
  rintro e v2 ⟨lse, rfl, glse, rowse, hb2⟩
  have Av2 := blk_below A2 hb2
  have Rv2 := blk_below R2 hb2
  have Ov2 := blk_below O2 hb2
  have Hv2 := after H2 hb2
  have rowst2 := row_below rowst hb2
  have rowro2 := row_below rowro hb2
  have gtse : w.heap.size + 1 + 1 < lse := by have := blk_lt O2; omega
  have gese : w.heap.size ≤ lse := by omega
  clear A2 R2 O2 H2 hb2 glse rowst rowro
  have rowst := rowst2
  clear rowst2
  have rowro := rowro2
  clear rowro2
  have fo2 := blk_free Ov2 2
  have qo0 := blk_cell Ov2 0 _ rfl
  have qo1 := blk_cell Ov2 1 _ rfl
  have qo2 := blk_cell Ov2 2 _ rfl
  have z0 := blk_free Rv2 0
  have y0 := blk_cell Rv2 0 _ rfl
  have z1 := blk_free Rv2 1
  have y1 := blk_cell Rv2 1 _ rfl
  have z2 := blk_free Rv2 2
  have y2 := blk_cell Rv2 2 _ rfl
  go_wp2
  clear fo2 qo0 qo1 qo2 z0 y0 z1 y1 z2 y2
  obtain ⟨W3, hW3⟩ : ∃ W, W = setFrom v2 (w.heap.size + 1 + 1) 2 [.slice (some ⟨lse, 0, none⟩) sen sen] := ⟨_, rfl⟩
  have A3 : W3.heap[w.heap.size]? = some (.cells #[.slice ast stn cst, .slice aro ron cro, .slice ase sen cse] 101 (0, 0)) := by rw [hW3]; exact setFrom_blk_other (by omega) _ _ _ Av2
  have R3 : W3.heap[w.heap.size + 1]? = some (.cells #[.slice none 0 0, .slice none 0 0, .slice none 0 0] 62 (0, 0)) := by rw [hW3]; exact setFrom_blk_other (by omega) _ _ _ Rv2
  have O3 : W3.heap[w.heap.size + 1 + 1]? = some (.cells #[.slice (some ⟨lst, 0, none⟩) stn stn, .slice (some ⟨lro, 0, none⟩) ron ron, .slice (some ⟨lse, 0, none⟩) sen sen] 62 (0, 0)) := by rw [hW3]; exact load_set_2_3 Ov2
  have H3 : Below w.heap.size w W3 := by rw [hW3]; exact setFrom_below (by omega) _ _ _ Hv2
  have rowst' : W3.rowIs lst 118 (stn * 4) (stayCell st) := by rw [hW3]; exact setFrom_other (by omega) _ _ _ rowst
  have rowro' : W3.rowIs lro 120 (ron * 4) (roomCell ro) := by rw [hW3]; exact setFrom_other (by omega) _ _ _ rowro
  have rowse' : W3.rowIs lse 126 (sen * 2) (seatCell se) := by rw [hW3]; exact setFrom_other (by omega) _ _ _ rowse
  have hC3 : W3 = (v2.setCell ⟨w.heap.size + 1 + 1, 2, none⟩ (.slice (some ⟨lse, 0, none⟩) sen sen)) := by rw [hW3]; rfl
  rw [← hC3]
  clear hW3 hC3 Av2 Rv2 Ov2 Hv2 rowst rowro rowse
  have rowst := rowst'
  clear rowst'
  have rowro := rowro'
  clear rowro'
  have rowse := rowse'
  clear rowse'
  obtain ⟨F, hF⟩ : ∃ F, F = setFrom W3 (w.heap.size + 1) 0 [.slice (some ⟨lst, 0, none⟩) stn stn, .slice (some ⟨lro, 0, none⟩) ron ron, .slice (some ⟨lse, 0, none⟩) sen sen] := ⟨_, rfl⟩
  have RF : F.heap[w.heap.size + 1]? = some (.cells #[.slice (some ⟨lst, 0, none⟩) stn stn, .slice (some ⟨lro, 0, none⟩) ron ron, .slice (some ⟨lse, 0, none⟩) sen sen] 62 (0, 0)) := by rw [hF]; exact load_set_0_3 R3
  have HF : Below w.heap.size w F := by rw [hF]; exact setFrom_below (by omega) _ _ _ H3
  have rFst : F.rowIs lst 118 (stn * 4) (stayCell st) := by rw [hF]; exact setFrom_other (by omega) _ _ _ rowst
  have rFro : F.rowIs lro 120 (ron * 4) (roomCell ro) := by rw [hF]; exact setFrom_other (by omega) _ _ _ rowro
  have rFse : F.rowIs lse 126 (sen * 2) (seatCell se) := by rw [hF]; exact setFrom_other (by omega) _ _ _ rowse
  have hCF : F = (((W3.setCell ⟨w.heap.size + 1, 0, none⟩ (.slice (some ⟨lst, 0, none⟩) stn stn)).setCell ⟨w.heap.size + 1, 1, none⟩ (.slice (some ⟨lro, 0, none⟩) ron ron)).setCell ⟨w.heap.size + 1, 2, none⟩ (.slice (some ⟨lse, 0, none⟩) sen sen)) := by rw [hF]; rfl
  rw [← hCF]
  clear hF hCF
  have z0 := blk_cell RF 0 _ rfl
  have z1 := blk_cell RF 1 _ rfl
  have z2 := blk_cell RF 2 _ rfl
  exact bodyPost_ret (v := .agg #[.slice (some ⟨lst, 0, none⟩) stn stn, .slice (some ⟨lro, 0, none⟩) ron ron, .slice (some ⟨lse, 0, none⟩) sen sen]) (by simp [results, Tryz.results59, go_sem, z0, z1, z2]) rfl ⟨lst, lro, lse, rfl, ⟨gest, rFst.lt, rFst⟩, ⟨gero, rFro.lt, rFro⟩, ⟨gese, rFse.lt, rFse⟩, HF⟩
theorem eqLoad_raw (ast : Option Addr) (stn cst : Nat) (st : Nat → Stay) (aro : Option Addr) (ron cro : Nat) (ro : Nat → Room) (ase : Option Addr) (sen cse : Nat) (se : Nat → Seat) (ast' : Option Addr) (cst' : Nat) (aro' : Option Addr) (cro' : Nat) (ase' : Option Addr) (cse' : Nat) (w : World) (nst : stn ≤ 1048576) (nro : ron ≤ 1048576) (nse : sen ≤ 1048576) (hst : StaysAt w ast stn st) (hro : RoomsAt w aro ron ro) (hse : SeatsAt w ase sen se) (hst' : StaysAt w ast' stn st) (hro' : RoomsAt w aro' ron ro) (hse' : SeatsAt w ase' sen se) :
    Calls Tryz.prog 73 #[.agg #[.slice ast stn cst, .slice aro ron cro, .slice ase sen cse], .agg #[.slice ast' stn cst', .slice aro' ron cro', .slice ase' sen cse']] w fun e w' => e = .returned (.bool true) ∧ Below w.heap.size w w' := by
  have H0 : Below w.heap.size w ((w.alloc (.cells #[.slice ast stn cst, .slice aro ron cro, .slice ase sen cse] 62)).alloc (.cells #[.slice ast' stn cst', .slice aro' ron cro', .slice ase' sen cse'] 62)) := push (push (Below.refl _ _) _) _
  have A0 : ((w.alloc (.cells #[.slice ast stn cst, .slice aro ron cro, .slice ase sen cse] 62)).alloc (.cells #[.slice ast' stn cst', .slice aro' ron cro', .slice ase' sen cse'] 62)).heap[w.heap.size]? = some (.cells #[.slice ast stn cst, .slice aro ron cro, .slice ase sen cse] 62 (0, 0)) := blk_alloc (heap_alloc_new w _) _
  have B0 : ((w.alloc (.cells #[.slice ast stn cst, .slice aro ron cro, .slice ase sen cse] 62)).alloc (.cells #[.slice ast' stn cst', .slice aro' ron cro', .slice ase' sen cse'] 62)).heap[w.heap.size + 1]? = some (.cells #[.slice ast' stn cst', .slice aro' ron cro', .slice ase' sen cse'] 62 (0, 0)) := by simpa using heap_alloc_new (w.alloc _) _
  go_enter Tryz.func73, Tryz.ntmps73
  go_wp2_with fail
  generalize (w.alloc (.cells #[.slice ast stn cst, .slice aro ron cro, .slice ase sen cse] 62)).alloc (.cells #[.slice ast' stn cst', .slice aro' ron cro', .slice ase' sen cse'] 62) = v at H0 A0 B0 ⊢
  refine (eqStayS_same ast ast' stn cst cst' st _ (by omega) (hst.below H0) (hst'.below H0)).mono ?_
  rintro e v0 ⟨rfl, hb0⟩
  have A1 := blk_below A0 hb0
  have B1 := blk_below B0 hb0
  have H1 := after H0 hb0
  clear A0 B0 H0 hb0
  have qa1 := blk_cell A1 1 _ rfl
  have qb1 := blk_cell B1 1 _ rfl
  go_wp2_with fail
  clear qa1 qb1
  refine (eqRoomS_same aro aro' ron cro cro' ro _ (by omega) (hro.below H1) (hro'.below H1)).mono ?_
  rintro e v1 ⟨rfl, hb1⟩
  have A2 := blk_below A1 hb1
  have B2 := blk_below B1 hb1
  have H2 := after H1 hb1
  clear A1 B1 H1 hb1
  have qa2 := blk_cell A2 2 _ rfl
  have qb2 := blk_cell B2 2 _ rfl
  go_wp2_with fail
  clear qa2 qb2
  refine (eqSeatS_same ase ase' sen cse cse' se _ (by omega) (hse.below H2) (hse'.below H2)).mono ?_
  rintro e v2 ⟨rfl, hb2⟩
  have A3 := blk_below A2 hb2
  have B3 := blk_below B2 hb2
  have H3 := after H2 hb2
  clear A2 B2 H2 hb2
  go_wp2
  go_ret
  exact ⟨rfl, H3⟩
theorem szLoad_any (cs : List Value) (x : Load) (L : Int) (w : World) (h0 : 0 ≤ L) (hL : L ≤ 1048576) (hs : Load.Short x 1000000000000000) (h : Load.Is w cs x) :
    Calls Tryz.prog 46 #[.agg cs.toArray, .int .i64 L] w fun e w' => ∃ r : Int, e = .returned (.int .i64 r) ∧ (r = -1 ∨ (0 ≤ r ∧ r ≤ L ∧ Load.Short x 1048576)) ∧ Below w.heap.size w w' := by
  obtain ⟨ast, cst, aro, cro, ase, cse, rfl, hst, sst, hro, sro, hse, sse⟩ := h
  obtain ⟨bst, bro, bse⟩ := hs
  exact szLoad_raw _ _ _ _ _ _ _ _ _ L w h0 hL bst bro bse
theorem toLoad_any (cs : List Value) (x : Load) (w : World) (hs : Load.Short x 1048576) (h : Load.Is w cs x) :
    Calls Tryz.prog 59 #[.agg cs.toArray] w fun e w' => ∃ cs', e = .returned (.agg cs'.toArray) ∧ Load.In w' w.heap.size w'.heap.size cs' x ∧ Below w.heap.size w w' := by
  obtain ⟨ast, cst, aro, cro, ase, cse, rfl, hst, sst, hro, sro, hse, sse⟩ := h
  obtain ⟨bst, bro, bse⟩ := hs
  refine (toLoad_raw _ _ _ _ _ _ _ _ _ _ _ _ w bst bro bse hst hro hse).mono ?_
  rintro e w' ⟨lst, lro, lse, he, rst, rro, rse, hb⟩
  exact ⟨_, he, ⟨lst, lro, lse, rfl, rst, rro, rse⟩, hb⟩
theorem eqLoad_same (cs ds : List Value) (x : Load) (w : World) (hs : Load.Short x 1048576) (h : Load.Is w cs x) (h' : Load.Is w ds x) :
    Calls Tryz.prog 73 #[.agg cs.toArray, .agg ds.toArray] w fun e w' => e = .returned (.bool true) ∧ Below w.heap.size w w' := by
  obtain ⟨ast, cst, aro, cro, ase, cse, rfl, hst, sst, hro, sro, hse, sse⟩ := h
  obtain ⟨ast', cst', aro', cro', ase', cse', rfl, hst', sst', hro', sro', hse', sse'⟩ := h'
  obtain ⟨bst, bro, bse⟩ := hs
  exact eqLoad_raw _ _ _ _ _ _ _ _ _ _ _ _ _ _ _ _ _ _ w bst bro bse hst hro hse hst' hro' hse'
end Go.Proofs.YtlelckbeoclhbaaGreat

namespace Go.Proofs.YtlelckbeoclhbaaGreat
open Go.RowKit
theorem szLoadS_any (ao : Option Addr) (N c : Nat) (S : Nat → Load) (L0 : Int) (w : World) (h0 : 0 ≤ L0) (hL0 : L0 ≤ 1048576) (hN : N ≤ 1000000000000000) (hs : LoadsShort N S 1000000000000000) (hx : LoadsAt w ao N S) :
    Calls Tryz.prog 14 #[.slice ao N c, .int .i64 L0] w fun e w' => ∃ r : Int, e = .returned (.int .i64 r) ∧ (r = -1 ∨ (0 ≤ r ∧ r ≤ L0 ∧ N ≤ 1048576 ∧ LoadsShort N S 1048576)) ∧ Below w.heap.size w w' := by
  have HS : Hid (LoadsShort N S 1000000000000000) := hs
  have HX : Hid (LoadsAt w ao N S) := hx
  clear hs hx
  by_cases hf : (N : Int) ≤ L0
  · have d0 : decide (L0 - (N : Int) < 0) = false := by simp; omega
    go_enter Tryz.func14, Tryz.ntmps14
    go_wp2
    go_loopw [1, 5] (fun l i wr => ∃ (k : Nat) (L : Int), k ≤ N ∧ i = .int .i64 k ∧ l = .int .i64 L ∧ 0 ≤ L ∧ L ≤ L0 ∧ LoadsShort k S 1048576 ∧ Below w.heap.size w wr) (fun _ i _ => N - (intOf i).toNat)
    case atStart => exact ⟨0, _, Nat.zero_le _, rfl, rfl, by omega, by omega, fun i hi => by omega, Below.refl _ _⟩
    case round =>
      obtain ⟨k, L, hk, rfl, rfl, l0, l1, hst, hbel⟩ := hrel
      have HT : Hid (LoadsShort k S 1048576) := hst
      clear hst d0
      by_cases hlt : k < N
      · obtain ⟨C, hC, hI⟩ := HX.out
        obtain ⟨b, off, rfl, hc⟩ := hC k hlt
        have HIK : Hid (Load.Is w (C k) (S k)) := hI k hlt
        obtain ⟨ast, cst, aro, cro, ase, cse, eC, hst, sst, hro, sro, hse, sse⟩ := hI k hlt
        have hlt' : b < w.heap.size := World.block_lt_of_cell? w _ (hc 0 (by decide))
        have c0 : wr.cell? ⟨b, off + k * 3, none⟩ = some (.slice ast (S k).stn cst) := (hbel.cell (p := ⟨b, off + k * 3, none⟩) hlt').trans (by have := hc 0 (by decide); rw [eC] at this; exact this)
        have c1 : wr.cell? ⟨b, off + k * 3 + 1, none⟩ = some (.slice aro (S k).ron cro) := (hbel.cell (p := ⟨b, off + k * 3 + 1, none⟩) hlt').trans (by have := hc 1 (by decide); rw [eC] at this; exact this)
        have c2 : wr.cell? ⟨b, off + k * 3 + 2, none⟩ = some (.slice ase (S k).sen cse) := (hbel.cell (p := ⟨b, off + k * 3 + 2, none⟩) hlt').trans (by have := hc 2 (by decide); rw [eC] at this; exact this)
        have HIW : Hid (Load.Is wr [.slice ast (S k).stn cst, .slice aro (S k).ron cro, .slice ase (S k).sen cse] (S k)) := by show Load.Is wr [.slice ast (S k).stn cst, .slice aro (S k).ron cro, .slice ase (S k).sen cse] (S k); rw [← eC]; exact HIK.out.below hbel
        have HSK : Hid (Load.Short (S k) 1000000000000000) := HS.out k hlt
        clear hC hI hc eC HIK hst sst hro sro hse sse
        go_wp2_with fail
        refine (szLoad_any [.slice ast (S k).stn cst, .slice aro (S k).ron cro, .slice ase (S k).sen cse] (S k) L _ l0 (by omega) HSK.out HIW.out).mono ?_
        rintro e w2 ⟨r, rfl, hr, hb3⟩
        rcases hr with rfl | ⟨r0, r1, r2⟩
        · go_wp2
          go_ret
          exact ⟨_, rfl, .inl rfl, after hbel hb3⟩
        · have d1 : decide (r < 0) = false := by simpa using r0
          go_wp2
          go_roundw
          case rel =>
            refine ⟨k + 1, r, by omega, by go_num, rfl, r0, by omega, fun i hi => ?_, after hbel hb3⟩
            by_cases e : i = k
            · subst e; exact r2
            · exact HT.out i (by omega)
          case measure => simp [intOf]; omega
      · obtain rfl : k = N := by omega
        go_wp2
        go_ret
        exact ⟨_, rfl, .inr ⟨l0, l1, by omega, HT.out⟩, hbel⟩
  · have d0 : decide (L0 - (N : Int) < 0) = true := by simp; omega
    go_enter Tryz.func14, Tryz.ntmps14
    go_wp2
    go_ret
    exact ⟨_, rfl, .inl rfl, Below.refl _ _⟩
theorem Tryz.infoLoad : (Tryz.prog.info? 62).map (fun i => (i.zero, i.size, i.bytes)) = some (some (.agg #[.slice none 0 0, .slice none 0 0, .slice none 0 0]), 3, 72) := by kernel_rfl
theorem toLoadS_any (ao : Option Addr) (N cap : Nat) (S : Nat → Load) (w : World) (hN : N ≤ 1048576) (hs : LoadsShort N S 1048576) (hz : LoadsAt w ao N S) :
    Calls Tryz.prog 23 #[.slice ao N cap] w fun e w' => ∃ g C, e = .returned (.slice (some ⟨g, 0, none⟩) N N) ∧ LoadsTo w' N w.heap.size w'.heap.size g N S C ∧ Below w.heap.size w w' := by
  obtain ⟨i0, hi, hz0, hz1, hz2⟩ := info_parts Tryz.infoLoad
  have HS : Hid (LoadsShort N S 1048576) := hs
  have HX : Hid (LoadsAt w ao N S) := hz
  clear hs hz
  go_enter Tryz.func23, Tryz.ntmps23
  go_wp2_with (first | (at_make; refine wpList_make_full _ rfl _ _ 37 rfl w.heap.size 62 i0 _ 3 Tryz.underlying37 hi hz0 hz1 .i64 .i64 _ _ N rfl rfl rfl rfl (by rw [hz2]; omega) (by unfold maxLen; omega) (Nat.le_refl _) ?_; intro w1 hown1 hgrow1))
  go_loopw [4] (fun i wr => ∃ (k : Nat) (C : Nat → List Value), k ≤ N ∧ i = .int .i64 k ∧ LoadsTo wr k w.heap.size wr.heap.size w.heap.size N S C ∧ Below w.heap.size w wr)
    (fun i _ => N - (intOf i).toNat)
  case atStart => exact ⟨0, fun _ => [], Nat.zero_le _, rfl, ⟨(row_of_own hown1).congr (fun j hj => (made_recs (z := #[.slice none 0 0, .slice none 0 0, .slice none 0 0]) (sz := 3) rfl N j hj).trans (by unfold recCell; rw [upto_ge _ _ (by omega)])), Nat.le_refl _, (row_of_own hown1).lt, fun i hi => by omega⟩, (Below.refl _ _).grown hgrow1 (Nat.le_refl _) (by simp)⟩
  case round =>
    obtain ⟨k, C, hk, rfl, hrow, hbel⟩ := hrel
    clear hown1 hgrow1
    by_cases hlt : k < N
    · obtain ⟨E, hE, hI⟩ := HX.out
      obtain ⟨b, off, rfl, hc⟩ := hE k hlt
      have HIK : Hid (Load.Is w (E k) (S k)) := hI k hlt
      obtain ⟨ast, cst, aro, cro, ase, cse, eC, hst, sst, hro, sro, hse, sse⟩ := hI k hlt
      have hlt' : b < w.heap.size := World.block_lt_of_cell? w _ (hc 0 (by decide))
      have c0 : wr.cell? ⟨b, off + k * 3, none⟩ = some (.slice ast (S k).stn cst) := (hbel.cell (p := ⟨b, off + k * 3, none⟩) hlt').trans (by have := hc 0 (by decide); rw [eC] at this; exact this)
      have c1 : wr.cell? ⟨b, off + k * 3 + 1, none⟩ = some (.slice aro (S k).ron cro) := (hbel.cell (p := ⟨b, off + k * 3 + 1, none⟩) hlt').trans (by have := hc 1 (by decide); rw [eC] at this; exact this)
      have c2 : wr.cell? ⟨b, off + k * 3 + 2, none⟩ = some (.slice ase (S k).sen cse) := (hbel.cell (p := ⟨b, off + k * 3 + 2, none⟩) hlt').trans (by have := hc 2 (by decide); rw [eC] at this; exact this)
      have HIW : Hid (Load.Is wr [.slice ast (S k).stn cst, .slice aro (S k).ron cro, .slice ase (S k).sen cse] (S k)) := by show Load.Is wr [.slice ast (S k).stn cst, .slice aro (S k).ron cro, .slice ase (S k).sen cse] (S k); rw [← eC]; exact HIK.out.below hbel
      have HSK : Hid (Load.Short (S k) 1048576) := HS.out k hlt
      have HROW : Hid (LoadsTo wr k w.heap.size wr.heap.size w.heap.size N S C) := hrow
      clear hE hI hc eC HIK hrow hst sst hro sro hse sse
      go_wp2_with fail
      refine (toLoad_any [.slice ast (S k).stn cst, .slice aro (S k).ron cro, .slice ase (S k).sen cse] (S k) _ HSK.out HIW.out).mono ?_
      rintro e w2 ⟨cs', rfl, hin, hb2⟩
      have HIN : Hid (Load.In w2 wr.heap.size w2.heap.size cs' (S k)) := hin
      obtain ⟨lst, lro, lse, rfl, _, _, _⟩ := hin
      unfold whole
      have hr2 := (HROW.out.below hb2).wide (Nat.le_refl _) hb2.size
      have hsz := HROW.out.ghi
      clear c0 c1 c2
      have o0 := hr2.row.cell (i := k * 3) (by omega)
      have f0 := hr2.row.frozen (k * 3)
      have o1 := hr2.row.cell (i := k * 3 + 1) (by omega)
      have f1 := hr2.row.frozen (k * 3 + 1)
      have o2 := hr2.row.cell (i := k * 3 + 2) (by omega)
      have f2 := hr2.row.frozen (k * 3 + 2)
      have HR2 : Hid (LoadsTo w2 k w.heap.size w2.heap.size w.heap.size N S C) := hr2
      clear hr2
      go_wp2
      go_roundw
      case rel =>
        clear o0 f0 o1 f1 o2 f2
        obtain ⟨W, hW⟩ : ∃ W, W = setFrom w2 w.heap.size (k * 3) [.slice (some ⟨lst, 0, none⟩) (S k).stn (S k).stn, .slice (some ⟨lro, 0, none⟩) (S k).ron (S k).ron, .slice (some ⟨lse, 0, none⟩) (S k).sen (S k).sen] := ⟨_, rfl⟩
        have hC : W = (((w2.setCell ⟨w.heap.size, k * 3, none⟩ (.slice (some ⟨lst, 0, none⟩) (S k).stn (S k).stn)).setCell ⟨w.heap.size, k * 3 + 1, none⟩ (.slice (some ⟨lro, 0, none⟩) (S k).ron (S k).ron)).setCell ⟨w.heap.size, k * 3 + 2, none⟩ (.slice (some ⟨lse, 0, none⟩) (S k).sen (S k).sen)) := by rw [hW]; rfl
        rw [← hC]
        clear hC
        have hk2 : Kept w2 W (fun x => x = w.heap.size) := by rw [hW]; exact setFrom_kept (S := fun x => x = w.heap.size) rfl _ _ _ (Kept.refl _ _)
        have hszW : W.heap.size = w2.heap.size := by rw [hW, setFrom_size]
        refine ⟨k + 1, fun i => if i = k then [.slice (some ⟨lst, 0, none⟩) (S k).stn (S k).stn, .slice (some ⟨lro, 0, none⟩) (S k).ron (S k).ron, .slice (some ⟨lse, 0, none⟩) (S k).sen (S k).sen] else C i, by omega, by go_num, ⟨?_, Nat.le_refl _, by rw [hszW]; exact HR2.out.ghi, fun i hi => ?_⟩, by rw [hW]; exact setFrom_below (Nat.le_refl _) _ _ _ (after hbel hb2)⟩
        · rw [hW]
          refine rec_set HR2.out.row rfl (by decide) (fun i e => ?_) ?_
          · rw [upto_step _ _ _ _ e]; unfold upto; by_cases h : i < k
            · rw [if_pos h, if_pos h]; exact if_neg e
            · rw [if_neg h, if_neg h]
          · rw [upto_lt _ _ (Nat.lt_succ_self k)]; exact if_pos rfl
        · rw [hszW]
          by_cases e : i = k
          · subst e
            rw [if_pos rfl]
            exact (HIN.out.wide (by omega) (Nat.le_refl _)).kept hk2 (fun b h => by left; omega)
          · rw [if_neg e]
            exact (HR2.out.each i (by omega)).kept hk2 (fun b h => by left; omega)
      case measure => simp [intOf]; omega
    · obtain rfl : k = N := by omega
      go_wp2
      go_ret
      exact ⟨_, C, rfl, hrow, hbel⟩
theorem eqLoadS_same (ao bo : Option Addr) (N c1 c2 : Nat) (S : Nat → Load) (w : World) (hN : N ≤ 1048576) (hs : LoadsShort N S 1048576) (hx : LoadsAt w ao N S) (hy : LoadsAt w bo N S) :
    Calls Tryz.prog 34 #[.slice ao N c1, .slice bo N c2] w fun e w' => e = .returned (.bool true) ∧ Below w.heap.size w w' := by
  have HS : Hid (LoadsShort N S 1048576) := hs
  have HX : Hid (LoadsAt w ao N S) := hx
  have HY : Hid (LoadsAt w bo N S) := hy
  clear hs hx hy
  go_enter Tryz.func34, Tryz.ntmps34
  go_wp2
  go_loopw [5] (fun i wr => ∃ k : Nat, k ≤ N ∧ i = .int .i64 k ∧ Below w.heap.size w wr) (fun i _ => N - (intOf i).toNat)
  case atStart => exact ⟨0, Nat.zero_le _, rfl, Below.refl _ _⟩
  case round =>
    obtain ⟨k, hk, rfl, hbel⟩ := hrel
    by_cases hlt : k < N
    · obtain ⟨C, hC, hI⟩ := HX.out
      obtain ⟨D, hD, hJ⟩ := HY.out
      obtain ⟨b, off, rfl, hc⟩ := hC k hlt
      obtain ⟨b2, off2, rfl, hd⟩ := hD k hlt
      have HIK : Hid (Load.Is w (C k) (S k)) := hI k hlt
      have HJK : Hid (Load.Is w (D k) (S k)) := hJ k hlt
      obtain ⟨ast, cst, aro, cro, ase, cse, eC, hst, sst, hro, sro, hse, sse⟩ := hI k hlt
      obtain ⟨ast', cst', aro', cro', ase', cse', eD, hst', sst', hro', sro', hse', sse'⟩ := hJ k hlt
      have l1 : b < w.heap.size := World.block_lt_of_cell? w _ (hc 0 (by decide))
      have l2 : b2 < w.heap.size := World.block_lt_of_cell? w _ (hd 0 (by decide))
      have i1 : (0 : Int) ≤ (k : Int) := by omega
      have i2 : (k : Int) < (N : Int) := by omega
      have z0 : ∀ g : Grown wr, g.val.cell? ⟨b, off + k * 3, none⟩ = some (.slice ast (S k).stn cst) := fun g => ((hbel.trans (g.bel.mono hbel.size)).cell (p := ⟨b, off + k * 3, none⟩) l1).trans (by have := hc 0 (by decide); rw [eC] at this; exact this)
      have y0 : ∀ g : Grown wr, g.val.cell? ⟨b2, off2 + k * 3, none⟩ = some (.slice ast' (S k).stn cst') := fun g => ((hbel.trans (g.bel.mono hbel.size)).cell (p := ⟨b2, off2 + k * 3, none⟩) l2).trans (by have := hd 0 (by decide); rw [eD] at this; exact this)
      have z1 : ∀ g : Grown wr, g.val.cell? ⟨b, off + k * 3 + 1, none⟩ = some (.slice aro (S k).ron cro) := fun g => ((hbel.trans (g.bel.mono hbel.size)).cell (p := ⟨b, off + k * 3 + 1, none⟩) l1).trans (by have := hc 1 (by decide); rw [eC] at this; exact this)
      have y1 : ∀ g : Grown wr, g.val.cell? ⟨b2, off2 + k * 3 + 1, none⟩ = some (.slice aro' (S k).ron cro') := fun g => ((hbel.trans (g.bel.mono hbel.size)).cell (p := ⟨b2, off2 + k * 3 + 1, none⟩) l2).trans (by have := hd 1 (by decide); rw [eD] at this; exact this)
      have z2 : ∀ g : Grown wr, g.val.cell? ⟨b, off + k * 3 + 2, none⟩ = some (.slice ase (S k).sen cse) := fun g => ((hbel.trans (g.bel.mono hbel.size)).cell (p := ⟨b, off + k * 3 + 2, none⟩) l1).trans (by have := hc 2 (by decide); rw [eC] at this; exact this)
      have y2 : ∀ g : Grown wr, g.val.cell? ⟨b2, off2 + k * 3 + 2, none⟩ = some (.slice ase' (S k).sen cse') := fun g => ((hbel.trans (g.bel.mono hbel.size)).cell (p := ⟨b2, off2 + k * 3 + 2, none⟩) l2).trans (by have := hd 2 (by decide); rw [eD] at this; exact this)
      have ZI : Hid (∀ g : Grown wr, Load.Is g.val [.slice ast (S k).stn cst, .slice aro (S k).ron cro, .slice ase (S k).sen cse] (S k)) := fun g => by rw [← eC]; exact (HIK.out.below hbel).below g.bel
      have ZJ : Hid (∀ g : Grown wr, Load.Is g.val [.slice ast' (S k).stn cst', .slice aro' (S k).ron cro', .slice ase' (S k).sen cse'] (S k)) := fun g => by rw [← eD]; exact (HJK.out.below hbel).below g.bel
      have HSK : Hid (Load.Short (S k) 1048576) := HS.out k hlt
      clear hC hI hD hJ hc hd eC eD HIK HJK hst sst hst' sst' hro sro hro' sro' hse sse hse' sse'
      go_upto_region 6 with fail
      refine wp_region_grow (by kernel_rfl) (by kernel_rfl) ?_
      repeat (first | go_big_quiet_skip | (go_big_quiet_want; go_big_quiet_op; first | go_big_quiet_on | (apply Exists.intro; refine ⟨fun g => ?_, ?_⟩; (focus (first | (go_at_call 73; refine grown_call (v := .bool true) ((eqLoad_same [.slice ast (S k).stn cst, .slice aro (S k).ron cro, .slice ase (S k).sen cse] [.slice ast' (S k).stn cst', .slice aro' (S k).ron cro', .slice ase' (S k).sen cse'] (S k) _ HSK.out (ZI.out g) (ZJ.out g)).mono ?_); rintro e w2 ⟨rfl, hb2⟩; exact ⟨rfl, hb2⟩))); go_big_quiet_on)))
      refine wpQuiet_nil ?_
      rintro _ ⟨g, rfl⟩
      clear z0 y0 z1 y1 z2 y2
      go_wp2
      go_roundw
      case rel => exact ⟨k + 1, by omega, by go_num, after hbel g.bel⟩
      case measure => simp [intOf]; omega
    · go_wp2
      go_ret
      exact ⟨rfl, hbel⟩
end Go.Proofs.YtlelckbeoclhbaaGreat

namespace Go.Proofs.YtlelckbeoclhbaaGreat
open Go.RowKit
theorem szOffice_any (cs : List Value) (x : Off) (w : World) (hs : Off.Short x 1000000000000000) (h : Off.Is w cs x) :
    Calls Tryz.prog 4 #[.agg cs.toArray, .int .i64 1048576] w fun e w' => ∃ r : Int, e = .returned (.int .i64 r) ∧ (r = -1 ∨ (0 ≤ r ∧ r ≤ 1048576 ∧ Off.Short x 1048576)) ∧ Below w.heap.size w w' := by
  obtain ⟨asa, csa, ald, cld, abk, cbk, rfl, h1, s1, h2, s2, h3, s3⟩ := h
  obtain ⟨⟨b1, t1⟩, ⟨b2, t2⟩, ⟨b3, t3⟩⟩ := hs
  have hb0 : Below w.heap.size w (w.alloc (.cells #[.slice asa x.san csa, .slice ald x.ldn cld, .slice abk x.bkn cbk] 26)) := push (Below.refl _ _) _
  have hA0 := heap_alloc_new w (.cells #[.slice asa x.san csa, .slice ald x.ldn cld, .slice abk x.bkn cbk] 26)
  clear s1 s2 s3
  go_enter Tryz.func4, Tryz.ntmps4
  go_wp2_with fail
  refine (szSailingS_le asa x.san csa x.sa _ b1 t1 (h1.below hb0)).mono ?_
  rintro e v1 ⟨r1, rfl, hr1, hb⟩
  have hA1 := blk_below hA0 hb
  have hb1 := after hb0 hb
  clear hA0 hb0 hb
  rcases hr1 with rfl | ⟨p1, p2, p3, p4⟩
  · go_wp2
    go_ret
    exact ⟨_, rfl, .inl rfl, hb1⟩
  · have d1 : decide (r1 < 0) = false := by simpa using p1
    have q1 := blk_cell hA1 1 _ rfl
    go_wp2_with fail
    refine (szLoadS_any ald x.ldn cld x.ld r1 _ p1 p2 b2 t2 (h2.below hb1)).mono ?_
    rintro e v2 ⟨r2, rfl, hr2, hb⟩
    have hA2 := blk_below hA1 hb
    have hb2 := after hb1 hb
    clear hA1 hb1 hb q1
    rcases hr2 with rfl | ⟨q1, q2, q3, q4⟩
    · go_wp2
      go_ret
      exact ⟨_, rfl, .inl rfl, hb2⟩
    · have d2 : decide (r2 < 0) = false := by simpa using q1
      have k2 := blk_cell hA2 2 _ rfl
      go_wp2_with fail
      refine (szBookingS_any abk x.bkn cbk x.bk r2 _ q1 (by omega) b3 t3 (h3.below hb2)).mono ?_
      rintro e v3 ⟨r3, rfl, hr3, hb⟩
      have hb3 := after hb2 hb
      clear hb2 hb k2
      rcases hr3 with rfl | ⟨u1, u2, u3, u4⟩
      · go_wp2
        go_ret
        exact ⟨_, rfl, .inl rfl, hb3⟩
      · have d3 : decide (r3 < 0) = false := by simpa using u1
        go_wp2
        go_ret
        exact ⟨_, rfl, .inr ⟨u1, by omega, ⟨p3, p4⟩, ⟨q3, q4⟩, ⟨u3, u4⟩⟩, hb3⟩
theorem off_set_0 {w : World} {g t : Nat} {u0 u1 u2 v0 : Value} (h : w.heap[g]? = some (.cells #[u0, u1, u2] t (0, 0))) : (w.setCell ⟨g, 0, none⟩ v0).heap[g]? = some (.cells #[v0, u1, u2] t (0, 0)) := by
  simpa using blk_set h 0 v0
theorem off_set_1 {w : World} {g t : Nat} {u0 u1 u2 v1 : Value} (h : w.heap[g]? = some (.cells #[u0, u1, u2] t (0, 0))) : (w.setCell ⟨g, 1, none⟩ v1).heap[g]? = some (.cells #[u0, v1, u2] t (0, 0)) := by
  simpa using blk_set h 1 v1
theorem off_set_2 {w : World} {g t : Nat} {u0 u1 u2 v2 : Value} (h : w.heap[g]? = some (.cells #[u0, u1, u2] t (0, 0))) : (w.setCell ⟨g, 2, none⟩ v2).heap[g]? = some (.cells #[u0, u1, v2] t (0, 0)) := by
  simpa using blk_set h 2 v2
theorem kept_one (w : World) (g i : Nat) (v : Value) : Kept w (w.setCell ⟨g, i, none⟩ v) (fun b => b = g) := (Kept.refl w (fun b => b = g)).set (a := ⟨g, i, none⟩) rfl v
theorem toOffice_any (cs : List Value) (x : Off) (w : World) (hs : Off.Short x 1048576) (h : Off.Is w cs x) :
    Calls Tryz.prog 6 #[.agg cs.toArray] w fun e w' => ∃ cs', e = .returned (.agg cs'.toArray) ∧ Off.In w' w.heap.size w'.heap.size cs' x ∧ Below w.heap.size w w' := by
  obtain ⟨asa, csa, ald, cld, abk, cbk, rfl, h1, s1, h2, s2, h3, s3⟩ := h
  obtain ⟨⟨b1, t1⟩, ⟨b2, t2⟩, ⟨b3, t3⟩⟩ := hs
  clear s1 s2 s3
  go_enter Tryz.func6, Tryz.ntmps6
  go_wp2_with fail
  obtain ⟨W0, hW0⟩ : ∃ W, W = (((w.alloc (.cells #[.slice asa x.san csa, .slice ald x.ldn cld, .slice abk x.bkn cbk] 26)).alloc (.cells #[.slice none 0 0, .slice none 0 0, .slice none 0 0] 39)).alloc (.cells #[.slice none 0 0, .slice none 0 0, .slice none 0 0] 39)) := ⟨_, rfl⟩
  have H0 : Below w.heap.size w W0 := by rw [hW0]; exact push (push (push (Below.refl _ _) _) _) _
  have A0 : W0.heap[w.heap.size]? = some (.cells #[.slice asa x.san csa, .slice ald x.ldn cld, .slice abk x.bkn cbk] 26 (0, 0)) := by rw [hW0]; exact blk_alloc (blk_alloc (heap_alloc_new w _) _) _
  have R0 : W0.heap[w.heap.size + 1]? = some (.cells #[.slice none 0 0, .slice none 0 0, .slice none 0 0] 39 (0, 0)) := by rw [hW0]; exact blk_alloc (by simpa using heap_alloc_new (w.alloc _) _) _
  have O0 : W0.heap[w.heap.size + 1 + 1]? = some (.cells #[.slice none 0 0, .slice none 0 0, .slice none 0 0] 39 (0, 0)) := by rw [hW0]; simpa using heap_alloc_new ((w.alloc _).alloc _) _
  rw [← hW0]
  clear hW0
  have gO := blk_lt O0
  refine (toSailingS_any asa x.san csa x.sa _ b1 t1 (h1.below H0)).mono ?_
  rintro e v0 ⟨gsa, ls, cc, rfl, m0, hb⟩
  have M0 := m0.high
  have Av := blk_below A0 hb
  have Rv := blk_below R0 hb
  have Ov := blk_below O0 hb
  have Hv := after H0 hb
  have sz0 := hb.size
  clear A0 R0 O0 H0 hb m0
  have qa1 := blk_cell Av 1 _ rfl
  have fo := blk_free Ov 0
  have qo0 := blk_cell Ov 0 _ rfl
  go_wp2_with fail
  clear fo qo0 qa1
  obtain ⟨W1, hW⟩ : ∃ W, W = v0.setCell ⟨w.heap.size + 1 + 1, 0, none⟩ (.slice (some ⟨gsa, 0, none⟩) x.san x.san) := ⟨_, rfl⟩
  have hk : Kept v0 W1 (fun b => b = w.heap.size + 1 + 1) := by rw [hW]; exact kept_one _ _ _ _
  have A1 := hk.blk Av (by omega)
  have R1 := hk.blk Rv (by omega)
  have O1 : W1.heap[w.heap.size + 1 + 1]? = some (.cells #[.slice (some ⟨gsa, 0, none⟩) x.san x.san, .slice none 0 0, .slice none 0 0] 39 (0, 0)) := by rw [hW]; exact off_set_0 Ov
  have H1 : Below w.heap.size w W1 := by rw [hW]; exact Hv.setCell (p := ⟨w.heap.size + 1 + 1, 0, none⟩) (by show w.heap.size ≤ w.heap.size + 1 + 1; omega) _
  have hz : W1.heap.size = v0.heap.size := by rw [hW, World.size_setCell]
  have M0' := M0.kept hk (fun b h => by left; omega)
  rw [← hW]
  rw [← hz] at M0' sz0
  clear hW hk Av Rv Ov Hv M0
  have M0 := M0'
  clear M0'
  clear hz
  refine (toLoadS_any ald x.ldn cld x.ld _ b2 t2 (h2.below H1)).mono ?_
  rintro e v1 ⟨gld, C, rfl, M1, hb⟩
  have Av := blk_below A1 hb
  have Rv := blk_below R1 hb
  have Ov := blk_below O1 hb
  have Hv := after H1 hb
  have sz1 := hb.size
  have M0' := M0.below hb
  clear A1 R1 O1 H1 hb M0
  have M0 := M0'
  clear M0'
  have qa2 := blk_cell Av 2 _ rfl
  have fo := blk_free Ov 1
  have qo1 := blk_cell Ov 1 _ rfl
  go_wp2_with fail
  clear fo qo1 qa2
  obtain ⟨W2, hW⟩ : ∃ W, W = v1.setCell ⟨w.heap.size + 1 + 1, 1, none⟩ (.slice (some ⟨gld, 0, none⟩) x.ldn x.ldn) := ⟨_, rfl⟩
  have hk : Kept v1 W2 (fun b => b = w.heap.size + 1 + 1) := by rw [hW]; exact kept_one _ _ _ _
  have A2 := hk.blk Av (by omega)
  have R2 := hk.blk Rv (by omega)
  have O2 : W2.heap[w.heap.size + 1 + 1]? = some (.cells #[.slice (some ⟨gsa, 0, none⟩) x.san x.san, .slice (some ⟨gld, 0, none⟩) x.ldn x.ldn, .slice none 0 0] 39 (0, 0)) := by rw [hW]; exact off_set_1 Ov
  have H2 : Below w.heap.size w W2 := by rw [hW]; exact Hv.setCell (p := ⟨w.heap.size + 1 + 1, 1, none⟩) (by show w.heap.size ≤ w.heap.size + 1 + 1; omega) _
  have hz : W2.heap.size = v1.heap.size := by rw [hW, World.size_setCell]
  have M0' := M0.kept hk (fun b h => by left; omega)
  have M1' := M1.kept hk (fun b h => by left; omega)
  rw [← hW]
  rw [← hz] at M1' sz1
  clear hW hk Av Rv Ov Hv M0 M1
  have M0 := M0'
  clear M0'
  have M1 := M1'
  clear M1'
  clear hz
  refine (toBookingS_any abk x.bkn cbk x.bk _ b3 t3 (h3.below H2)).mono ?_
  rintro e v2 ⟨gbk, E, rfl, M2, hb⟩
  have Av := blk_below A2 hb
  have Rv := blk_below R2 hb
  have Ov := blk_below O2 hb
  have Hv := after H2 hb
  have sz2 := hb.size
  have M0' := M0.below hb
  have M1' := M1.below hb
  clear A2 R2 O2 H2 hb M0 M1
  have M0 := M0'
  clear M0'
  have M1 := M1'
  clear M1'
  have fo := blk_free Ov 2
  have qo2 := blk_cell Ov 2 _ rfl
  have qo0 := blk_cell Ov 0 _ rfl
  have qo1 := blk_cell Ov 1 _ rfl
  have z0 := blk_free Rv 0
  have y0 := blk_cell Rv 0 _ rfl
  have z1 := blk_free Rv 1
  have y1 := blk_cell Rv 1 _ rfl
  have z2 := blk_free Rv 2
  have y2 := blk_cell Rv 2 _ rfl
  go_wp2
  clear fo qo0 qo1 qo2 z0 y0 z1 y1 z2 y2
  obtain ⟨W3, hW⟩ : ∃ W, W = v2.setCell ⟨w.heap.size + 1 + 1, 2, none⟩ (.slice (some ⟨gbk, 0, none⟩) x.bkn x.bkn) := ⟨_, rfl⟩
  have hk : Kept v2 W3 (fun b => b = w.heap.size + 1 + 1) := by rw [hW]; exact kept_one _ _ _ _
  have A3 := hk.blk Av (by omega)
  have R3 := hk.blk Rv (by omega)
  have O3 : W3.heap[w.heap.size + 1 + 1]? = some (.cells #[.slice (some ⟨gsa, 0, none⟩) x.san x.san, .slice (some ⟨gld, 0, none⟩) x.ldn x.ldn, .slice (some ⟨gbk, 0, none⟩) x.bkn x.bkn] 39 (0, 0)) := by rw [hW]; exact off_set_2 Ov
  have H3 : Below w.heap.size w W3 := by rw [hW]; exact Hv.setCell (p := ⟨w.heap.size + 1 + 1, 2, none⟩) (by show w.heap.size ≤ w.heap.size + 1 + 1; omega) _
  have hz : W3.heap.size = v2.heap.size := by rw [hW, World.size_setCell]
  have M0' := M0.kept hk (fun b h => by left; omega)
  have M1' := M1.kept hk (fun b h => by left; omega)
  have M2' := M2.kept hk (fun b h => by left; omega)
  rw [← hW]
  rw [← hz] at M2' sz2
  clear hW hk Av Rv Ov Hv M0 M1 M2
  have M0 := M0'
  clear M0'
  have M1 := M1'
  clear M1'
  have M2 := M2'
  clear M2'
  obtain ⟨F, hF⟩ : ∃ F, F = ((W3.setCell ⟨w.heap.size + 1, 0, none⟩ (.slice (some ⟨gsa, 0, none⟩) x.san x.san)).setCell ⟨w.heap.size + 1, 1, none⟩ (.slice (some ⟨gld, 0, none⟩) x.ldn x.ldn)).setCell ⟨w.heap.size + 1, 2, none⟩ (.slice (some ⟨gbk, 0, none⟩) x.bkn x.bkn) := ⟨_, rfl⟩
  have hk : Kept W3 F (fun b => b = w.heap.size + 1) := by rw [hF]; exact (((Kept.refl W3 (fun b => b = w.heap.size + 1)).set (a := ⟨w.heap.size + 1, 0, none⟩) rfl _).set (a := ⟨w.heap.size + 1, 1, none⟩) rfl _).set (a := ⟨w.heap.size + 1, 2, none⟩) rfl _
  have RF : F.heap[w.heap.size + 1]? = some (.cells #[.slice (some ⟨gsa, 0, none⟩) x.san x.san, .slice (some ⟨gld, 0, none⟩) x.ldn x.ldn, .slice (some ⟨gbk, 0, none⟩) x.bkn x.bkn] 39 (0, 0)) := by rw [hF]; exact off_set_2 (off_set_1 (off_set_0 R3))
  have HF : Below w.heap.size w F := by rw [hF]; exact ((H3.setCell (p := ⟨w.heap.size + 1, 0, none⟩) (by show w.heap.size ≤ w.heap.size + 1; omega) _).setCell (p := ⟨w.heap.size + 1, 1, none⟩) (by show w.heap.size ≤ w.heap.size + 1; omega) _).setCell (p := ⟨w.heap.size + 1, 2, none⟩) (by show w.heap.size ≤ w.heap.size + 1; omega) _
  have hz : F.heap.size = W3.heap.size := by rw [hF, World.size_setCell, World.size_setCell, World.size_setCell]
  rw [← hF]
  clear hF
  have z0 := blk_cell RF 0 _ rfl
  have z1 := blk_cell RF 1 _ rfl
  have z2 := blk_cell RF 2 _ rfl
  have N0 := (M0.kept hk (fun b h => by left; omega)).wide (lo' := w.heap.size) (hi' := W1.heap.size) (by omega) (by omega)
  have N1 := (M1.kept hk (fun b h => by left; omega)).wide (lo' := W1.heap.size) (hi' := W2.heap.size) (by omega) (by omega)
  have N2 := (M2.kept hk (fun b h => by left; omega)).wide (lo' := W2.heap.size) (hi' := F.heap.size) (by omega) (by omega)
  exact bodyPost_ret (v := .agg #[.slice (some ⟨gsa, 0, none⟩) x.san x.san, .slice (some ⟨gld, 0, none⟩) x.ldn x.ldn, .slice (some ⟨gbk, 0, none⟩) x.bkn x.bkn]) (by simp [results, Tryz.results6, go_sem, z0, z1, z2]) rfl ⟨_, rfl, ⟨W1.heap.size, W2.heap.size, gsa, ls, cc, gld, C, gbk, E, rfl, ⟨by omega, by omega, by omega⟩, N0, N1, N2⟩, HF⟩
theorem eqOffice_same (cs ds : List Value) (x : Off) (w : World) (hs : Off.Short x 1048576) (h : Off.Is w cs x) (h' : Off.Is w ds x) :
    Calls Tryz.prog 9 #[.agg cs.toArray, .agg ds.toArray] w fun e w' => e = .returned (.bool true) ∧ Below w.heap.size w w' := by
  obtain ⟨asa, csa, ald, cld, abk, cbk, rfl, h1, s1, h2, s2, h3, s3⟩ := h
  obtain ⟨asb, csb, alb, clb, abb, cbb, rfl, k1, u1, k2, u2, k3, u3⟩ := h'
  obtain ⟨⟨b1, t1⟩, ⟨b2, t2⟩, ⟨b3, t3⟩⟩ := hs
  clear s1 s2 s3 u1 u2 u3
  have H0 : Below w.heap.size w ((w.alloc (.cells #[.slice asa x.san csa, .slice ald x.ldn cld, .slice abk x.bkn cbk] 39)).alloc (.cells #[.slice asb x.san csb, .slice alb x.ldn clb, .slice abb x.bkn cbb] 39)) := push (push (Below.refl _ _) _) _
  have A0 : ((w.alloc (.cells #[.slice asa x.san csa, .slice ald x.ldn cld, .slice abk x.bkn cbk] 39)).alloc (.cells #[.slice asb x.san csb, .slice alb x.ldn clb, .slice abb x.bkn cbb] 39)).heap[w.heap.size]? = some (.cells #[.slice asa x.san csa, .slice ald x.ldn cld, .slice abk x.bkn cbk] 39 (0, 0)) := blk_alloc (heap_alloc_new w _) _
  have B0 : ((w.alloc (.cells #[.slice asa x.san csa, .slice ald x.ldn cld, .slice abk x.bkn cbk] 39)).alloc (.cells #[.slice asb x.san csb, .slice alb x.ldn clb, .slice abb x.bkn cbb] 39)).heap[w.heap.size + 1]? = some (.cells #[.slice asb x.san csb, .slice alb x.ldn clb, .slice abb x.bkn cbb] 39 (0, 0)) := by simpa using heap_alloc_new (w.alloc _) _
  go_enter Tryz.func9, Tryz.ntmps9
  go_wp2_with fail
  generalize (w.alloc (.cells #[.slice asa x.san csa, .slice ald x.ldn cld, .slice abk x.bkn cbk] 39)).alloc (.cells #[.slice asb x.san csb, .slice alb x.ldn clb, .slice abb x.bkn cbb] 39) = v at H0 A0 B0 ⊢
  refine (eqSailingS_same asa asb x.san csa csb x.sa _ b1 t1 (h1.below H0) (k1.below H0)).mono ?_
  rintro e v0 ⟨rfl, hb⟩
  have A1 := blk_below A0 hb
  have B1 := blk_below B0 hb
  have H1 := after H0 hb
  clear A0 B0 H0 hb
  have qa := blk_cell A1 1 _ rfl
  have qb := blk_cell B1 1 _ rfl
  go_wp2_with fail
  clear qa qb
  refine (eqLoadS_same ald alb x.ldn cld clb x.ld _ b2 t2 (h2.below H1) (k2.below H1)).mono ?_
  rintro e v1 ⟨rfl, hb⟩
  have A2 := blk_below A1 hb
  have B2 := blk_below B1 hb
  have H2 := after H1 hb
  clear A1 B1 H1 hb
  have qa := blk_cell A2 2 _ rfl
  have qb := blk_cell B2 2 _ rfl
  go_wp2_with fail
  clear qa qb
  refine (eqBookingS_same abk abb x.bkn cbk cbb x.bk _ b3 t3 (h3.below H2) (k3.below H2)).mono ?_
  rintro e v2 ⟨rfl, hb⟩
  have A3 := blk_below A2 hb
  have B3 := blk_below B2 hb
  have H3 := after H2 hb
  clear A2 B2 H2 hb
  go_wp2
  go_ret
  exact ⟨rfl, H3⟩
end Go.Proofs.YtlelckbeoclhbaaGreat

namespace Go.Proofs.YtlelckbeoclhbaaGreat
open Go.RowKit
def stayMark (k0 : Int) (t : Nat) : Stay := ⟨k0 + 4 * t, k0 + 4 * t + 1, k0 + 4 * t + 2, k0 + 4 * t + 3⟩
theorem markStayS_own (ao : Option Addr) (n c base : Nat) (S : Nat → Stay) (k0 : Int) (w : World) (hn : n ≤ 2097152) (h0 : 0 ≤ k0) (h1 : k0 ≤ 1000000000000000) (ho : w.ownsRow base 118 4 (.slice ao n c) n (stayList S n)) :
    Calls Tryz.prog 77 #[.slice ao n c, .int .i64 k0] w fun e w' => e = .returned (.int .i64 (k0 + 4 * n)) ∧ w'.ownsRow base 118 4 (.slice ao n c) n (stayList (stayMark k0) n) ∧ Kept w w' (fun b => (Value.slice ao n c).ownBlock = some b) := by
  go_enter Tryz.func77, Tryz.ntmps77
  go_wp2
  go_loopw [1, 5] (fun q i wr => ∃ (t : Nat), t ≤ n ∧ i = .int .i64 t ∧ q = .int .i64 (k0 + 4 * t) ∧ wr.ownsRow base 118 4 (.slice ao n c) n ((List.range (n * 4)).map (stayCell (fun i => if i < t then stayMark k0 i else S i))) ∧ Kept w wr (fun b => (Value.slice ao n c).ownBlock = some b)) (fun _ i _ => n - (intOf i).toNat)
  case atStart => exact ⟨0, Nat.zero_le _, rfl, by simp, by simpa [stayList] using ho, Kept.refl _ _⟩
  case round =>
    obtain ⟨t, ht, rfl, rfl, hown, hk⟩ := hrel
    by_cases hlt : t < n
    · obtain ⟨g, rfl, hg1, hg2⟩ := own_addr hown (by omega)
      have hc0 := own_cell hown (t * 4) (by omega) rfl
      have hf0 := hown.frozenAt (t * 4)
      rw [stayCell_0] at hc0
      have hc1 := own_cell hown (t * 4 + 1) (by omega) rfl
      have hf1 := hown.frozenAt (t * 4 + 1)
      rw [stayCell_1] at hc1
      have hc2 := own_cell hown (t * 4 + 2) (by omega) rfl
      have hf2 := hown.frozenAt (t * 4 + 2)
      rw [stayCell_2] at hc2
      have hc3 := own_cell hown (t * 4 + 3) (by omega) rfl
      have hf3 := hown.frozenAt (t * 4 + 3)
      rw [stayCell_3] at hc3
      go_wp2
      go_roundw
      case rel =>
        refine ⟨t + 1, by omega, by go_num, by go_num, own_congr (own_store (own_store (own_store (own_store hown (t * 4) _) (t * 4 + 1) _) (t * 4 + 2) _) (t * 4 + 3) _) (fun j hj => ?_), ((((hk.set (a := ⟨g, t * 4, none⟩) rfl _).set (a := ⟨g, t * 4 + 1, none⟩) rfl _).set (a := ⟨g, t * 4 + 2, none⟩) rfl _).set (a := ⟨g, t * 4 + 3, none⟩) rfl _)⟩
        have key : ∀ (S' : Nat → Stay), (∀ i, i ≠ t → S' i = (if i < t then stayMark k0 i else S i)) → (S' t = stayMark k0 t) → stayCell S' j = stayCell (fun i => if i < t + 1 then stayMark k0 i else S i) j := by
          intro S' h1 h2
          unfold stayCell
          have : S' (j / 4) = (if j / 4 < t + 1 then stayMark k0 (j / 4) else S (j / 4)) := by
            by_cases e : j / 4 = t
            · rw [e, h2, if_pos (by omega)]
            · rw [h1 _ e]
              by_cases e2 : j / 4 < t
              · rw [if_pos e2, if_pos (by omega)]
              · rw [if_neg e2, if_neg (by omega)]
          rw [this]
        rw [← key (fun i => if i = t then stayMark k0 t else if i < t then stayMark k0 i else S i) (fun i h => if_neg h) (if_pos rfl)]
        by_cases h3 : j = t * 4 + 3
        · subst h3; rw [if_pos rfl, stayCell_3, if_pos rfl]; simp [stayMark]; try omega
        rw [if_neg h3]
        by_cases h2 : j = t * 4 + 2
        · subst h2; rw [if_pos rfl, stayCell_2, if_pos rfl]; simp [stayMark]; try omega
        rw [if_neg h2]
        by_cases h1 : j = t * 4 + 1
        · subst h1; rw [if_pos rfl, stayCell_1, if_pos rfl]; simp [stayMark]; try omega
        rw [if_neg h1]
        by_cases h0 : j = t * 4
        · subst h0; rw [if_pos rfl, stayCell_0, if_pos rfl]; simp [stayMark]; try omega
        rw [if_neg h0]
        have hne : j / 4 ≠ t := by omega
        unfold stayCell
        simp only [if_neg hne]
      case measure => simp [intOf]; omega
    · obtain rfl : t = n := by omega
      go_wp2
      go_ret
      refine ⟨rfl, ?_, hk⟩
      rw [stayList_congr (S := stayMark k0) (S' := fun i => if i < t then stayMark k0 i else S i) (fun i hi => (if_pos hi).symm)]
      exact hown
end Go.Proofs.YtlelckbeoclhbaaGreat
