/-
  OWN TEXT: LAnswer, KitClerk.
-/
import Derived.Deep.RegionHeld3
import Derived.Deep.DeepCutAuto
import Derived.Test.YtogbaoggebghdaaB04
import Derived.Test.YtogbaoggebghdaaB01
import Derived.Test.YtogbaoggebghdaaB03
namespace Go.Proofs.Ytogbaoggebghdaa
open Go.RowKit

theorem answer_set_3_4 {w : World} {g t : Nat} {u0 u1 u2 u3 v3 : Value} (h : w.heap[g]? = some (.cells #[u0, u1, u2, u3] t (0, 0))) : (setFrom w g 3 [v3]).heap[g]? = some (.cells #[u0, u1, u2, v3] t (0, 0)) := by
  have := (blk_set h 3 v3)
  simp only [setFrom]
  simpa using this
theorem answer_set_0_4 {w : World} {g t : Nat} {u0 u1 u2 u3 v0 v1 v2 v3 : Value} (h : w.heap[g]? = some (.cells #[u0, u1, u2, u3] t (0, 0))) : (setFrom w g 0 [v0, v1, v2, v3]).heap[g]? = some (.cells #[v0, v1, v2, v3] t (0, 0)) := by
  have := (blk_set (blk_set (blk_set (blk_set h 0 v0) 1 v1) 2 v2) 3 v3)
  simp only [setFrom]
  simpa using this

set_option maxHeartbeats 800000 in
theorem szAnswer_raw (code : Int) (anam : Int) (price : Int) (arw : Option Addr) (rwn crw : Nat) (rw : Nat → MRow) (L : Int) (w : World) (h0 : 0 ≤ L) (hL : L ≤ 1048576) (brw : MRowsShort rwn rw 1000000000000000) (hrw : MRowsAt w arw rwn rw) :
    Calls Try.prog 24 #[.agg #[.int .i64 code, .int .i64 anam, .int .i64 price, .slice arw rwn crw], .int .i64 L] w fun e w' => ∃ r : Int, e = .returned (.int .i64 r) ∧ (r = -1 ∨ (0 ≤ r ∧ r ≤ L ∧ MRowsShort rwn rw 1048576)) ∧ Below w.heap.size w w' := by
  have hb0 : Below w.heap.size w (w.alloc (.cells #[.int .i64 code, .int .i64 anam, .int .i64 price, .slice arw rwn crw] 49)) := push (Below.refl _ _) _
  have hA0 := heap_alloc_new w (.cells #[.int .i64 code, .int .i64 anam, .int .i64 price, .slice arw rwn crw] 49)
  go_enter Try.func24, Try.ntmps24
  go_wp2_with fail
  refine (szRowS_any arw rwn crw rw (L) _ (by omega) (by omega) brw (hrw.below hb0)).mono ?_
  rintro e w0 ⟨r0, rfl, hr0, hb0'⟩
  have hA0' := blk_below hA0 hb0'
  have hbb0 := after hb0 hb0'
  rcases hr0 with rfl | ⟨r00, r01, r02⟩
  · go_wp2
    go_ret
    exact ⟨_, rfl, .inl rfl, hbb0⟩
  · have d0 : decide (r0 < 0) = false := by simpa using r00
    go_wp2
    go_ret
    exact ⟨_, rfl, .inr ⟨by omega, by omega, r02⟩, hbb0⟩

set_option maxHeartbeats 3200000 in
set_option maxRecDepth 100000 in
theorem toAnswer_raw (code : Int) (anam : Int) (price : Int) (arw : Option Addr) (rwn crw : Nat) (rw : Nat → MRow) (w : World) (nrw : rwn ≤ 1048576) (hrw : MRowsAt w arw rwn rw) :
    Calls Try.prog 26 #[.agg #[.int .i64 code, .int .i64 anam, .int .i64 price, .slice arw rwn crw]] w fun e w' => ∃ lrw, e = .returned (.agg #[.int .i64 code, .int .i64 anam, .int .i64 price, .slice (some ⟨lrw, 0, none⟩) rwn rwn]) ∧ (w.heap.size ≤ lrw ∧ lrw < w'.heap.size ∧ w'.rowIs lrw 84 (rwn * 5) (rowCell rw)) ∧ Below w.heap.size w w' := by
  go_enter Try.func26, Try.ntmps26
  go_wp2_with fail
  obtain ⟨W0, hW0⟩ : ∃ W, W = (((w.alloc (.cells #[.int .i64 code, .int .i64 anam, .int .i64 price, .slice arw rwn crw] 49)).alloc (.cells #[.int .i64 0, .int .i64 0, .int .i64 0, .slice none 0 0] 28)).alloc (.cells #[.int .i64 code, .int .i64 anam, .int .i64 price, .slice none 0 0] 28)) := ⟨_, rfl⟩
  have H0 : Below w.heap.size w W0 := by rw [hW0]; exact push (push (push (Below.refl _ _) _) _) _
  have A0 : W0.heap[w.heap.size]? = some (.cells #[.int .i64 code, .int .i64 anam, .int .i64 price, .slice arw rwn crw] 49 (0, 0)) := by rw [hW0]; exact blk_alloc (blk_alloc (heap_alloc_new w _) _) _
  have R0 : W0.heap[w.heap.size + 1]? = some (.cells #[.int .i64 0, .int .i64 0, .int .i64 0, .slice none 0 0] 28 (0, 0)) := by rw [hW0]; exact blk_alloc (by simpa using heap_alloc_new (w.alloc _) _) _
  have O0 : W0.heap[w.heap.size + 1 + 1]? = some (.cells #[.int .i64 code, .int .i64 anam, .int .i64 price, .slice none 0 0] 28 (0, 0)) := by rw [hW0]; simpa using heap_alloc_new ((w.alloc _).alloc _) _
  rw [← hW0]
  clear hW0
  refine (toRowS_any arw rwn crw rw _ nrw (hrw.below H0)).mono ?_
  rintro e v0 ⟨lrw, rfl, glrw, rowrw, hb0⟩
  have Av0 := blk_below A0 hb0
  have Rv0 := blk_below R0 hb0
  have Ov0 := blk_below O0 hb0
  have Hv0 := after H0 hb0
  have gtrw : w.heap.size + 1 + 1 < lrw := by have := blk_lt O0; omega
  have gerw : w.heap.size ≤ lrw := by omega
  clear A0 R0 O0 H0 hb0 glrw
  have fo3 := blk_free Ov0 3
  have qo0 := blk_cell Ov0 0 _ rfl
  have qo1 := blk_cell Ov0 1 _ rfl
  have qo2 := blk_cell Ov0 2 _ rfl
  have qo3 := blk_cell Ov0 3 _ rfl
  have z0 := blk_free Rv0 0
  have y0 := blk_cell Rv0 0 _ rfl
  have z1 := blk_free Rv0 1
  have y1 := blk_cell Rv0 1 _ rfl
  have z2 := blk_free Rv0 2
  have y2 := blk_cell Rv0 2 _ rfl
  have z3 := blk_free Rv0 3
  have y3 := blk_cell Rv0 3 _ rfl
  go_wp2
  clear fo3 qo0 qo1 qo2 qo3 z0 y0 z1 y1 z2 y2 z3 y3
  obtain ⟨W1, hW1⟩ : ∃ W, W = setFrom v0 (w.heap.size + 1 + 1) 3 [.slice (some ⟨lrw, 0, none⟩) rwn rwn] := ⟨_, rfl⟩
  have A1 : W1.heap[w.heap.size]? = some (.cells #[.int .i64 code, .int .i64 anam, .int .i64 price, .slice arw rwn crw] 49 (0, 0)) := by rw [hW1]; exact setFrom_blk_other (by omega) _ _ _ Av0
  have R1 : W1.heap[w.heap.size + 1]? = some (.cells #[.int .i64 0, .int .i64 0, .int .i64 0, .slice none 0 0] 28 (0, 0)) := by rw [hW1]; exact setFrom_blk_other (by omega) _ _ _ Rv0
  have O1 : W1.heap[w.heap.size + 1 + 1]? = some (.cells #[.int .i64 code, .int .i64 anam, .int .i64 price, .slice (some ⟨lrw, 0, none⟩) rwn rwn] 28 (0, 0)) := by rw [hW1]; exact answer_set_3_4 Ov0
  have H1 : Below w.heap.size w W1 := by rw [hW1]; exact setFrom_below (by omega) _ _ _ Hv0
  have rowrw' : W1.rowIs lrw 84 (rwn * 5) (rowCell rw) := by rw [hW1]; exact setFrom_other (by omega) _ _ _ rowrw
  have hC1 : W1 = (v0.setCell ⟨w.heap.size + 1 + 1, 3, none⟩ (.slice (some ⟨lrw, 0, none⟩) rwn rwn)) := by rw [hW1]; rfl
  rw [← hC1]
  clear hW1 hC1 Av0 Rv0 Ov0 Hv0 rowrw
  have rowrw := rowrw'
  clear rowrw'
  obtain ⟨F, hF⟩ : ∃ F, F = setFrom W1 (w.heap.size + 1) 0 [.int .i64 code, .int .i64 anam, .int .i64 price, .slice (some ⟨lrw, 0, none⟩) rwn rwn] := ⟨_, rfl⟩
  have RF : F.heap[w.heap.size + 1]? = some (.cells #[.int .i64 code, .int .i64 anam, .int .i64 price, .slice (some ⟨lrw, 0, none⟩) rwn rwn] 28 (0, 0)) := by rw [hF]; exact answer_set_0_4 R1
  have HF : Below w.heap.size w F := by rw [hF]; exact setFrom_below (by omega) _ _ _ H1
  have rFrw : F.rowIs lrw 84 (rwn * 5) (rowCell rw) := by rw [hF]; exact setFrom_other (by omega) _ _ _ rowrw
  have hCF : F = ((((W1.setCell ⟨w.heap.size + 1, 0, none⟩ (.int .i64 code)).setCell ⟨w.heap.size + 1, 1, none⟩ (.int .i64 anam)).setCell ⟨w.heap.size + 1, 2, none⟩ (.int .i64 price)).setCell ⟨w.heap.size + 1, 3, none⟩ (.slice (some ⟨lrw, 0, none⟩) rwn rwn)) := by rw [hF]; rfl
  rw [← hCF]
  clear hF hCF
  have z0 := blk_cell RF 0 _ rfl
  have z1 := blk_cell RF 1 _ rfl
  have z2 := blk_cell RF 2 _ rfl
  have z3 := blk_cell RF 3 _ rfl
  exact bodyPost_ret (v := .agg #[.int .i64 code, .int .i64 anam, .int .i64 price, .slice (some ⟨lrw, 0, none⟩) rwn rwn]) (by simp [results, Try.results26, go_sem, z0, z1, z2, z3]) rfl ⟨lrw, rfl, ⟨gerw, rFrw.lt, rFrw⟩, HF⟩

set_option maxHeartbeats 3200000 in
set_option maxRecDepth 100000 in
theorem eqAnswer_raw (code : Int) (anam : Int) (price : Int) (arw : Option Addr) (rwn crw : Nat) (rw : Nat → MRow) (arw' : Option Addr) (crw' : Nat) (w : World) (nrw : rwn ≤ 1048576) (hrw : MRowsAt w arw rwn rw) (hrw' : MRowsAt w arw' rwn rw) :
    Calls Try.prog 19 #[.agg #[.int .i64 code, .int .i64 anam, .int .i64 price, .slice arw rwn crw], .agg #[.int .i64 code, .int .i64 anam, .int .i64 price, .slice arw' rwn crw']] w fun e w' => e = .returned (.bool true) ∧ Below w.heap.size w w' := by
  have H0 : Below w.heap.size w ((w.alloc (.cells #[.int .i64 code, .int .i64 anam, .int .i64 price, .slice arw rwn crw] 28)).alloc (.cells #[.int .i64 code, .int .i64 anam, .int .i64 price, .slice arw' rwn crw'] 28)) := push (push (Below.refl _ _) _) _
  have A0 : ((w.alloc (.cells #[.int .i64 code, .int .i64 anam, .int .i64 price, .slice arw rwn crw] 28)).alloc (.cells #[.int .i64 code, .int .i64 anam, .int .i64 price, .slice arw' rwn crw'] 28)).heap[w.heap.size]? = some (.cells #[.int .i64 code, .int .i64 anam, .int .i64 price, .slice arw rwn crw] 28 (0, 0)) := blk_alloc (heap_alloc_new w _) _
  have B0 : ((w.alloc (.cells #[.int .i64 code, .int .i64 anam, .int .i64 price, .slice arw rwn crw] 28)).alloc (.cells #[.int .i64 code, .int .i64 anam, .int .i64 price, .slice arw' rwn crw'] 28)).heap[w.heap.size + 1]? = some (.cells #[.int .i64 code, .int .i64 anam, .int .i64 price, .slice arw' rwn crw'] 28 (0, 0)) := by simpa using heap_alloc_new (w.alloc _) _
  go_enter Try.func19, Try.ntmps19
  go_wp2_with fail
  generalize (w.alloc (.cells #[.int .i64 code, .int .i64 anam, .int .i64 price, .slice arw rwn crw] 28)).alloc (.cells #[.int .i64 code, .int .i64 anam, .int .i64 price, .slice arw' rwn crw'] 28) = v at H0 A0 B0 ⊢
  refine (eqRowS_same arw arw' rwn crw crw' rw _ (by omega) (hrw.below H0) (hrw'.below H0)).mono ?_
  rintro e v0 ⟨rfl, hb0⟩
  have A1 := blk_below A0 hb0
  have B1 := blk_below B0 hb0
  have H1 := after H0 hb0
  clear A0 B0 H0 hb0
  go_wp2
  go_ret
  exact ⟨rfl, H1⟩

theorem szAnswer_any (cs : List Value) (x : AnsD) (L : Int) (w : World) (h0 : 0 ≤ L) (hL : L ≤ 1048576) (hs : AnsD.Short x 1000000000000000) (h : AnsD.Is w cs x) :
    Calls Try.prog 24 #[.agg cs.toArray, .int .i64 L] w fun e w' => ∃ r : Int, e = .returned (.int .i64 r) ∧ (r = -1 ∨ (0 ≤ r ∧ r ≤ L ∧ AnsD.Short x 1048576)) ∧ Below w.heap.size w w' := by
  obtain ⟨arw, crw, rfl, hrw, srw⟩ := h
  have brw := hs
  exact szAnswer_raw _ _ _ _ _ _ _ L w h0 hL brw hrw
theorem toAnswer_any (cs : List Value) (x : AnsD) (w : World) (hs : AnsD.Short x 1048576) (h : AnsD.Is w cs x) :
    Calls Try.prog 26 #[.agg cs.toArray] w fun e w' => ∃ cs', e = .returned (.agg cs'.toArray) ∧ AnsD.In w' w.heap.size w'.heap.size cs' x ∧ Below w.heap.size w w' := by
  obtain ⟨arw, crw, rfl, hrw, srw⟩ := h
  have brw := hs
  refine (toAnswer_raw _ _ _ _ _ _ _ w brw.1 hrw).mono ?_
  rintro e w' ⟨lrw, he, rrw, hb⟩
  exact ⟨_, he, ⟨lrw, rfl, rrw⟩, hb⟩
theorem eqAnswer_same (cs ds : List Value) (x : AnsD) (w : World) (hs : AnsD.Short x 1048576) (h : AnsD.Is w cs x) (h' : AnsD.Is w ds x) :
    Calls Try.prog 19 #[.agg cs.toArray, .agg ds.toArray] w fun e w' => e = .returned (.bool true) ∧ Below w.heap.size w w' := by
  obtain ⟨arw, crw, rfl, hrw, srw⟩ := h
  obtain ⟨arw', crw', rfl, hrw', srw'⟩ := h'
  have brw := hs
  exact eqAnswer_raw _ _ _ _ _ _ _ _ _ w brw.1 hrw hrw'

end Go.Proofs.Ytogbaoggebghdaa

namespace Go.Proofs.Ytogbaoggebghdaa
open Go.RowKit

structure ClkD where
  nam : ByteArray
  num : Int
  opn : Bool
  code : Int
  anam : Int
  price : Int
  rwn : Nat
  rw : Nat → MRow

/-- Cells that read as a clerk. -/
def ClkD.Is (w : World) (cs : List Value) (x : ClkD) : Prop :=
  ∃ arw crw, cs = [.string x.nam, .int .i64 x.num, .bool x.opn, .int .i64 x.code, .int .i64 x.anam, .int .i64 x.price, .slice arw x.rwn crw] ∧ MRowsAt w arw x.rwn x.rw ∧ SliceOk arw x.rwn crw
theorem ClkD.Is.below {w w' : World} {cs : List Value} {x : ClkD} (h : ClkD.Is w cs x) (hb : Below w.heap.size w w') : ClkD.Is w' cs x := by
  obtain ⟨arw, crw, e, hrw, srw⟩ := h
  exact ⟨arw, crw, e, hrw.below hb, srw⟩
theorem ClkD.Is.length {w : World} {cs : List Value} {x : ClkD} (h : ClkD.Is w cs x) : cs.length = 7 := by
  obtain ⟨_, _, rfl, _⟩ := h
  rfl
/-- Its lists and texts have B places at most. -/
def ClkD.Short (x : ClkD) (B : Nat) : Prop := x.nam.size ≤ B ∧ MRowsShort x.rwn x.rw B
/-- A copy whose lists lie in blocks from lo on, below hi. -/
def ClkD.In (w : World) (lo hi : Nat) (cs : List Value) (x : ClkD) : Prop :=
  ∃ lrw, cs = [.string x.nam, .int .i64 x.num, .bool x.opn, .int .i64 x.code, .int .i64 x.anam, .int .i64 x.price, whole lrw x.rwn] ∧ (lo ≤ lrw ∧ lrw < hi ∧ w.rowIs lrw 84 (x.rwn * 5) (rowCell x.rw))
theorem ClkD.In.below {w w' : World} {lo hi : Nat} {cs : List Value} {x : ClkD} (h : ClkD.In w lo hi cs x) (hb : Below w.heap.size w w') : ClkD.In w' lo hi cs x := by
  obtain ⟨lrw, e, hrw⟩ := h
  exact ⟨lrw, e, ⟨hrw.1, hrw.2.1, row_below hrw.2.2 hb⟩⟩
theorem ClkD.In.wide {w : World} {lo hi lo' hi' : Nat} {cs : List Value} {x : ClkD} (h : ClkD.In w lo hi cs x) (h1 : lo' ≤ lo) (h2 : hi ≤ hi') : ClkD.In w lo' hi' cs x := by
  obtain ⟨lrw, e, hrw⟩ := h
  exact ⟨lrw, e, ⟨Nat.le_trans h1 hrw.1, Nat.lt_of_lt_of_le hrw.2.1 h2, hrw.2.2⟩⟩
theorem ClkD.In.kept {w w' : World} {lo hi : Nat} {S : Nat → Prop} {cs : List Value} {x : ClkD} (h : ClkD.In w lo hi cs x) (hk : Kept w w' S) (hS : ∀ b, S b → b < lo ∨ hi ≤ b) : ClkD.In w' lo hi cs x := by
  obtain ⟨lrw, e, hrw⟩ := h
  exact ⟨lrw, e, ⟨hrw.1, hrw.2.1, hrw.2.2.of_block (hk.block _ hrw.2.2.lt (fun s => by have := hS _ s; omega))⟩⟩
theorem ClkD.In.is {w : World} {lo hi : Nat} {cs : List Value} {x : ClkD} (h : ClkD.In w lo hi cs x) (hs : ClkD.Short x 1048576) : ClkD.Is w cs x := by
  obtain ⟨lrw, e, hrw⟩ := h
  obtain ⟨_, srw⟩ := hs
  have srw := srw.1
  exact ⟨some ⟨lrw, 0, none⟩, x.rwn, e, MRowsAt.of_row hrw.2.2, ⟨Nat.le_refl _, by omega, fun h => by cases h⟩⟩

/-- The slice at ao reads as N of them. -/
def ClkDsAt (w : World) (ao : Option Addr) (N : Nat) (S : Nat → ClkD) : Prop := ∃ C, RecsAt w ao N 7 C ∧ ∀ k, k < N → ClkD.Is w (C k) (S k)
theorem ClkDsAt.below {w w' : World} {ao : Option Addr} {N : Nat} {S : Nat → ClkD} (h : ClkDsAt w ao N S) (hb : Below w.heap.size w w') : ClkDsAt w' ao N S := by
  obtain ⟨C, h1, h2⟩ := h
  exact ⟨C, h1.below hb, fun k hk => (h2 k hk).below hb⟩
def ClkDsShort (N : Nat) (S : Nat → ClkD) (B : Nat) : Prop := ∀ i, i < N → ClkD.Short (S i) B
/-- The block g holds the first k of N copies (the others are zero), their lists in blocks behind g. -/
structure ClkDsTo (w : World) (k lo hi g N : Nat) (S : Nat → ClkD) (C : Nat → List Value) : Prop where
  row : w.rowIs g 68 (N * 7) (recCell 7 (upto k C (#[.string ⟨#[]⟩, .int .i64 0, .bool false, .int .i64 0, .int .i64 0, .int .i64 0, .slice none 0 0] : Array Value).toList))
  glo : lo ≤ g
  ghi : g < hi
  each : ∀ i, i < k → ClkD.In w (g + 1) hi (C i) (S i)
theorem ClkDsTo.below {w w' : World} {k lo hi g N : Nat} {S : Nat → ClkD} {C : Nat → List Value} (r : ClkDsTo w k lo hi g N S C) (hb : Below w.heap.size w w') : ClkDsTo w' k lo hi g N S C :=
  ⟨row_below r.row hb, r.glo, r.ghi, fun i hi => (r.each i hi).below hb⟩
theorem ClkDsTo.wide {w : World} {k lo hi lo' hi' g N : Nat} {S : Nat → ClkD} {C : Nat → List Value} (r : ClkDsTo w k lo hi g N S C) (h1 : lo' ≤ lo) (h2 : hi ≤ hi') : ClkDsTo w k lo' hi' g N S C :=
  ⟨r.row, Nat.le_trans h1 r.glo, Nat.lt_of_lt_of_le r.ghi h2, fun i hi => (r.each i hi).wide (Nat.le_refl _) h2⟩
theorem ClkDsTo.kept {w w' : World} {k lo hi g N : Nat} {S : Nat → ClkD} {C : Nat → List Value} {T : Nat → Prop} (r : ClkDsTo w k lo hi g N S C) (hk : Kept w w' T) (hT : ∀ b, T b → b < lo ∨ hi ≤ b) : ClkDsTo w' k lo hi g N S C :=
  ⟨r.row.of_block (hk.block _ r.row.lt (fun s => by have := hT _ s; have := r.glo; have := r.ghi; omega)), r.glo, r.ghi, fun i hi => (r.each i hi).kept hk (fun b s => by have := hT b s; have := r.glo; omega)⟩
theorem ClkDsTo.at {w : World} {lo hi g N : Nat} {S : Nat → ClkD} {C : Nat → List Value} (r : ClkDsTo w N lo hi g N S C) (hs : ClkDsShort N S 1048576) : ClkDsAt w (some ⟨g, 0, none⟩) N S := by
  refine ⟨upto N C (#[.string ⟨#[]⟩, .int .i64 0, .bool false, .int .i64 0, .int .i64 0, .int .i64 0, .slice none 0 0] : Array Value).toList, RecsAt.of_row r.row, fun k hk => ?_⟩
  rw [upto_lt _ _ hk]
  exact (r.each k hk).is (hs k hk)

end Go.Proofs.Ytogbaoggebghdaa
