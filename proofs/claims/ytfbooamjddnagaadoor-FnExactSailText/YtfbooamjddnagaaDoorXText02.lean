/-
  OWN TEXT: LSail.
-/
import Derived.Test.YtfbooamjddnagaaDoorXText01
namespace Go.Proofs.YtfbooamjddnagaaDoor
open Go.RowKit

set_option maxHeartbeats 800000 in
theorem szSailing_any (x d a mo : Int) (fr tt : ByteArray) (lo co : Option Addr) (n m c1 c2 : Nat) (L : Int) (w : World) (h0 : 0 ≤ L) (hL : L ≤ 1048576) (hf : fr.size ≤ 1000000000000000) (ht : tt.size ≤ 1000000000000000) (hn : n ≤ 1000000000000000) (hm : m ≤ 1000000000000000) :
    Calls Tryd.prog 16 #[.agg #[.int .i64 x, .string fr, .string tt, .int .i64 d, .int .i64 a, .slice lo n c1, .slice co m c2, .int .i64 mo], .int .i64 L] w fun e w' => ∃ r : Int, e = .returned (.int .i64 r) ∧ (r = -1 ∨ (0 ≤ r ∧ r ≤ L ∧ fr.size ≤ 1048576 ∧ tt.size ≤ 1048576 ∧ n ≤ 1048576 ∧ m ≤ 1048576)) ∧ Below w.heap.size w w' := by
  have hb0 : Below w.heap.size w (w.alloc (.cells #[.int .i64 x, .string fr, .string tt, .int .i64 d, .int .i64 a, .slice lo n c1, .slice co m c2, .int .i64 mo] 43)) := push (Below.refl _ _) _
  have hA0 := heap_alloc_new w (.cells #[.int .i64 x, .string fr, .string tt, .int .i64 d, .int .i64 a, .slice lo n c1, .slice co m c2, .int .i64 mo] 43)
  by_cases g1 : (fr.size : Int) ≤ L
  · by_cases g2 : (tt.size : Int) ≤ L - fr.size
    · have e1 : decide (L - (fr.size : Int) < 0) = false := by simp; omega
      have e2 : decide (L - (fr.size : Int) - (tt.size : Int) < 0) = false := by simp; omega
      go_enter Tryd.func16, Tryd.ntmps16
      go_wp2_with fail
      refine (szLaneS_any lo n c1 (L - fr.size - tt.size) _ (by omega) (by omega) hn).mono ?_
      rintro e w1 ⟨r, rfl, hr, hb1⟩
      have hA1 := blk_below hA0 hb1
      have hb2 := after hb0 hb1
      clear hA0 hb0 hb1 e1 e2
      rcases hr with rfl | ⟨r0, r1, r2⟩
      · go_wp2
        go_ret
        exact ⟨_, rfl, .inl rfl, hb2⟩
      · have q := blk_cell hA1 6 _ rfl
        have d0 : decide (r < 0) = false := by simpa using r0
        go_wp2_with fail
        refine (szCabinS_any co m c2 r _ r0 (by omega) hm).mono ?_
        rintro e w2 ⟨s, rfl, hs, hb3⟩
        rcases hs with rfl | ⟨s0, s1, s2⟩
        · go_wp2
          go_ret
          exact ⟨_, rfl, .inl rfl, after hb2 hb3⟩
        · have d1 : decide (s < 0) = false := by simpa using s0
          go_wp2
          go_ret
          exact ⟨_, rfl, .inr ⟨s0, by omega, by omega, by omega, r2, s2⟩, after hb2 hb3⟩
    · have e1 : decide (L - (fr.size : Int) < 0) = false := by simp; omega
      have e2 : decide (L - (fr.size : Int) - (tt.size : Int) < 0) = true := by simp; omega
      go_enter Tryd.func16, Tryd.ntmps16
      go_wp2
      go_ret
      exact ⟨_, rfl, .inl rfl, hb0⟩
  · have e1 : decide (L - (fr.size : Int) < 0) = true := by simp; omega
    go_enter Tryd.func16, Tryd.ntmps16
    go_wp2
    go_ret
    exact ⟨_, rfl, .inl rfl, hb0⟩

set_option maxHeartbeats 1600000 in
set_option maxRecDepth 100000 in
theorem toSailing_any (x d a mo : Int) (fr tt : ByteArray) (lo co : Option Addr) (n m c1 c2 : Nat) (l1 l2 : Pairs) (w : World) (e1 : l1.n = n) (e2 : l2.n = m) (hn : n ≤ 1048576) (hm : m ≤ 1048576) (hx : PairsAt w lo l1) (hy : PairsAt w co l2) :
    Calls Tryd.prog 18 #[.agg #[.int .i64 x, .string fr, .string tt, .int .i64 d, .int .i64 a, .slice lo n c1, .slice co m c2, .int .i64 mo]] w fun e w' => ∃ p q, e = .returned (.agg #[.int .i64 x, .string fr, .string tt, .int .i64 d, .int .i64 a, .slice (some ⟨p, 0, none⟩) n n, .slice (some ⟨q, 0, none⟩) m m, .int .i64 mo]) ∧ w.heap.size ≤ p ∧ p < q ∧
      w'.rowIs p 89 (n * 2) (pairCell l1) ∧ w'.rowIs q 91 (m * 2) (pairCell l2) ∧ Below w.heap.size w w' := by
  have E1 : Hid (l1.n = n) := e1
  have E2 : Hid (l2.n = m) := e2
  clear e1 e2
  go_enter Tryd.func18, Tryd.ntmps18
  go_wp2_with fail
  obtain ⟨W0, hW0⟩ : ∃ W, W = (((w.alloc (.cells #[.int .i64 x, .string fr, .string tt, .int .i64 d, .int .i64 a, .slice lo n c1, .slice co m c2, .int .i64 mo] 43)).alloc (.cells #[.int .i64 0, .string ⟨#[]⟩, .string ⟨#[]⟩, .int .i64 0, .int .i64 0, .slice none 0 0, .slice none 0 0, .int .i64 0] 49)).alloc (.cells #[.int .i64 x, .string fr, .string tt, .int .i64 d, .int .i64 a, .slice none 0 0, .slice none 0 0, .int .i64 0] 49)) := ⟨_, rfl⟩
  have h0 : Below w.heap.size w W0 := by rw [hW0]; exact push (push (push (Below.refl _ _) _) _) _
  have A0 : W0.heap[w.heap.size]? = some (.cells #[.int .i64 x, .string fr, .string tt, .int .i64 d, .int .i64 a, .slice lo n c1, .slice co m c2, .int .i64 mo] 43 (0, 0)) := by rw [hW0]; exact blk_alloc (blk_alloc (heap_alloc_new w _) _) _
  have R0 : W0.heap[w.heap.size + 1]? = some (.cells #[.int .i64 0, .string ⟨#[]⟩, .string ⟨#[]⟩, .int .i64 0, .int .i64 0, .slice none 0 0, .slice none 0 0, .int .i64 0] 49 (0, 0)) := by rw [hW0]; exact blk_alloc (by simpa using heap_alloc_new (w.alloc _) _) _
  have O0 : W0.heap[w.heap.size + 1 + 1]? = some (.cells #[.int .i64 x, .string fr, .string tt, .int .i64 d, .int .i64 a, .slice none 0 0, .slice none 0 0, .int .i64 0] 49 (0, 0)) := by rw [hW0]; simpa using heap_alloc_new ((w.alloc _).alloc _) _
  rw [← hW0]
  clear hW0
  refine (toLaneS_any lo n c1 l1 _ E1.out hn (hx.below h0)).mono ?_
  rintro e w1 ⟨g, rfl, hg, hrow, hb1⟩
  have A1 := blk_below A0 hb1
  have R1 := blk_below R0 hb1
  have O1 := blk_below O0 hb1
  have hbw := after h0 hb1
  have hgl : w.heap.size + 1 + 1 < g := by have := blk_lt O0; omega
  clear h0 A0 R0 O0 hb1 hg
  have q1 := blk_cell A1 6 _ rfl
  have q2 := blk_cell O1 5 _ rfl
  have q3 := blk_free O1 5
  go_wp2_with fail
  obtain ⟨W, hW⟩ : ∃ W, W = w1.setCell ⟨w.heap.size + 1 + 1, 5, none⟩ (.slice (some ⟨g, 0, none⟩) n n) := ⟨_, rfl⟩
  have A2 : W.heap[w.heap.size]? = some (.cells #[.int .i64 x, .string fr, .string tt, .int .i64 d, .int .i64 a, .slice lo n c1, .slice co m c2, .int .i64 mo] 43 (0, 0)) := by rw [hW]; exact blk_set_other A1 _ _ (by omega)
  have r2 : W.heap[w.heap.size + 1]? = some (.cells #[.int .i64 0, .string ⟨#[]⟩, .string ⟨#[]⟩, .int .i64 0, .int .i64 0, .slice none 0 0, .slice none 0 0, .int .i64 0] 49 (0, 0)) := by rw [hW]; exact blk_set_other R1 _ _ (by omega)
  have o2 : W.heap[w.heap.size + 1 + 1]? = some (.cells #[.int .i64 x, .string fr, .string tt, .int .i64 d, .int .i64 a, .slice (some ⟨g, 0, none⟩) n n, .slice none 0 0, .int .i64 0] 49 (0, 0)) := by rw [hW]; exact blk_set O1 5 _
  have hrow2 : W.rowIs g 89 (n * 2) (pairCell l1) := by rw [hW]; exact hrow.setOther (by show g ≠ w.heap.size + 1 + 1; omega) _
  have hbW : Below w.heap.size w W := by rw [hW]; exact hbw.setCell (by show w.heap.size ≤ w.heap.size + 1 + 1; omega) _
  rw [← hW]
  clear hW q1 q2 q3 hrow hbw A1 R1 O1
  refine (toCabinS_any co m c2 l2 _ E2.out hm (hy.below hbW)).mono ?_
  rintro e w2 ⟨g2, rfl, hg2, hrow3, hb2⟩
  have A3 := blk_below A2 hb2
  have r3 := blk_below r2 hb2
  have o3 := blk_below o2 hb2
  have hrow4 := row_below hrow2 hb2
  have hbw2 := after hbW hb2
  have hne : g < g2 := by have := hrow2.lt; omega
  clear hb2 r2 o2 hrow2 hbW hg2 A2
  have qa := blk_cell A3 7 _ rfl
  have q0 := blk_cell o3 0 _ rfl
  have q1 := blk_cell o3 1 _ rfl
  have q2 := blk_cell o3 2 _ rfl
  have q3 := blk_cell o3 3 _ rfl
  have q4 := blk_cell o3 4 _ rfl
  have q5 := blk_cell o3 5 _ rfl
  have q6 := blk_cell o3 6 _ rfl
  have q7 := blk_cell o3 7 _ rfl
  have f6 := blk_free o3 6
  have f7 := blk_free o3 7
  have z0 := blk_free r3 0
  have z1 := blk_free r3 1
  have z2 := blk_free r3 2
  have z3 := blk_free r3 3
  have z4 := blk_free r3 4
  have z5 := blk_free r3 5
  have z6 := blk_free r3 6
  have z7 := blk_free r3 7
  have y0 := blk_cell r3 0 _ rfl
  have y1 := blk_cell r3 1 _ rfl
  have y2 := blk_cell r3 2 _ rfl
  have y3 := blk_cell r3 3 _ rfl
  have y4 := blk_cell r3 4 _ rfl
  have y5 := blk_cell r3 5 _ rfl
  have y6 := blk_cell r3 6 _ rfl
  have y7 := blk_cell r3 7 _ rfl
  go_wp2
  clear qa q0 q1 q2 q3 q4 q5 q6 q7 f6 f7 z0 z1 z2 z3 z4 z5 z6 z7 y0 y1 y2 y3 y4 y5 y6 y7
  obtain ⟨V, hV⟩ : ∃ V, V = (w2.setCell ⟨w.heap.size + 1 + 1, 6, none⟩ (.slice (some ⟨g2, 0, none⟩) m m)).setCell ⟨w.heap.size + 1 + 1, 7, none⟩ (.int .i64 mo) := ⟨_, rfl⟩
  have rV : V.heap[w.heap.size + 1]? = some (.cells #[.int .i64 0, .string ⟨#[]⟩, .string ⟨#[]⟩, .int .i64 0, .int .i64 0, .slice none 0 0, .slice none 0 0, .int .i64 0] 49 (0, 0)) := by rw [hV]; exact blk_set_other (blk_set_other r3 _ _ (by omega)) _ _ (by omega)
  have hV3 : V.rowIs g 89 (n * 2) (pairCell l1) := by rw [hV]; exact (hrow4.setOther (by show g ≠ w.heap.size + 1 + 1; omega) _).setOther (by show g ≠ w.heap.size + 1 + 1; omega) _
  have hV4 : V.rowIs g2 91 (m * 2) (pairCell l2) := by rw [hV]; exact (hrow3.setOther (by show g2 ≠ w.heap.size + 1 + 1; omega) _).setOther (by show g2 ≠ w.heap.size + 1 + 1; omega) _
  have hVb : Below w.heap.size w V := by rw [hV]; exact (hbw2.setCell (by show w.heap.size ≤ w.heap.size + 1 + 1; omega) _).setCell (by show w.heap.size ≤ w.heap.size + 1 + 1; omega) _
  rw [← hV]
  obtain ⟨F, hF⟩ : ∃ F, F = set8 V (w.heap.size + 1) 0 (.int .i64 x) (.string fr) (.string tt) (.int .i64 d) (.int .i64 a) (.slice (some ⟨g, 0, none⟩) n n) (.slice (some ⟨g2, 0, none⟩) m m) (.int .i64 mo) := ⟨_, rfl⟩
  have rF := set8_blk (v0 := .int .i64 x) (v1 := .string fr) (v2 := .string tt) (v3 := .int .i64 d) (v4 := .int .i64 a) (v5 := .slice (some ⟨g, 0, none⟩) n n) (v6 := .slice (some ⟨g2, 0, none⟩) m m) (v7 := .int .i64 mo) rV
  rw [← hF] at rF
  have hF3 : F.rowIs g 89 (n * 2) (pairCell l1) := by rw [hF]; exact set8_row hV3 (by omega)
  have hF4 : F.rowIs g2 91 (m * 2) (pairCell l2) := by rw [hF]; exact set8_row hV4 (by omega)
  have hFb : Below w.heap.size w F := by rw [hF]; exact set8_below hVb (by omega)
  have hF' : F = (((((((V.setCell ⟨w.heap.size + 1, 0, none⟩ (.int .i64 x)).setCell ⟨w.heap.size + 1, 1, none⟩ (.string fr)).setCell ⟨w.heap.size + 1, 2, none⟩ (.string tt)).setCell ⟨w.heap.size + 1, 3, none⟩ (.int .i64 d)).setCell ⟨w.heap.size + 1, 4, none⟩ (.int .i64 a)).setCell ⟨w.heap.size + 1, 5, none⟩ (.slice (some ⟨g, 0, none⟩) n n)).setCell ⟨w.heap.size + 1, 6, none⟩ (.slice (some ⟨g2, 0, none⟩) m m)).setCell ⟨w.heap.size + 1, 7, none⟩ (.int .i64 mo) := by rw [hF]; unfold set8; rfl
  rw [← hF']
  clear hF hF' hV rV hV3 hV4 hVb
  have z0 := blk_cell rF 0 _ rfl
  have z1 := blk_cell rF 1 _ rfl
  have z2 := blk_cell rF 2 _ rfl
  have z3 := blk_cell rF 3 _ rfl
  have z4 := blk_cell rF 4 _ rfl
  have z5 := blk_cell rF 5 _ rfl
  have z6 := blk_cell rF 6 _ rfl
  have z7 := blk_cell rF 7 _ rfl
  exact bodyPost_ret (v := .agg #[.int .i64 x, .string fr, .string tt, .int .i64 d, .int .i64 a, .slice (some ⟨g, 0, none⟩) n n, .slice (some ⟨g2, 0, none⟩) m m, .int .i64 mo]) (by simp [results, Tryd.results18, go_sem, z0, z1, z2, z3, z4, z5, z6, z7]) rfl ⟨g, g2, rfl, by omega, hne, hF3, hF4, hFb⟩

set_option maxHeartbeats 1600000 in
set_option maxRecDepth 100000 in
theorem eqSailing_same (x d a mo : Int) (fr tt : ByteArray) (lo co lo' co' : Option Addr) (n m c1 c2 c3 c4 : Nat) (l1 l2 : Pairs) (w : World) (e1 : l1.n = n) (e2 : l2.n = m) (hn : n ≤ 1048576) (hm : m ≤ 1048576)
    (hx : PairsAt w lo l1) (hy : PairsAt w co l2) (hx' : PairsAt w lo' l1) (hy' : PairsAt w co' l2) :
    Calls Tryd.prog 20 #[.agg #[.int .i64 x, .string fr, .string tt, .int .i64 d, .int .i64 a, .slice lo n c1, .slice co m c2, .int .i64 mo], .agg #[.int .i64 x, .string fr, .string tt, .int .i64 d, .int .i64 a, .slice lo' n c3, .slice co' m c4, .int .i64 mo]] w fun e w' => e = .returned (.bool true) ∧ Below w.heap.size w w' := by
  have E1 : Hid (l1.n = n) := e1
  have E2 : Hid (l2.n = m) := e2
  clear e1 e2
  have h0 : Below w.heap.size w ((w.alloc (.cells #[.int .i64 x, .string fr, .string tt, .int .i64 d, .int .i64 a, .slice lo n c1, .slice co m c2, .int .i64 mo] 49)).alloc (.cells #[.int .i64 x, .string fr, .string tt, .int .i64 d, .int .i64 a, .slice lo' n c3, .slice co' m c4, .int .i64 mo] 49)) := push (push (Below.refl _ _) _) _
  go_enter Tryd.func20, Tryd.ntmps20
  go_wp2_with fail
  refine (eqLaneS_same lo lo' n c1 c3 l1 _ E1.out hn (hx.below h0) (hx'.below h0)).mono ?_
  rintro e w1 ⟨rfl, hb1⟩
  have a1 : w1.heap[w.heap.size]? = some (.cells #[.int .i64 x, .string fr, .string tt, .int .i64 d, .int .i64 a, .slice lo n c1, .slice co m c2, .int .i64 mo] 49 (0, 0)) := blk_below (blk_alloc (heap_alloc_new w _) _) hb1
  have r1 : w1.heap[w.heap.size + 1]? = some (.cells #[.int .i64 x, .string fr, .string tt, .int .i64 d, .int .i64 a, .slice lo' n c3, .slice co' m c4, .int .i64 mo] 49 (0, 0)) := blk_below (by simpa using heap_alloc_new (w.alloc _) _) hb1
  have hb2 := after h0 hb1
  clear h0 hb1
  have q1 := blk_cell a1 6 _ rfl
  have q2 := blk_cell r1 6 _ rfl
  have q3 := blk_cell a1 7 _ rfl
  have q4 := blk_cell r1 7 _ rfl
  go_wp2_with fail
  refine (eqCabinS_same co co' m c2 c4 l2 _ E2.out hm (hy.below hb2) (hy'.below hb2)).mono ?_
  rintro e w2 ⟨rfl, hb3⟩
  have q5 := blk_cell (blk_below a1 hb3) 7 _ rfl
  have q6 := blk_cell (blk_below r1 hb3) 7 _ rfl
  clear q1 q2 q3 q4 a1 r1
  go_wp2
  go_ret
  exact ⟨rfl, after hb2 hb3⟩

end Go.Proofs.YtfbooamjddnagaaDoor
