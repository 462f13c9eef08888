/-
  OWN TEXT: LSail, LawRsp, LawReadS, Views.
-/
import Derived.ProofKit
import Derived.OpenShut
import Derived.ChangeOld
import Derived.SizedLaws
import Derived.Deep.Slices
import Derived.Deep.Strs
import Derived.Lib.SmallJoins
import Derived.Test.YtfbooamjddnagaaDoorXSail08
import Derived.Test.YtfbooamjddnagaaDoorB00
namespace Go.Proofs.YtfbooamjddnagaaDoor
open Go.RowKit

set_option maxHeartbeats 800000 in
theorem szSailing_any (x d a mo : Int) (fr tt : ByteArray) (lo co : Option Addr) (n m c1 c2 : Nat) (L : Int) (w : World) (h0 : 0 ≤ L) (hL : L ≤ 1048576) (hf : fr.size ≤ 1000000000000000) (ht : tt.size ≤ 1000000000000000) (hn : n ≤ 1000000000000000) (hm : m ≤ 1000000000000000) :
    Calls Tryd.prog 16 #[.agg #[.int .i64 x, .string fr, .string tt, .int .i64 d, .int .i64 a, .slice lo n c1, .slice co m c2, .int .i64 mo], .int .i64 L] w fun e w' => ∃ r : Int, e = .returned (.int .i64 r) ∧ (r = -1 ∨ (0 ≤ r ∧ r ≤ L ∧ fr.size ≤ 1048576 ∧ tt.size ≤ 1048576 ∧ n ≤ 1048576 ∧ m ≤ 1048576)) ∧ Below w.heap.size w w' := by
  have hb0 : Below w.heap.size w (w.alloc (.cells #[.int .i64 x, .string fr, .string tt, .int .i64 d, .int .i64 a, .slice lo n c1, .slice co m c2, .int .i64 mo] 43)) := push (Below.refl _ _) _
  have hA0 := heap_alloc_new w (.cells #[.int .i64 x, .string fr, .string tt, .int .i64 d, .int .i64 a, .slice lo n c1, .slice co m c2, .int .i64 mo] 43)
  by_cases g1 : (fr.size : Int) ≤ L
  · by_cases g2 : (tt.size : Int) ≤ L - fr.size
    · have e1 : decide (L - (fr.size : Int) < 0) = false := by simp; omega
      have e2 : decide (L - (fr.size : Int) - (tt.size : Int) < 0) = false := by simp; omega
      go_enter Tryd.func16, Tryd.ntmps16
      go_wp2_with fail
      refine (szLaneS_any lo n c1 (L - fr.size - tt.size) _ (by omega) (by omega) hn).mono ?_
      rintro e w1 ⟨r, rfl, hr, hb1⟩
      have hA1 := blk_below hA0 hb1
      have hb2 := after hb0 hb1
      clear hA0 hb0 hb1 e1 e2
      rcases hr with rfl | ⟨r0, r1, r2⟩
      · go_wp2
        go_ret
        exact ⟨_, rfl, .inl rfl, hb2⟩
      · have q := blk_cell hA1 6 _ rfl
        have d0 : decide (r < 0) = false := by simpa using r0
        go_wp2_with fail
        refine (szCabinS_any co m c2 r _ r0 (by omega) hm).mono ?_
        rintro e w2 ⟨s, rfl, hs, hb3⟩
        rcases hs with rfl | ⟨s0, s1, s2⟩
        · go_wp2
          go_ret
          exact ⟨_, rfl, .inl rfl, after hb2 hb3⟩
        · have d1 : decide (s < 0) = false := by simpa using s0
          go_wp2
          go_ret
          exact ⟨_, rfl, .inr ⟨s0, by omega, by omega, by omega, r2, s2⟩, after hb2 hb3⟩
    · have e1 : decide (L - (fr.size : Int) < 0) = false := by simp; omega
      have e2 : decide (L - (fr.size : Int) - (tt.size : Int) < 0) = true := by simp; omega
      go_enter Tryd.func16, Tryd.ntmps16
      go_wp2
      go_ret
      exact ⟨_, rfl, .inl rfl, hb0⟩
  · have e1 : decide (L - (fr.size : Int) < 0) = true := by simp; omega
    go_enter Tryd.func16, Tryd.ntmps16
    go_wp2
    go_ret
    exact ⟨_, rfl, .inl rfl, hb0⟩

set_option maxHeartbeats 1600000 in
set_option maxRecDepth 100000 in
theorem toSailing_any (x d a mo : Int) (fr tt : ByteArray) (lo co : Option Addr) (n m c1 c2 : Nat) (l1 l2 : Pairs) (w : World) (e1 : l1.n = n) (e2 : l2.n = m) (hn : n ≤ 1048576) (hm : m ≤ 1048576) (hx : PairsAt w lo l1) (hy : PairsAt w co l2) :
    Calls Tryd.prog 18 #[.agg #[.int .i64 x, .string fr, .string tt, .int .i64 d, .int .i64 a, .slice lo n c1, .slice co m c2, .int .i64 mo]] w fun e w' => ∃ p q, e = .returned (.agg #[.int .i64 x, .string fr, .string tt, .int .i64 d, .int .i64 a, .slice (some ⟨p, 0, none⟩) n n, .slice (some ⟨q, 0, none⟩) m m, .int .i64 mo]) ∧ w.heap.size ≤ p ∧ p < q ∧
      w'.rowIs p 89 (n * 2) (pairCell l1) ∧ w'.rowIs q 91 (m * 2) (pairCell l2) ∧ Below w.heap.size w w' := by
  have E1 : Hid (l1.n = n) := e1
  have E2 : Hid (l2.n = m) := e2
  clear e1 e2
  go_enter Tryd.func18, Tryd.ntmps18
  go_wp2_with fail
  obtain ⟨W0, hW0⟩ : ∃ W, W = (((w.alloc (.cells #[.int .i64 x, .string fr, .string tt, .int .i64 d, .int .i64 a, .slice lo n c1, .slice co m c2, .int .i64 mo] 43)).alloc (.cells #[.int .i64 0, .string ⟨#[]⟩, .string ⟨#[]⟩, .int .i64 0, .int .i64 0, .slice none 0 0, .slice none 0 0, .int .i64 0] 49)).alloc (.cells #[.int .i64 x, .string fr, .string tt, .int .i64 d, .int .i64 a, .slice none 0 0, .slice none 0 0, .int .i64 0] 49)) := ⟨_, rfl⟩
  have h0 : Below w.heap.size w W0 := by rw [hW0]; exact push (push (push (Below.refl _ _) _) _) _
  have A0 : W0.heap[w.heap.size]? = some (.cells #[.int .i64 x, .string fr, .string tt, .int .i64 d, .int .i64 a, .slice lo n c1, .slice co m c2, .int .i64 mo] 43 (0, 0)) := by rw [hW0]; exact blk_alloc (blk_alloc (heap_alloc_new w _) _) _
  have R0 : W0.heap[w.heap.size + 1]? = some (.cells #[.int .i64 0, .string ⟨#[]⟩, .string ⟨#[]⟩, .int .i64 0, .int .i64 0, .slice none 0 0, .slice none 0 0, .int .i64 0] 49 (0, 0)) := by rw [hW0]; exact blk_alloc (by simpa using heap_alloc_new (w.alloc _) _) _
  have O0 : W0.heap[w.heap.size + 1 + 1]? = some (.cells #[.int .i64 x, .string fr, .string tt, .int .i64 d, .int .i64 a, .slice none 0 0, .slice none 0 0, .int .i64 0] 49 (0, 0)) := by rw [hW0]; simpa using heap_alloc_new ((w.alloc _).alloc _) _
  rw [← hW0]
  clear hW0
  refine (toLaneS_any lo n c1 l1 _ E1.out hn (hx.below h0)).mono ?_
  rintro e w1 ⟨g, rfl, hg, hrow, hb1⟩
  have A1 := blk_below A0 hb1
  have R1 := blk_below R0 hb1
  have O1 := blk_below O0 hb1
  have hbw := after h0 hb1
  have hgl : w.heap.size + 1 + 1 < g := by have := blk_lt O0; omega
  clear h0 A0 R0 O0 hb1 hg
  have q1 := blk_cell A1 6 _ rfl
  have q2 := blk_cell O1 5 _ rfl
  have q3 := blk_free O1 5
  go_wp2_with fail
  obtain ⟨W, hW⟩ : ∃ W, W = w1.setCell ⟨w.heap.size + 1 + 1, 5, none⟩ (.slice (some ⟨g, 0, none⟩) n n) := ⟨_, rfl⟩
  have A2 : W.heap[w.heap.size]? = some (.cells #[.int .i64 x, .string fr, .string tt, .int .i64 d, .int .i64 a, .slice lo n c1, .slice co m c2, .int .i64 mo] 43 (0, 0)) := by rw [hW]; exact blk_set_other A1 _ _ (by omega)
  have r2 : W.heap[w.heap.size + 1]? = some (.cells #[.int .i64 0, .string ⟨#[]⟩, .string ⟨#[]⟩, .int .i64 0, .int .i64 0, .slice none 0 0, .slice none 0 0, .int .i64 0] 49 (0, 0)) := by rw [hW]; exact blk_set_other R1 _ _ (by omega)
  have o2 : W.heap[w.heap.size + 1 + 1]? = some (.cells #[.int .i64 x, .string fr, .string tt, .int .i64 d, .int .i64 a, .slice (some ⟨g, 0, none⟩) n n, .slice none 0 0, .int .i64 0] 49 (0, 0)) := by rw [hW]; exact blk_set O1 5 _
  have hrow2 : W.rowIs g 89 (n * 2) (pairCell l1) := by rw [hW]; exact hrow.setOther (by show g ≠ w.heap.size + 1 + 1; omega) _
  have hbW : Below w.heap.size w W := by rw [hW]; exact hbw.setCell (by show w.heap.size ≤ w.heap.size + 1 + 1; omega) _
  rw [← hW]
  clear hW q1 q2 q3 hrow hbw A1 R1 O1
  refine (toCabinS_any co m c2 l2 _ E2.out hm (hy.below hbW)).mono ?_
  rintro e w2 ⟨g2, rfl, hg2, hrow3, hb2⟩
  have A3 := blk_below A2 hb2
  have r3 := blk_below r2 hb2
  have o3 := blk_below o2 hb2
  have hrow4 := row_below hrow2 hb2
  have hbw2 := after hbW hb2
  have hne : g < g2 := by have := hrow2.lt; omega
  clear hb2 r2 o2 hrow2 hbW hg2 A2
  have qa := blk_cell A3 7 _ rfl
  have q0 := blk_cell o3 0 _ rfl
  have q1 := blk_cell o3 1 _ rfl
  have q2 := blk_cell o3 2 _ rfl
  have q3 := blk_cell o3 3 _ rfl
  have q4 := blk_cell o3 4 _ rfl
  have q5 := blk_cell o3 5 _ rfl
  have q6 := blk_cell o3 6 _ rfl
  have q7 := blk_cell o3 7 _ rfl
  have f6 := blk_free o3 6
  have f7 := blk_free o3 7
  have z0 := blk_free r3 0
  have z1 := blk_free r3 1
  have z2 := blk_free r3 2
  have z3 := blk_free r3 3
  have z4 := blk_free r3 4
  have z5 := blk_free r3 5
  have z6 := blk_free r3 6
  have z7 := blk_free r3 7
  have y0 := blk_cell r3 0 _ rfl
  have y1 := blk_cell r3 1 _ rfl
  have y2 := blk_cell r3 2 _ rfl
  have y3 := blk_cell r3 3 _ rfl
  have y4 := blk_cell r3 4 _ rfl
  have y5 := blk_cell r3 5 _ rfl
  have y6 := blk_cell r3 6 _ rfl
  have y7 := blk_cell r3 7 _ rfl
  go_wp2
  clear qa q0 q1 q2 q3 q4 q5 q6 q7 f6 f7 z0 z1 z2 z3 z4 z5 z6 z7 y0 y1 y2 y3 y4 y5 y6 y7
  obtain ⟨V, hV⟩ : ∃ V, V = (w2.setCell ⟨w.heap.size + 1 + 1, 6, none⟩ (.slice (some ⟨g2, 0, none⟩) m m)).setCell ⟨w.heap.size + 1 + 1, 7, none⟩ (.int .i64 mo) := ⟨_, rfl⟩
  have rV : V.heap[w.heap.size + 1]? = some (.cells #[.int .i64 0, .string ⟨#[]⟩, .string ⟨#[]⟩, .int .i64 0, .int .i64 0, .slice none 0 0, .slice none 0 0, .int .i64 0] 49 (0, 0)) := by rw [hV]; exact blk_set_other (blk_set_other r3 _ _ (by omega)) _ _ (by omega)
  have hV3 : V.rowIs g 89 (n * 2) (pairCell l1) := by rw [hV]; exact (hrow4.setOther (by show g ≠ w.heap.size + 1 + 1; omega) _).setOther (by show g ≠ w.heap.size + 1 + 1; omega) _
  have hV4 : V.rowIs g2 91 (m * 2) (pairCell l2) := by rw [hV]; exact (hrow3.setOther (by show g2 ≠ w.heap.size + 1 + 1; omega) _).setOther (by show g2 ≠ w.heap.size + 1 + 1; omega) _
  have hVb : Below w.heap.size w V := by rw [hV]; exact (hbw2.setCell (by show w.heap.size ≤ w.heap.size + 1 + 1; omega) _).setCell (by show w.heap.size ≤ w.heap.size + 1 + 1; omega) _
  rw [← hV]
  obtain ⟨F, hF⟩ : ∃ F, F = set8 V (w.heap.size + 1) 0 (.int .i64 x) (.string fr) (.string tt) (.int .i64 d) (.int .i64 a) (.slice (some ⟨g, 0, none⟩) n n) (.slice (some ⟨g2, 0, none⟩) m m) (.int .i64 mo) := ⟨_, rfl⟩
  have rF := set8_blk (v0 := .int .i64 x) (v1 := .string fr) (v2 := .string tt) (v3 := .int .i64 d) (v4 := .int .i64 a) (v5 := .slice (some ⟨g, 0, none⟩) n n) (v6 := .slice (some ⟨g2, 0, none⟩) m m) (v7 := .int .i64 mo) rV
  rw [← hF] at rF
  have hF3 : F.rowIs g 89 (n * 2) (pairCell l1) := by rw [hF]; exact set8_row hV3 (by omega)
  have hF4 : F.rowIs g2 91 (m * 2) (pairCell l2) := by rw [hF]; exact set8_row hV4 (by omega)
  have hFb : Below w.heap.size w F := by rw [hF]; exact set8_below hVb (by omega)
  have hF' : F = (((((((V.setCell ⟨w.heap.size + 1, 0, none⟩ (.int .i64 x)).setCell ⟨w.heap.size + 1, 1, none⟩ (.string fr)).setCell ⟨w.heap.size + 1, 2, none⟩ (.string tt)).setCell ⟨w.heap.size + 1, 3, none⟩ (.int .i64 d)).setCell ⟨w.heap.size + 1, 4, none⟩ (.int .i64 a)).setCell ⟨w.heap.size + 1, 5, none⟩ (.slice (some ⟨g, 0, none⟩) n n)).setCell ⟨w.heap.size + 1, 6, none⟩ (.slice (some ⟨g2, 0, none⟩) m m)).setCell ⟨w.heap.size + 1, 7, none⟩ (.int .i64 mo) := by rw [hF]; unfold set8; rfl
  rw [← hF']
  clear hF hF' hV rV hV3 hV4 hVb
  have z0 := blk_cell rF 0 _ rfl
  have z1 := blk_cell rF 1 _ rfl
  have z2 := blk_cell rF 2 _ rfl
  have z3 := blk_cell rF 3 _ rfl
  have z4 := blk_cell rF 4 _ rfl
  have z5 := blk_cell rF 5 _ rfl
  have z6 := blk_cell rF 6 _ rfl
  have z7 := blk_cell rF 7 _ rfl
  exact bodyPost_ret (v := .agg #[.int .i64 x, .string fr, .string tt, .int .i64 d, .int .i64 a, .slice (some ⟨g, 0, none⟩) n n, .slice (some ⟨g2, 0, none⟩) m m, .int .i64 mo]) (by simp [results, Tryd.results18, go_sem, z0, z1, z2, z3, z4, z5, z6, z7]) rfl ⟨g, g2, rfl, by omega, hne, hF3, hF4, hFb⟩

set_option maxHeartbeats 1600000 in
set_option maxRecDepth 100000 in
theorem eqSailing_same (x d a mo : Int) (fr tt : ByteArray) (lo co lo' co' : Option Addr) (n m c1 c2 c3 c4 : Nat) (l1 l2 : Pairs) (w : World) (e1 : l1.n = n) (e2 : l2.n = m) (hn : n ≤ 1048576) (hm : m ≤ 1048576)
    (hx : PairsAt w lo l1) (hy : PairsAt w co l2) (hx' : PairsAt w lo' l1) (hy' : PairsAt w co' l2) :
    Calls Tryd.prog 20 #[.agg #[.int .i64 x, .string fr, .string tt, .int .i64 d, .int .i64 a, .slice lo n c1, .slice co m c2, .int .i64 mo], .agg #[.int .i64 x, .string fr, .string tt, .int .i64 d, .int .i64 a, .slice lo' n c3, .slice co' m c4, .int .i64 mo]] w fun e w' => e = .returned (.bool true) ∧ Below w.heap.size w w' := by
  have E1 : Hid (l1.n = n) := e1
  have E2 : Hid (l2.n = m) := e2
  clear e1 e2
  have h0 : Below w.heap.size w ((w.alloc (.cells #[.int .i64 x, .string fr, .string tt, .int .i64 d, .int .i64 a, .slice lo n c1, .slice co m c2, .int .i64 mo] 49)).alloc (.cells #[.int .i64 x, .string fr, .string tt, .int .i64 d, .int .i64 a, .slice lo' n c3, .slice co' m c4, .int .i64 mo] 49)) := push (push (Below.refl _ _) _) _
  go_enter Tryd.func20, Tryd.ntmps20
  go_wp2_with fail
  refine (eqLaneS_same lo lo' n c1 c3 l1 _ E1.out hn (hx.below h0) (hx'.below h0)).mono ?_
  rintro e w1 ⟨rfl, hb1⟩
  have a1 : w1.heap[w.heap.size]? = some (.cells #[.int .i64 x, .string fr, .string tt, .int .i64 d, .int .i64 a, .slice lo n c1, .slice co m c2, .int .i64 mo] 49 (0, 0)) := blk_below (blk_alloc (heap_alloc_new w _) _) hb1
  have r1 : w1.heap[w.heap.size + 1]? = some (.cells #[.int .i64 x, .string fr, .string tt, .int .i64 d, .int .i64 a, .slice lo' n c3, .slice co' m c4, .int .i64 mo] 49 (0, 0)) := blk_below (by simpa using heap_alloc_new (w.alloc _) _) hb1
  have hb2 := after h0 hb1
  clear h0 hb1
  have q1 := blk_cell a1 6 _ rfl
  have q2 := blk_cell r1 6 _ rfl
  have q3 := blk_cell a1 7 _ rfl
  have q4 := blk_cell r1 7 _ rfl
  go_wp2_with fail
  refine (eqCabinS_same co co' m c2 c4 l2 _ E2.out hm (hy.below hb2) (hy'.below hb2)).mono ?_
  rintro e w2 ⟨rfl, hb3⟩
  have q5 := blk_cell (blk_below a1 hb3) 7 _ rfl
  have q6 := blk_cell (blk_below r1 hb3) 7 _ rfl
  clear q1 q2 q3 q4 a1 r1
  go_wp2
  go_ret
  exact ⟨rfl, after hb2 hb3⟩

end Go.Proofs.YtfbooamjddnagaaDoor

namespace Go.Proofs.YtfbooamjddnagaaDoor
open Go.RowKit

theorem pairs_same {w : World} {ao : Option Addr} {p q : Pairs} (h : PairsAt w ao p) (e : SameP q p) : PairsAt w ao q := fun k hk => by
  obtain ⟨b, off, h1, h2, h3⟩ := h k (by rw [← e.1]; exact hk)
  have e2 := e.2 k (by rw [← e.1]; exact hk)
  exact ⟨b, off, h1, by rw [e2.1]; exact h2, by rw [e2.2]; exact h3⟩
theorem own_not_own {w : World} {b1 e1 s1 n1 b2 e2 s2 n2 : Nat} {v1 v2 : Value} {x1 x2 : List Value} (h1 : w.ownsRow b1 e1 s1 v1 n1 x1) (h2 : w.ownsRow b2 e2 s2 v2 n2 x2) (hne : e1 ≠ e2) : ∀ g, v1.ownBlock = some g → ¬ v2.ownBlock = some g := own_apart h1 h2 hne

set_option maxHeartbeats 800000 in
theorem markSail_own (i d ar mo : Int) (fr tt : ByteArray) (ao bo : Option Addr) (c e base : Nat) (p r : Pairs) (w : World) (hp : p.n ≤ 6) (hr : r.n ≤ 6) (ho : w.ownsRow base 89 2 (.slice ao p.n c) p.n (pairRow p)) (hq : w.ownsRow base 91 2 (.slice bo r.n e) r.n (pairRow r)) :
    Calls Tryd.prog 23 #[.agg #[.int .i64 i, .string fr, .string tt, .int .i64 d, .int .i64 ar, .slice ao p.n c, .slice bo r.n e, .int .i64 mo], .int .i64 1] w fun e' w' => e' = .returned (.int .i64 ((1 + 2 * p.n + 2 * r.n : Nat) : Int)) ∧ Hid (PairsAt w' ao (markP 1 p) ∧ PairsAt w' bo (markP (1 + 2 * p.n) r)) ∧ Kept w w' (fun b => (Value.slice ao p.n c).ownBlock = some b ∨ (Value.slice bo r.n e).ownBlock = some b) := by
  have A0 := heap_alloc_new w (.cells #[.int .i64 i, .string fr, .string tt, .int .i64 d, .int .i64 ar, .slice ao p.n c, .slice bo r.n e, .int .i64 mo] 49)
  have hb0 : Below w.heap.size w (w.alloc (.cells #[.int .i64 i, .string fr, .string tt, .int .i64 d, .int .i64 ar, .slice ao p.n c, .slice bo r.n e, .int .i64 mo] 49)) := push (Below.refl _ _) _
  have HO : Hid (World.ownsRow (w.alloc (.cells #[.int .i64 i, .string fr, .string tt, .int .i64 d, .int .i64 ar, .slice ao p.n c, .slice bo r.n e, .int .i64 mo] 49)) base 89 2 (.slice ao p.n c) p.n (pairRow p) ∧ World.ownsRow (w.alloc (.cells #[.int .i64 i, .string fr, .string tt, .int .i64 d, .int .i64 ar, .slice ao p.n c, .slice bo r.n e, .int .i64 mo] 49)) base 91 2 (.slice bo r.n e) r.n (pairRow r)) := ⟨own_below hb0 ho, own_below hb0 hq⟩
  obtain ⟨n, hn⟩ : ∃ n, n = p.n := ⟨_, rfl⟩
  obtain ⟨m, hm⟩ : ∃ m, m = r.n := ⟨_, rfl⟩
  clear ho hq
  go_enter Tryd.func23, Tryd.ntmps23
  go_upto_region 1 with fail
  generalize w.alloc (.cells #[.int .i64 i, .string fr, .string tt, .int .i64 d, .int .i64 ar, .slice ao p.n c, .slice bo r.n e, .int .i64 mo] 49) = W at A0 hb0 HO ⊢
  have y5 := blk_cell A0 5 _ rfl
  go_wp2_with fail
  refine (markLaneP ao c base 1 p W (by omega) (by omega) HO.out.1).mono ?_
  rintro e1 w2 ⟨rfl, ho2, hk2⟩
  have A2 := hk2.blk A0 (fun h => own_notT HO.out.1 A0 (by decide) _ h rfl)
  have HC2 : Hid (w2.ownsRow base 91 2 (.slice bo r.n e) r.n (pairRow r)) := hk2.own HO.out.2 (fun g h1 h2 => own_apart HO.out.2 HO.out.1 (by decide) g h1 h2)
  have HO2 : Hid (w2.ownsRow base 89 2 (.slice ao p.n c) p.n (pairRow (markP 1 p))) := ho2
  have HK2 : Hid (Kept w w2 (fun b => (Value.slice ao p.n c).ownBlock = some b)) := (Kept.of_below hb0).trans hk2
  clear ho2 hk2 y5 hb0 HO
  have y6 := blk_cell A2 6 _ rfl
  go_wp2_with fail
  refine (markCabinP bo e base (1 + 2 * p.n) r w2 (by omega) (by omega) HC2.out).mono ?_
  rintro e1 w3 ⟨rfl, ho3, hk3⟩
  have HF : Hid (PairsAt w3 ao (markP 1 p) ∧ PairsAt w3 bo (markP (1 + 2 * p.n) r)) := ⟨pairs_of_own (p := markP 1 p) (hk3.own HO2.out (fun g h1 h2 => own_apart HO2.out HC2.out (by decide) g h1 h2)), pairs_of_own (p := markP (1 + 2 * p.n) r) ho3⟩
  have HKF : Hid (Kept w w3 (fun b => (Value.slice ao p.n c).ownBlock = some b ∨ (Value.slice bo r.n e).ownBlock = some b)) := (HK2.out.mono fun _ h => .inl h).trans (hk3.mono fun _ h => .inr h)
  clear ho3 hk3 y6 A2
  go_wp2
  go_ret
  exact ⟨rfl, HF, HKF.out⟩

set_option maxHeartbeats 800000 in
theorem heldSail_yes (i d ar mo : Int) (fr tt : ByteArray) (ao bo : Option Addr) (c e : Nat) (p r : Pairs) (w : World) (hp : p.n ≤ 6) (hr : r.n ≤ 6) (hz : PairsAt w ao (markP 1 p) ∧ PairsAt w bo (markP (1 + 2 * p.n) r)) :
    Calls Tryd.prog 24 #[.agg #[.int .i64 i, .string fr, .string tt, .int .i64 d, .int .i64 ar, .slice ao p.n c, .slice bo r.n e, .int .i64 mo], .int .i64 1] w fun e' w' => e' = .returned (.int .i64 ((1 + 2 * p.n + 2 * r.n : Nat) : Int)) ∧ Below w.heap.size w w' := by
  have A0 := heap_alloc_new w (.cells #[.int .i64 i, .string fr, .string tt, .int .i64 d, .int .i64 ar, .slice ao p.n c, .slice bo r.n e, .int .i64 mo] 49)
  have hb0 : Below w.heap.size w (w.alloc (.cells #[.int .i64 i, .string fr, .string tt, .int .i64 d, .int .i64 ar, .slice ao p.n c, .slice bo r.n e, .int .i64 mo] 49)) := push (Below.refl _ _) _
  have HZ : Hid (PairsAt (w.alloc (.cells #[.int .i64 i, .string fr, .string tt, .int .i64 d, .int .i64 ar, .slice ao p.n c, .slice bo r.n e, .int .i64 mo] 49)) ao (markP 1 p) ∧ PairsAt (w.alloc (.cells #[.int .i64 i, .string fr, .string tt, .int .i64 d, .int .i64 ar, .slice ao p.n c, .slice bo r.n e, .int .i64 mo] 49)) bo (markP (1 + 2 * p.n) r)) := ⟨hz.1.below hb0, hz.2.below hb0⟩
  have d1 : decide (((1 + 2 * p.n : Nat) : Int) < 0) = false := decide_eq_false (by omega)
  have d2 : decide (((1 + 2 * p.n + 2 * r.n : Nat) : Int) < 0) = false := decide_eq_false (by omega)
  clear hz
  go_enter Tryd.func24, Tryd.ntmps24
  go_upto_region 1 with fail
  generalize w.alloc (.cells #[.int .i64 i, .string fr, .string tt, .int .i64 d, .int .i64 ar, .slice ao p.n c, .slice bo r.n e, .int .i64 mo] 49) = W at A0 hb0 HZ ⊢
  have y5 := blk_cell A0 5 _ rfl
  have y6 := blk_cell A0 6 _ rfl
  go_wp2_with fail
  refine (heldLaneP ao c 1 p W (by omega) (by omega) HZ.out.1).mono ?_
  rintro e1 w2 ⟨rfl, hw2⟩
  have hw2 := hw2.symm
  subst hw2
  obtain ⟨k1, hk1⟩ : ∃ k : Nat, k = 1 + 2 * p.n := ⟨_, rfl⟩
  have ch := heldCabinP bo e (1 + 2 * p.n) r W (by omega) (by omega) HZ.out.2
  rw [← hk1] at ch d1 ⊢
  obtain ⟨k2, hk2⟩ : ∃ k : Nat, k = k1 + 2 * r.n := ⟨_, rfl⟩
  rw [← hk1, ← hk2] at d2
  rw [← hk2] at ch
  have HKK : Hid (k2 = 1 + 2 * p.n + 2 * r.n) := by show k2 = 1 + 2 * p.n + 2 * r.n; rw [hk2, hk1]
  have e1' : ¬ (k1 : Int) < 0 := by omega
  have e2' : ¬ (k2 : Int) < 0 := by omega
  clear hk1 hk2
  go_wp2_with fail
  refine ch.mono ?_
  clear ch
  rintro e1 w3 ⟨rfl, hw3⟩
  have hw3 := hw3.symm
  subst hw3
  go_wp2
  go_ret
  exact ⟨by rw [HKK.out]; rfl, hb0⟩

end Go.Proofs.YtfbooamjddnagaaDoor

namespace Go.Proofs.YtfbooamjddnagaaDoor
open Go.RowKit

set_option maxHeartbeats 3200000 in
set_option maxRecDepth 100000 in
theorem lawReadSail (s : ByteArray) (w : World) (_hn : s.size ≤ 1000000000000000) (hF : PowAt w ∧ LineAt w) :
    Calls Tryd.prog 6 #[.string s] w fun e w' => e = .returned (.bool true) ∧ Below w.heap.size w w' := by
  have HF : Hid (PowAt w ∧ LineAt w) := hF
  clear hF
  by_cases hs : s.size ≤ 1048576
  case neg =>
    have d0 : decide (1048576 < s.size) = true := decide_eq_true (by omega)
    have d1 : decide ((1048576 : Int) < (s.size : Int)) = true := decide_eq_true (by omega)
    go_enter Tryd.func6, Tryd.ntmps6
    go_wp2
    go_ret
    exact ⟨rfl, Below.refl _ _⟩
  have d0 : decide (1048576 < s.size) = false := decide_eq_false (by omega)
  have d1' : decide ((1048576 : Int) < (s.size : Int)) = false := decide_eq_false (by omega)
  go_enter Tryd.func6, Tryd.ntmps6
  go_wp2_with fail
  refine (specReadS_any s _ hs).mono ?_
  rintro e w1 ⟨y1, vl, vc, k1, rfl, h1⟩
  have HR1 : Hid (AnsS s y1 k1) := h1.ans
  have hB1 := after (Below.refl w.heap.size w) h1.bel
  have l1 := ans_few h1.ans
  obtain ⟨a1, c1, rfl, _⟩ := own_form h1.la
  obtain ⟨b1, d1, rfl, _⟩ := own_form h1.ca
  have HO1 : Hid (World.ownsRow (w1.alloc (.cells #[.int .i64 y1.id, .string y1.fr, .string y1.dst, .int .i64 y1.dep, .int .i64 y1.arr, .slice a1 y1.la.n c1, .slice b1 y1.ca.n d1, .int .i64 y1.most] 49)) w.heap.size 89 2 (.slice a1 y1.la.n c1) y1.la.n (pairRow y1.la) ∧ World.ownsRow (w1.alloc (.cells #[.int .i64 y1.id, .string y1.fr, .string y1.dst, .int .i64 y1.dep, .int .i64 y1.arr, .slice a1 y1.la.n c1, .slice b1 y1.ca.n d1, .int .i64 y1.most] 49)) w.heap.size 91 2 (.slice b1 y1.ca.n d1) y1.ca.n (pairRow y1.ca)) := ⟨own_below (push (Below.refl _ _) _) h1.la, own_below (push (Below.refl _ _) _) h1.ca⟩
  have HI1 : Hid (PairsAt (w1.alloc (.cells #[.int .i64 y1.id, .string y1.fr, .string y1.dst, .int .i64 y1.dep, .int .i64 y1.arr, .slice a1 y1.la.n c1, .slice b1 y1.ca.n d1, .int .i64 y1.most] 49)) a1 y1.la ∧ PairsAt (w1.alloc (.cells #[.int .i64 y1.id, .string y1.fr, .string y1.dst, .int .i64 y1.dep, .int .i64 y1.arr, .slice a1 y1.la.n c1, .slice b1 y1.ca.n d1, .int .i64 y1.most] 49)) b1 y1.ca) := ⟨pairs_of_own HO1.out.1, pairs_of_own HO1.out.2⟩
  have X1 := heap_alloc_new w1 (.cells #[.int .i64 y1.id, .string y1.fr, .string y1.dst, .int .i64 y1.dep, .int .i64 y1.arr, .slice a1 y1.la.n c1, .slice b1 y1.ca.n d1, .int .i64 y1.most] 49)
  have q1 : Below w.heap.size w (w1.alloc (.cells #[.int .i64 y1.id, .string y1.fr, .string y1.dst, .int .i64 y1.dep, .int .i64 y1.arr, .slice a1 y1.la.n c1, .slice b1 y1.ca.n d1, .int .i64 y1.most] 49)) := push h1.bel _
  have P1 := push hB1 (.cells #[.int .i64 y1.id, .string y1.fr, .string y1.dst, .int .i64 y1.dep, .int .i64 y1.arr, .slice a1 y1.la.n c1, .slice b1 y1.ca.n d1, .int .i64 y1.most] 49)
  clear h1 hB1
  go_upto_region 4 with fail
  generalize w1.alloc (.cells #[.int .i64 y1.id, .string y1.fr, .string y1.dst, .int .i64 y1.dep, .int .i64 y1.arr, .slice a1 y1.la.n c1, .slice b1 y1.ca.n d1, .int .i64 y1.most] 49) = W1 at HO1 HI1 X1 q1 P1 ⊢
  clear q1 d0 d1'
  go_wp2_with fail
  refine (implReadS_any s W1 hs (HF.out.1.below P1) (HF.out.2.below P1)).mono ?_
  rintro e w2 ⟨y2, vl, vc, k2, rfl, h2⟩
  have HR2 : Hid (AnsS s y2 k2) := h2.ans
  have hB2 := after P1 h2.bel
  have l2 := ans_few h2.ans
  obtain ⟨a2, c2, rfl, _⟩ := own_form h2.la
  obtain ⟨b2, d2, rfl, _⟩ := own_form h2.ca
  have HO2 : Hid (World.ownsRow (w2.alloc (.cells #[.int .i64 y2.id, .string y2.fr, .string y2.dst, .int .i64 y2.dep, .int .i64 y2.arr, .slice a2 y2.la.n c2, .slice b2 y2.ca.n d2, .int .i64 y2.most] 49)) W1.heap.size 89 2 (.slice a2 y2.la.n c2) y2.la.n (pairRow y2.la) ∧ World.ownsRow (w2.alloc (.cells #[.int .i64 y2.id, .string y2.fr, .string y2.dst, .int .i64 y2.dep, .int .i64 y2.arr, .slice a2 y2.la.n c2, .slice b2 y2.ca.n d2, .int .i64 y2.most] 49)) W1.heap.size 91 2 (.slice b2 y2.ca.n d2) y2.ca.n (pairRow y2.ca)) := ⟨own_below (push (Below.refl _ _) _) h2.la, own_below (push (Below.refl _ _) _) h2.ca⟩
  have HI2 : Hid (PairsAt (w2.alloc (.cells #[.int .i64 y2.id, .string y2.fr, .string y2.dst, .int .i64 y2.dep, .int .i64 y2.arr, .slice a2 y2.la.n c2, .slice b2 y2.ca.n d2, .int .i64 y2.most] 49)) a2 y2.la ∧ PairsAt (w2.alloc (.cells #[.int .i64 y2.id, .string y2.fr, .string y2.dst, .int .i64 y2.dep, .int .i64 y2.arr, .slice a2 y2.la.n c2, .slice b2 y2.ca.n d2, .int .i64 y2.most] 49)) b2 y2.ca) := ⟨pairs_of_own HO2.out.1, pairs_of_own HO2.out.2⟩
  have X2 := heap_alloc_new w2 (.cells #[.int .i64 y2.id, .string y2.fr, .string y2.dst, .int .i64 y2.dep, .int .i64 y2.arr, .slice a2 y2.la.n c2, .slice b2 y2.ca.n d2, .int .i64 y2.most] 49)
  have q2 : Below W1.heap.size W1 (w2.alloc (.cells #[.int .i64 y2.id, .string y2.fr, .string y2.dst, .int .i64 y2.dep, .int .i64 y2.arr, .slice a2 y2.la.n c2, .slice b2 y2.ca.n d2, .int .i64 y2.most] 49)) := push h2.bel _
  have P2 := push hB2 (.cells #[.int .i64 y2.id, .string y2.fr, .string y2.dst, .int .i64 y2.dep, .int .i64 y2.arr, .slice a2 y2.la.n c2, .slice b2 y2.ca.n d2, .int .i64 y2.most] 49)
  clear h2 hB2
  go_upto_region 5 with fail
  generalize w2.alloc (.cells #[.int .i64 y2.id, .string y2.fr, .string y2.dst, .int .i64 y2.dep, .int .i64 y2.arr, .slice a2 y2.la.n c2, .slice b2 y2.ca.n d2, .int .i64 y2.most] 49) = W2 at HO2 HI2 X2 q2 P2 ⊢
  obtain ⟨hkk, hsm⟩ := ans_same HR2.out HR1.out
  have HSM2 : Hid (SameSail y2 y1) := hsm
  subst hkk
  have kn : (k2 != k2) = false := by simp
  have kn' : (k2 == k2) = true := by simp
  clear hsm
  have x1 : W2.heap[w1.heap.size]? = some (.cells #[.int .i64 y2.id, .string y2.fr, .string y2.dst, .int .i64 y2.dep, .int .i64 y2.arr, .slice a1 y2.la.n c1, .slice b1 y2.ca.n d1, .int .i64 y2.most] 49 (0, 0)) := by
    have h := blk_below X1 q2
    rw [← HSM2.out.id, ← HSM2.out.fr, ← HSM2.out.dst, ← HSM2.out.dep, ← HSM2.out.arr, ← HSM2.out.most, ← HSM2.out.la.1, ← HSM2.out.ca.1] at h
    exact h
  have p0 := blk_cell x1 0 _ rfl
  have p1 := blk_cell x1 1 _ rfl
  have p2 := blk_cell x1 2 _ rfl
  have p3 := blk_cell x1 3 _ rfl
  have p4 := blk_cell x1 4 _ rfl
  have p5 := blk_cell x1 5 _ rfl
  have p6 := blk_cell x1 6 _ rfl
  have p7 := blk_cell x1 7 _ rfl
  have r0 := blk_cell X2 0 _ rfl
  have r1 := blk_cell X2 1 _ rfl
  have r2 := blk_cell X2 2 _ rfl
  have r3 := blk_cell X2 3 _ rfl
  have r4 := blk_cell X2 4 _ rfl
  have r5 := blk_cell X2 5 _ rfl
  have r6 := blk_cell X2 6 _ rfl
  have r7 := blk_cell X2 7 _ rfl
  go_wp2_with fail
  refine (eqSailing_same _ _ _ _ _ _ a2 b2 a1 b1 y2.la.n y2.ca.n c2 d2 c1 d1 y2.la y2.ca W2 rfl rfl (by omega) (by omega) HI2.out.1 HI2.out.2 (pairs_same (HI1.out.1.below q2) HSM2.out.la) (pairs_same (HI1.out.2.below q2) HSM2.out.ca)).mono ?_
  rintro e w3 ⟨rfl, hb3⟩
  have B3 := after q2 hb3
  have P3 := after P2 hb3
  have X3 := blk_below X2 hb3
  have HO3 : Hid (w3.ownsRow W1.heap.size 89 2 (.slice a2 y2.la.n c2) y2.la.n (pairRow y2.la) ∧ w3.ownsRow W1.heap.size 91 2 (.slice b2 y2.ca.n d2) y2.ca.n (pairRow y2.ca)) := ⟨own_below hb3 HO2.out.1, own_below hb3 HO2.out.2⟩
  clear p0 p1 p2 p3 p4 p5 p6 p7 r0 r1 r2 r3 r4 r5 r6 r7 x1 HO2 HI2 hb3 q2 P2 X2
  have r0 := blk_cell X3 0 _ rfl
  have r1 := blk_cell X3 1 _ rfl
  have r2 := blk_cell X3 2 _ rfl
  have r3 := blk_cell X3 3 _ rfl
  have r4 := blk_cell X3 4 _ rfl
  have r5 := blk_cell X3 5 _ rfl
  have r6 := blk_cell X3 6 _ rfl
  have r7 := blk_cell X3 7 _ rfl
  go_wp2_with fail
  refine (markSail_own _ _ _ _ _ _ a2 b2 c2 d2 W1.heap.size y2.la y2.ca w3 l2.1 l2.2.1 HO3.out.1 HO3.out.2).mono ?_
  rintro e w4 ⟨rfl, HZ4, hk4⟩
  have hlo : ∀ k, ((Value.slice a2 y2.la.n c2).ownBlock = some k ∨ (Value.slice b2 y2.ca.n d2).ownBlock = some k) → W1.heap.size ≤ k ∧ k ≠ w2.heap.size := by
    rintro k (h | h)
    · exact ⟨(World.ownsRow.lt HO3.out.1 k h).1, own_notT HO3.out.1 X3 (by decide) k h⟩
    · exact ⟨(World.ownsRow.lt HO3.out.2 k h).1, own_notT HO3.out.2 X3 (by decide) k h⟩
  have B4 : Below W1.heap.size W1 w4 := Kept.below B3 B3.size hk4 (fun k hk => (hlo k hk).1)
  have P4 : Below w.heap.size w w4 := Kept.below P3 P3.size hk4 (fun k hk => by have := (hlo k hk).1; have := P1.size; omega)
  have X4 := hk4.blk X3 (fun h => (hlo _ h).2 rfl)
  obtain ⟨z, hz⟩ : ∃ z : Nat, z = 1 + 2 * y2.la.n + 2 * y2.ca.n := ⟨_, rfl⟩
  rw [← hz]
  have HZZ : Hid (z = 1 + 2 * y2.la.n + 2 * y2.ca.n) := hz
  have HHS : Hid (∀ W, PairsAt W a2 (markP 1 y2.la) ∧ PairsAt W b2 (markP (1 + 2 * y2.la.n) y2.ca) → Calls Tryd.prog 24 #[.agg #[.int .i64 y2.id, .string y2.fr, .string y2.dst, .int .i64 y2.dep, .int .i64 y2.arr, .slice a2 y2.la.n c2, .slice b2 y2.ca.n d2, .int .i64 y2.most], .int .i64 1] W fun e' w' => e' = .returned (.int .i64 (z : Int)) ∧ Below W.heap.size W w') := fun W h => by
    rw [HZZ.out]
    exact heldSail_yes _ _ _ _ _ _ a2 b2 c2 d2 y2.la y2.ca W l2.1 l2.2.1 h
  have nn : decide ((z : Int) < 0) = false := decide_eq_false (by omega)
  have nn' : ¬ (z : Int) < 0 := by omega
  have ne : ((z : Int) != (z : Int)) = false := by simp
  clear r0 r1 r2 r3 r4 r5 r6 r7 B3 P3 X3 HO3 hk4 hlo hz
  have r0 := blk_cell X4 0 _ rfl
  have r1 := blk_cell X4 1 _ rfl
  have r2 := blk_cell X4 2 _ rfl
  have r3 := blk_cell X4 3 _ rfl
  have r4 := blk_cell X4 4 _ rfl
  have r5 := blk_cell X4 5 _ rfl
  have r6 := blk_cell X4 6 _ rfl
  have r7 := blk_cell X4 7 _ rfl
  go_wp2_with fail
  refine (HHS.out w4 HZ4.out).mono ?_
  rintro e w5 ⟨rfl, hb5⟩
  have B5 := after B4 hb5
  have P5 := after P4 hb5
  have X5 := blk_below X4 hb5
  have HZ5 : Hid (PairsAt w5 a2 (markP 1 y2.la) ∧ PairsAt w5 b2 (markP (1 + 2 * y2.la.n) y2.ca)) := ⟨HZ4.out.1.below hb5, HZ4.out.2.below hb5⟩
  clear r0 r1 r2 r3 r4 r5 r6 r7 B4 P4 X4 HZ4 hb5
  go_wp2_with fail
  refine (implReadS_any s w5 hs (HF.out.1.below P5) (HF.out.2.below P5)).mono ?_
  rintro e w6 ⟨y3, vl, vc, k3, rfl, h3⟩
  have HR3 : Hid (AnsS s y3 k3) := h3.ans
  have hB3 := after P5 h3.bel
  have l3 := ans_few h3.ans
  obtain ⟨a3, c3, rfl, _⟩ := own_form h3.la
  obtain ⟨b3, d3, rfl, _⟩ := own_form h3.ca
  have HO3 : Hid (World.ownsRow (w6.alloc (.cells #[.int .i64 y3.id, .string y3.fr, .string y3.dst, .int .i64 y3.dep, .int .i64 y3.arr, .slice a3 y3.la.n c3, .slice b3 y3.ca.n d3, .int .i64 y3.most] 49)) w5.heap.size 89 2 (.slice a3 y3.la.n c3) y3.la.n (pairRow y3.la) ∧ World.ownsRow (w6.alloc (.cells #[.int .i64 y3.id, .string y3.fr, .string y3.dst, .int .i64 y3.dep, .int .i64 y3.arr, .slice a3 y3.la.n c3, .slice b3 y3.ca.n d3, .int .i64 y3.most] 49)) w5.heap.size 91 2 (.slice b3 y3.ca.n d3) y3.ca.n (pairRow y3.ca)) := ⟨own_below (push (Below.refl _ _) _) h3.la, own_below (push (Below.refl _ _) _) h3.ca⟩
  have HI3 : Hid (PairsAt (w6.alloc (.cells #[.int .i64 y3.id, .string y3.fr, .string y3.dst, .int .i64 y3.dep, .int .i64 y3.arr, .slice a3 y3.la.n c3, .slice b3 y3.ca.n d3, .int .i64 y3.most] 49)) a3 y3.la ∧ PairsAt (w6.alloc (.cells #[.int .i64 y3.id, .string y3.fr, .string y3.dst, .int .i64 y3.dep, .int .i64 y3.arr, .slice a3 y3.la.n c3, .slice b3 y3.ca.n d3, .int .i64 y3.most] 49)) b3 y3.ca) := ⟨pairs_of_own HO3.out.1, pairs_of_own HO3.out.2⟩
  have X3 := heap_alloc_new w6 (.cells #[.int .i64 y3.id, .string y3.fr, .string y3.dst, .int .i64 y3.dep, .int .i64 y3.arr, .slice a3 y3.la.n c3, .slice b3 y3.ca.n d3, .int .i64 y3.most] 49)
  have q3 : Below w5.heap.size w5 (w6.alloc (.cells #[.int .i64 y3.id, .string y3.fr, .string y3.dst, .int .i64 y3.dep, .int .i64 y3.arr, .slice a3 y3.la.n c3, .slice b3 y3.ca.n d3, .int .i64 y3.most] 49)) := push h3.bel _
  have P3 := push hB3 (.cells #[.int .i64 y3.id, .string y3.fr, .string y3.dst, .int .i64 y3.dep, .int .i64 y3.arr, .slice a3 y3.la.n c3, .slice b3 y3.ca.n d3, .int .i64 y3.most] 49)
  clear h3 hB3
  go_upto_region 16 with fail
  generalize w6.alloc (.cells #[.int .i64 y3.id, .string y3.fr, .string y3.dst, .int .i64 y3.dep, .int .i64 y3.arr, .slice a3 y3.la.n c3, .slice b3 y3.ca.n d3, .int .i64 y3.most] 49) = W6 at HO3 HI3 X3 q3 P3 ⊢
  obtain ⟨hkk, hsm⟩ := ans_same HR3.out HR1.out
  have HSM3 : Hid (SameSail y3 y1) := hsm
  subst hkk
  have kn : (k3 != k3) = false := by simp
  have kn' : (k3 == k3) = true := by simp
  clear hsm
  have B6 := after B5 q3
  have x1 : W6.heap[w1.heap.size]? = some (.cells #[.int .i64 y3.id, .string y3.fr, .string y3.dst, .int .i64 y3.dep, .int .i64 y3.arr, .slice a1 y3.la.n c1, .slice b1 y3.ca.n d1, .int .i64 y3.most] 49 (0, 0)) := by
    have h := blk_below X1 B6
    rw [← HSM3.out.id, ← HSM3.out.fr, ← HSM3.out.dst, ← HSM3.out.dep, ← HSM3.out.arr, ← HSM3.out.most, ← HSM3.out.la.1, ← HSM3.out.ca.1] at h
    exact h
  have X6 := blk_below X5 q3
  have HZ6 : Hid (PairsAt W6 a2 (markP 1 y2.la) ∧ PairsAt W6 b2 (markP (1 + 2 * y2.la.n) y2.ca)) := ⟨HZ5.out.1.below q3, HZ5.out.2.below q3⟩
  have p0 := blk_cell x1 0 _ rfl
  have p1 := blk_cell x1 1 _ rfl
  have p2 := blk_cell x1 2 _ rfl
  have p3 := blk_cell x1 3 _ rfl
  have p4 := blk_cell x1 4 _ rfl
  have p5 := blk_cell x1 5 _ rfl
  have p6 := blk_cell x1 6 _ rfl
  have p7 := blk_cell x1 7 _ rfl
  have r0 := blk_cell X3 0 _ rfl
  have r1 := blk_cell X3 1 _ rfl
  have r2 := blk_cell X3 2 _ rfl
  have r3 := blk_cell X3 3 _ rfl
  have r4 := blk_cell X3 4 _ rfl
  have r5 := blk_cell X3 5 _ rfl
  have r6 := blk_cell X3 6 _ rfl
  have r7 := blk_cell X3 7 _ rfl
  go_wp2_with fail
  refine (eqSailing_same _ _ _ _ _ _ a3 b3 a1 b1 y3.la.n y3.ca.n c3 d3 c1 d1 y3.la y3.ca W6 rfl rfl (by omega) (by omega) HI3.out.1 HI3.out.2 (pairs_same (HI1.out.1.below B6) HSM3.out.la) (pairs_same (HI1.out.2.below B6) HSM3.out.ca)).mono ?_
  rintro e w7 ⟨rfl, hb7⟩
  have P7 := after P3 hb7
  have X7 := blk_below X6 hb7
  have HZ7 : Hid (PairsAt w7 a2 (markP 1 y2.la) ∧ PairsAt w7 b2 (markP (1 + 2 * y2.la.n) y2.ca)) := ⟨HZ6.out.1.below hb7, HZ6.out.2.below hb7⟩
  clear p0 p1 p2 p3 p4 p5 p6 p7 r0 r1 r2 r3 r4 r5 r6 r7 x1 X6 HZ6 HZ5 hb7 q3 P3 B6 B5 X5 HO3 HI3 X3
  have r0 := blk_cell X7 0 _ rfl
  have r1 := blk_cell X7 1 _ rfl
  have r2 := blk_cell X7 2 _ rfl
  have r3 := blk_cell X7 3 _ rfl
  have r4 := blk_cell X7 4 _ rfl
  have r5 := blk_cell X7 5 _ rfl
  have r6 := blk_cell X7 6 _ rfl
  have r7 := blk_cell X7 7 _ rfl
  go_wp2_with fail
  refine (HHS.out w7 HZ7.out).mono ?_
  rintro e w8 ⟨rfl, hb8⟩
  have P8 := after P7 hb8
  go_wp2
  go_ret
  exact ⟨rfl, P8⟩

end Go.Proofs.YtfbooamjddnagaaDoor

namespace Go.Proofs.YtfbooamjddnagaaDoor
open Go.ChangeShapes Go.WideShapes Go.ChangeAt Go.RowKit Go.Deep

section
variable {H : Type} {enc : TypeId × Value → H} {P : Program} {w : World} {base : Nat} {spare : Nat → Bool} {held : Bool}

/-- How a list's datum tells its length. -/
def LenIs (d : DataW H) (n : Nat) : Prop := (d = .nil ∧ n = 0) ∨ ∃ els rest, d = .slice els rest ∧ els.length = n

theorem view_ints {t e fuel : Nat} {v : Value} {x : DataW H × List MemPlace} (ht : P.underlying t = some (.slice e)) (he : P.underlying e = some (.int .i64)) (hc : P.cellsOf e = 1)
    (h : DataW.trod enc P w base spare held fuel t [v] = some x) :
    ∃ ao n cap F, v = .slice ao n cap ∧ n ≤ cap ∧ cap ≤ maxLen ∧ (ao = none → n = 0 ∧ cap = 0) ∧ IntsAt w ao n F ∧ LenIs x.1 n := by
  rcases open_ints ht he hc h with ⟨hcs, hx⟩ | ⟨a, n, cap, zs, hcs, _, hl, hm, hz, hx, hcell, _⟩
  · simp at hcs
    subst hcs
    refine ⟨none, 0, 0, fun _ => 0, rfl, Nat.le_refl _, Nat.zero_le _, fun _ => ⟨rfl, rfl⟩, fun k hk => by omega, .inl ⟨by rw [hx], rfl⟩⟩
  · simp at hcs
    subst hcs
    have hzl : n ≤ zs.length := by rw [hz]; split <;> omega
    refine ⟨some a, n, cap, fun k => zs.getD k 0, rfl, hl, hm, (fun h => by cases h), (fun k hk => ?_), .inr ⟨_, _, by rw [hx], by simp [lits]; omega⟩⟩
    obtain ⟨b, off, rfl, hc2⟩ := ints_at hcell (by omega)
    exact ⟨b, off, rfl, hc2 k (by omega)⟩

theorem view_slots {t e fuel ti tb : Nat} {f0 f1 f2 : Field} {v : Value} {x : DataW H × List MemPlace} (ht : P.underlying t = some (.slice e)) (he : P.underlying e = some (.struct #[f0, f1, f2])) (hc : P.cellsOf e = 3)
    (t0 : f0.type = ti) (t1 : f1.type = tb) (t2 : f2.type = ti) (o0 : f0.offset = 0) (o1 : f1.offset = 1) (o2 : f2.offset = 2)
    (hi : P.underlying ti = some (.int .i64)) (hb : P.underlying tb = some .bool) (ci : P.cellsOf ti = 1) (cb : P.cellsOf tb = 1)
    (h : DataW.trod enc P w base spare held fuel t [v] = some x) :
    ∃ ao n cap A U V, v = .slice ao n cap ∧ n ≤ cap ∧ cap ≤ maxLen ∧ (ao = none → n = 0 ∧ cap = 0) ∧ SlotsAt w ao n A U V ∧ LenIs x.1 n := by
  rcases open_slice ht h with ⟨hcs, hx⟩ | ⟨a, n, cap, m, fl, D, Pl, hcs, _, hl, hm, hmm, hx, hcell⟩
  · simp at hcs
    subst hcs
    refine ⟨none, 0, 0, fun _ => 0, fun _ => false, fun _ => 0, rfl, Nat.le_refl _, Nat.zero_le _, fun _ => ⟨rfl, rfl⟩, fun k hk => by omega, .inl ⟨by rw [hx], rfl⟩⟩
  · simp at hcs
    subst hcs
    have hnm : n ≤ m := by rw [hmm]; split <;> omega
    by_cases hn0 : n = 0
    · subst hn0
      exact ⟨some a, 0, cap, fun _ => 0, fun _ => false, fun _ => 0, rfl, hl, hm, (fun h => by cases h), (fun k hk => by omega), .inr ⟨_, _, by rw [hx], by simp⟩⟩
    have hspot : a.spot = none := by
      obtain ⟨cs, hcl, _⟩ := hcell 0 (by omega)
      rw [hc] at hcl
      obtain ⟨_, hlen, hget⟩ := World.cells?_some hcl
      have g0 := hget 0 (by omega)
      rw [List.getElem?_eq_getElem (by omega)] at g0
      have := World.cell?_spot g0
      simpa [Addr.add] using this
    obtain ⟨b, off, spot⟩ := a
    simp only at hspot
    subst hspot
    have key : ∀ k, k < n → ∃ (y : Int × Bool × Int), w.cell? ⟨b, off + k * 3, none⟩ = some (.int .i64 y.1) ∧ w.cell? ⟨b, off + k * 3 + 1, none⟩ = some (.bool y.2.1) ∧ w.cell? ⟨b, off + k * 3 + 2, none⟩ = some (.int .i64 y.2.2) := by
      intro k hk
      obtain ⟨cs, hcl, htr⟩ := hcell k (by omega)
      rw [hc] at hcl
      obtain ⟨_, hlen, hget⟩ := World.cells?_some hcl
      obtain ⟨y0, y1, y2, n', _, _, h0, h1, h2⟩ := trod_struct3 he htr
      rw [t0, o0, ci] at h0
      rw [t1, o1, cb] at h1
      rw [t2, o2, ci] at h2
      match cs, hlen with
      | [p, q, r], _ =>
        obtain ⟨i0, e0, _, _⟩ := DataW.trod_int hi h0
        obtain ⟨i1, e1, _⟩ := DataW.trod_bool hb h1
        obtain ⟨i2, e2, _, _⟩ := DataW.trod_int hi h2
        simp at e0 e1 e2
        subst e0 e1 e2
        have g0 := hget 0 (by omega)
        have g1 := hget 1 (by omega)
        have g2 := hget 2 (by omega)
        simp only [List.getElem?_cons_zero, List.getElem?_cons_succ, Addr.add_lit, Nat.add_zero] at g0 g1 g2
        exact ⟨(i0, i1, i2), g0, g1, g2⟩
    obtain ⟨f, hf⟩ := choose_lt key
    exact ⟨some ⟨b, off, none⟩, n, cap, fun k => (f k).1, fun k => (f k).2.1, fun k => (f k).2.2, rfl, hl, hm, (fun h => by cases h), (fun k hk => ⟨b, off, rfl, hf k hk⟩), .inr ⟨_, _, by rw [hx], by simp⟩⟩

/-- The reach of a list: so many elements at most. -/
theorem len_reach {t e n : Nat} {d : DataW H} {bytes : Nat} (ht : P.underlying t = some (.slice e)) (hb : P.bytesOf e = bytes) (hd : LenIs d n) (hw : ∀ x ∈ DataW.weights P t d, x ≤ reachBytes) : n * bytes ≤ reachBytes := by
  rcases hd with ⟨_, rfl⟩ | ⟨els, rest, rfl, rfl⟩
  · omega
  · have := hw ((els.length + rest.length) * P.bytesOf e) (by simp [DataW.weights, ht])
    rw [hb] at this
    exact Nat.le_trans (Nat.mul_le_mul_right _ (Nat.le_add_right _ _)) this

end
end Go.Proofs.YtfbooamjddnagaaDoor
