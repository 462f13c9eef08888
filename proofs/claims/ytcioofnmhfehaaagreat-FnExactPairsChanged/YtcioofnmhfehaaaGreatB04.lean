/-
  OWN TEXT: LSail, LSails, KitD.
-/
import Derived.Test.YtcioofnmhfehaaaGreatB03
import Derived.Test.YtcioofnmhfehaaaGreatB01
import Derived.Test.YtcioofnmhfehaaaGreatB00
namespace Go.Proofs.YtcioofnmhfehaaaGreat
open Go.RowKit

/-- A sailing's texts and lists have B places at most. -/
def ShortS (s : Sail) (B : Nat) : Prop := s.fr.size ≤ B ∧ s.dst.size ≤ B ∧ s.la.n ≤ B ∧ s.ca.n ≤ B

set_option maxHeartbeats 800000 in
theorem szSailing_any (x d a mo : Int) (fr tt : ByteArray) (lo co : Option Addr) (n m c1 c2 : Nat) (L : Int) (w : World) (h0 : 0 ≤ L) (hL : L ≤ 1048576) (hf : fr.size ≤ 1000000000000000) (ht : tt.size ≤ 1000000000000000) (hn : n ≤ 1000000000000000) (hm : m ≤ 1000000000000000) :
    Calls Tryz.prog 31 #[.agg #[.int .i64 x, .string fr, .string tt, .int .i64 d, .int .i64 a, .slice lo n c1, .slice co m c2, .int .i64 mo], .int .i64 L] w fun e w' => ∃ r : Int, e = .returned (.int .i64 r) ∧ (r = -1 ∨ (0 ≤ r ∧ r ≤ L ∧ fr.size ≤ 1048576 ∧ tt.size ≤ 1048576 ∧ n ≤ 1048576 ∧ m ≤ 1048576)) ∧ Below w.heap.size w w' := by
  have hb0 : Below w.heap.size w (w.alloc (.cells #[.int .i64 x, .string fr, .string tt, .int .i64 d, .int .i64 a, .slice lo n c1, .slice co m c2, .int .i64 mo] 79)) := push (Below.refl _ _) _
  have hA0 := heap_alloc_new w (.cells #[.int .i64 x, .string fr, .string tt, .int .i64 d, .int .i64 a, .slice lo n c1, .slice co m c2, .int .i64 mo] 79)
  by_cases g1 : (fr.size : Int) ≤ L
  · by_cases g2 : (tt.size : Int) ≤ L - fr.size
    · have e1 : decide (L - (fr.size : Int) < 0) = false := by simp; omega
      have e2 : decide (L - (fr.size : Int) - (tt.size : Int) < 0) = false := by simp; omega
      go_enter Tryz.func31, Tryz.ntmps31
      go_wp2_with fail
      refine (szLaneS_any lo n c1 (L - fr.size - tt.size) _ (by omega) (by omega) hn).mono ?_
      rintro e w1 ⟨r, rfl, hr, hb1⟩
      have hA1 := blk_below hA0 hb1
      have hb2 := after hb0 hb1
      clear hA0 hb0 hb1 e1 e2
      rcases hr with rfl | ⟨r0, r1, r2⟩
      · go_wp2
        go_ret
        exact ⟨_, rfl, .inl rfl, hb2⟩
      · have q := blk_cell hA1 6 _ rfl
        have d0 : decide (r < 0) = false := by simpa using r0
        go_wp2_with fail
        refine (szCabinS_any co m c2 r _ r0 (by omega) hm).mono ?_
        rintro e w2 ⟨s, rfl, hs, hb3⟩
        rcases hs with rfl | ⟨s0, s1, s2⟩
        · go_wp2
          go_ret
          exact ⟨_, rfl, .inl rfl, after hb2 hb3⟩
        · have d1 : decide (s < 0) = false := by simpa using s0
          go_wp2
          go_ret
          exact ⟨_, rfl, .inr ⟨s0, by omega, by omega, by omega, r2, s2⟩, after hb2 hb3⟩
    · have e1 : decide (L - (fr.size : Int) < 0) = false := by simp; omega
      have e2 : decide (L - (fr.size : Int) - (tt.size : Int) < 0) = true := by simp; omega
      go_enter Tryz.func31, Tryz.ntmps31
      go_wp2
      go_ret
      exact ⟨_, rfl, .inl rfl, hb0⟩
  · have e1 : decide (L - (fr.size : Int) < 0) = true := by simp; omega
    go_enter Tryz.func31, Tryz.ntmps31
    go_wp2
    go_ret
    exact ⟨_, rfl, .inl rfl, hb0⟩

set_option maxHeartbeats 1600000 in
set_option maxRecDepth 100000 in
theorem toSailing_any (x d a mo : Int) (fr tt : ByteArray) (lo co : Option Addr) (n m c1 c2 : Nat) (l1 l2 : Pairs) (w : World) (e1 : l1.n = n) (e2 : l2.n = m) (hn : n ≤ 1048576) (hm : m ≤ 1048576) (hx : PairsAt w lo l1) (hy : PairsAt w co l2) :
    Calls Tryz.prog 36 #[.agg #[.int .i64 x, .string fr, .string tt, .int .i64 d, .int .i64 a, .slice lo n c1, .slice co m c2, .int .i64 mo]] w fun e w' => ∃ p q, e = .returned (.agg #[.int .i64 x, .string fr, .string tt, .int .i64 d, .int .i64 a, .slice (some ⟨p, 0, none⟩) n n, .slice (some ⟨q, 0, none⟩) m m, .int .i64 mo]) ∧ w.heap.size ≤ p ∧ p < q ∧
      w'.rowIs p 93 (n * 2) (pairCell l1) ∧ w'.rowIs q 95 (m * 2) (pairCell l2) ∧ Below w.heap.size w w' := by
  have E1 : Hid (l1.n = n) := e1
  have E2 : Hid (l2.n = m) := e2
  clear e1 e2
  go_enter Tryz.func36, Tryz.ntmps36
  go_wp2_with fail
  obtain ⟨W0, hW0⟩ : ∃ W, W = (((w.alloc (.cells #[.int .i64 x, .string fr, .string tt, .int .i64 d, .int .i64 a, .slice lo n c1, .slice co m c2, .int .i64 mo] 79)).alloc (.cells #[.int .i64 0, .string ⟨#[]⟩, .string ⟨#[]⟩, .int .i64 0, .int .i64 0, .slice none 0 0, .slice none 0 0, .int .i64 0] 50)).alloc (.cells #[.int .i64 x, .string fr, .string tt, .int .i64 d, .int .i64 a, .slice none 0 0, .slice none 0 0, .int .i64 0] 50)) := ⟨_, rfl⟩
  have h0 : Below w.heap.size w W0 := by rw [hW0]; exact push (push (push (Below.refl _ _) _) _) _
  have A0 : W0.heap[w.heap.size]? = some (.cells #[.int .i64 x, .string fr, .string tt, .int .i64 d, .int .i64 a, .slice lo n c1, .slice co m c2, .int .i64 mo] 79 (0, 0)) := by rw [hW0]; exact blk_alloc (blk_alloc (heap_alloc_new w _) _) _
  have R0 : W0.heap[w.heap.size + 1]? = some (.cells #[.int .i64 0, .string ⟨#[]⟩, .string ⟨#[]⟩, .int .i64 0, .int .i64 0, .slice none 0 0, .slice none 0 0, .int .i64 0] 50 (0, 0)) := by rw [hW0]; exact blk_alloc (by simpa using heap_alloc_new (w.alloc _) _) _
  have O0 : W0.heap[w.heap.size + 1 + 1]? = some (.cells #[.int .i64 x, .string fr, .string tt, .int .i64 d, .int .i64 a, .slice none 0 0, .slice none 0 0, .int .i64 0] 50 (0, 0)) := by rw [hW0]; simpa using heap_alloc_new ((w.alloc _).alloc _) _
  rw [← hW0]
  clear hW0
  refine (toLaneS_any lo n c1 l1 _ E1.out hn (hx.below h0)).mono ?_
  rintro e w1 ⟨g, rfl, hg, hrow, hb1⟩
  have A1 := blk_below A0 hb1
  have R1 := blk_below R0 hb1
  have O1 := blk_below O0 hb1
  have hbw := after h0 hb1
  have hgl : w.heap.size + 1 + 1 < g := by have := blk_lt O0; omega
  clear h0 A0 R0 O0 hb1 hg
  have q1 := blk_cell A1 6 _ rfl
  have q2 := blk_cell O1 5 _ rfl
  have q3 := blk_free O1 5
  go_wp2_with fail
  obtain ⟨W, hW⟩ : ∃ W, W = w1.setCell ⟨w.heap.size + 1 + 1, 5, none⟩ (.slice (some ⟨g, 0, none⟩) n n) := ⟨_, rfl⟩
  have A2 : W.heap[w.heap.size]? = some (.cells #[.int .i64 x, .string fr, .string tt, .int .i64 d, .int .i64 a, .slice lo n c1, .slice co m c2, .int .i64 mo] 79 (0, 0)) := by rw [hW]; exact blk_set_other A1 _ _ (by omega)
  have r2 : W.heap[w.heap.size + 1]? = some (.cells #[.int .i64 0, .string ⟨#[]⟩, .string ⟨#[]⟩, .int .i64 0, .int .i64 0, .slice none 0 0, .slice none 0 0, .int .i64 0] 50 (0, 0)) := by rw [hW]; exact blk_set_other R1 _ _ (by omega)
  have o2 : W.heap[w.heap.size + 1 + 1]? = some (.cells #[.int .i64 x, .string fr, .string tt, .int .i64 d, .int .i64 a, .slice (some ⟨g, 0, none⟩) n n, .slice none 0 0, .int .i64 0] 50 (0, 0)) := by rw [hW]; exact blk_set O1 5 _
  have hrow2 : W.rowIs g 93 (n * 2) (pairCell l1) := by rw [hW]; exact hrow.setOther (by show g ≠ w.heap.size + 1 + 1; omega) _
  have hbW : Below w.heap.size w W := by rw [hW]; exact hbw.setCell (by show w.heap.size ≤ w.heap.size + 1 + 1; omega) _
  rw [← hW]
  clear hW q1 q2 q3 hrow hbw A1 R1 O1
  refine (toCabinS_any co m c2 l2 _ E2.out hm (hy.below hbW)).mono ?_
  rintro e w2 ⟨g2, rfl, hg2, hrow3, hb2⟩
  have A3 := blk_below A2 hb2
  have r3 := blk_below r2 hb2
  have o3 := blk_below o2 hb2
  have hrow4 := row_below hrow2 hb2
  have hbw2 := after hbW hb2
  have hne : g < g2 := by have := hrow2.lt; omega
  clear hb2 r2 o2 hrow2 hbW hg2 A2
  have qa := blk_cell A3 7 _ rfl
  have q0 := blk_cell o3 0 _ rfl
  have q1 := blk_cell o3 1 _ rfl
  have q2 := blk_cell o3 2 _ rfl
  have q3 := blk_cell o3 3 _ rfl
  have q4 := blk_cell o3 4 _ rfl
  have q5 := blk_cell o3 5 _ rfl
  have q6 := blk_cell o3 6 _ rfl
  have q7 := blk_cell o3 7 _ rfl
  have f6 := blk_free o3 6
  have f7 := blk_free o3 7
  have z0 := blk_free r3 0
  have z1 := blk_free r3 1
  have z2 := blk_free r3 2
  have z3 := blk_free r3 3
  have z4 := blk_free r3 4
  have z5 := blk_free r3 5
  have z6 := blk_free r3 6
  have z7 := blk_free r3 7
  have y0 := blk_cell r3 0 _ rfl
  have y1 := blk_cell r3 1 _ rfl
  have y2 := blk_cell r3 2 _ rfl
  have y3 := blk_cell r3 3 _ rfl
  have y4 := blk_cell r3 4 _ rfl
  have y5 := blk_cell r3 5 _ rfl
  have y6 := blk_cell r3 6 _ rfl
  have y7 := blk_cell r3 7 _ rfl
  go_wp2
  clear qa q0 q1 q2 q3 q4 q5 q6 q7 f6 f7 z0 z1 z2 z3 z4 z5 z6 z7 y0 y1 y2 y3 y4 y5 y6 y7
  obtain ⟨V, hV⟩ : ∃ V, V = (w2.setCell ⟨w.heap.size + 1 + 1, 6, none⟩ (.slice (some ⟨g2, 0, none⟩) m m)).setCell ⟨w.heap.size + 1 + 1, 7, none⟩ (.int .i64 mo) := ⟨_, rfl⟩
  have rV : V.heap[w.heap.size + 1]? = some (.cells #[.int .i64 0, .string ⟨#[]⟩, .string ⟨#[]⟩, .int .i64 0, .int .i64 0, .slice none 0 0, .slice none 0 0, .int .i64 0] 50 (0, 0)) := by rw [hV]; exact blk_set_other (blk_set_other r3 _ _ (by omega)) _ _ (by omega)
  have hV3 : V.rowIs g 93 (n * 2) (pairCell l1) := by rw [hV]; exact (hrow4.setOther (by show g ≠ w.heap.size + 1 + 1; omega) _).setOther (by show g ≠ w.heap.size + 1 + 1; omega) _
  have hV4 : V.rowIs g2 95 (m * 2) (pairCell l2) := by rw [hV]; exact (hrow3.setOther (by show g2 ≠ w.heap.size + 1 + 1; omega) _).setOther (by show g2 ≠ w.heap.size + 1 + 1; omega) _
  have hVb : Below w.heap.size w V := by rw [hV]; exact (hbw2.setCell (by show w.heap.size ≤ w.heap.size + 1 + 1; omega) _).setCell (by show w.heap.size ≤ w.heap.size + 1 + 1; omega) _
  rw [← hV]
  obtain ⟨F, hF⟩ : ∃ F, F = set8 V (w.heap.size + 1) 0 (.int .i64 x) (.string fr) (.string tt) (.int .i64 d) (.int .i64 a) (.slice (some ⟨g, 0, none⟩) n n) (.slice (some ⟨g2, 0, none⟩) m m) (.int .i64 mo) := ⟨_, rfl⟩
  have rF := set8_blk (v0 := .int .i64 x) (v1 := .string fr) (v2 := .string tt) (v3 := .int .i64 d) (v4 := .int .i64 a) (v5 := .slice (some ⟨g, 0, none⟩) n n) (v6 := .slice (some ⟨g2, 0, none⟩) m m) (v7 := .int .i64 mo) rV
  rw [← hF] at rF
  have hF3 : F.rowIs g 93 (n * 2) (pairCell l1) := by rw [hF]; exact set8_row hV3 (by omega)
  have hF4 : F.rowIs g2 95 (m * 2) (pairCell l2) := by rw [hF]; exact set8_row hV4 (by omega)
  have hFb : Below w.heap.size w F := by rw [hF]; exact set8_below hVb (by omega)
  have hF' : F = (((((((V.setCell ⟨w.heap.size + 1, 0, none⟩ (.int .i64 x)).setCell ⟨w.heap.size + 1, 1, none⟩ (.string fr)).setCell ⟨w.heap.size + 1, 2, none⟩ (.string tt)).setCell ⟨w.heap.size + 1, 3, none⟩ (.int .i64 d)).setCell ⟨w.heap.size + 1, 4, none⟩ (.int .i64 a)).setCell ⟨w.heap.size + 1, 5, none⟩ (.slice (some ⟨g, 0, none⟩) n n)).setCell ⟨w.heap.size + 1, 6, none⟩ (.slice (some ⟨g2, 0, none⟩) m m)).setCell ⟨w.heap.size + 1, 7, none⟩ (.int .i64 mo) := by rw [hF]; unfold set8; rfl
  rw [← hF']
  clear hF hF' hV rV hV3 hV4 hVb
  have z0 := blk_cell rF 0 _ rfl
  have z1 := blk_cell rF 1 _ rfl
  have z2 := blk_cell rF 2 _ rfl
  have z3 := blk_cell rF 3 _ rfl
  have z4 := blk_cell rF 4 _ rfl
  have z5 := blk_cell rF 5 _ rfl
  have z6 := blk_cell rF 6 _ rfl
  have z7 := blk_cell rF 7 _ rfl
  exact bodyPost_ret (v := .agg #[.int .i64 x, .string fr, .string tt, .int .i64 d, .int .i64 a, .slice (some ⟨g, 0, none⟩) n n, .slice (some ⟨g2, 0, none⟩) m m, .int .i64 mo]) (by simp [results, Tryz.results36, go_sem, z0, z1, z2, z3, z4, z5, z6, z7]) rfl ⟨g, g2, rfl, by omega, hne, hF3, hF4, hFb⟩

set_option maxHeartbeats 1600000 in
set_option maxRecDepth 100000 in
theorem eqSailing_same (x d a mo : Int) (fr tt : ByteArray) (lo co lo' co' : Option Addr) (n m c1 c2 c3 c4 : Nat) (l1 l2 : Pairs) (w : World) (e1 : l1.n = n) (e2 : l2.n = m) (hn : n ≤ 1048576) (hm : m ≤ 1048576)
    (hx : PairsAt w lo l1) (hy : PairsAt w co l2) (hx' : PairsAt w lo' l1) (hy' : PairsAt w co' l2) :
    Calls Tryz.prog 47 #[.agg #[.int .i64 x, .string fr, .string tt, .int .i64 d, .int .i64 a, .slice lo n c1, .slice co m c2, .int .i64 mo], .agg #[.int .i64 x, .string fr, .string tt, .int .i64 d, .int .i64 a, .slice lo' n c3, .slice co' m c4, .int .i64 mo]] w fun e w' => e = .returned (.bool true) ∧ Below w.heap.size w w' := by
  have E1 : Hid (l1.n = n) := e1
  have E2 : Hid (l2.n = m) := e2
  clear e1 e2
  have h0 : Below w.heap.size w ((w.alloc (.cells #[.int .i64 x, .string fr, .string tt, .int .i64 d, .int .i64 a, .slice lo n c1, .slice co m c2, .int .i64 mo] 50)).alloc (.cells #[.int .i64 x, .string fr, .string tt, .int .i64 d, .int .i64 a, .slice lo' n c3, .slice co' m c4, .int .i64 mo] 50)) := push (push (Below.refl _ _) _) _
  go_enter Tryz.func47, Tryz.ntmps47
  go_wp2_with fail
  refine (eqLaneS_same lo lo' n c1 c3 l1 _ E1.out hn (hx.below h0) (hx'.below h0)).mono ?_
  rintro e w1 ⟨rfl, hb1⟩
  have a1 : w1.heap[w.heap.size]? = some (.cells #[.int .i64 x, .string fr, .string tt, .int .i64 d, .int .i64 a, .slice lo n c1, .slice co m c2, .int .i64 mo] 50 (0, 0)) := blk_below (blk_alloc (heap_alloc_new w _) _) hb1
  have r1 : w1.heap[w.heap.size + 1]? = some (.cells #[.int .i64 x, .string fr, .string tt, .int .i64 d, .int .i64 a, .slice lo' n c3, .slice co' m c4, .int .i64 mo] 50 (0, 0)) := blk_below (by simpa using heap_alloc_new (w.alloc _) _) hb1
  have hb2 := after h0 hb1
  clear h0 hb1
  have q1 := blk_cell a1 6 _ rfl
  have q2 := blk_cell r1 6 _ rfl
  have q3 := blk_cell a1 7 _ rfl
  have q4 := blk_cell r1 7 _ rfl
  go_wp2_with fail
  refine (eqCabinS_same co co' m c2 c4 l2 _ E2.out hm (hy.below hb2) (hy'.below hb2)).mono ?_
  rintro e w2 ⟨rfl, hb3⟩
  have q5 := blk_cell (blk_below a1 hb3) 7 _ rfl
  have q6 := blk_cell (blk_below r1 hb3) 7 _ rfl
  clear q1 q2 q3 q4 a1 r1
  go_wp2
  go_ret
  exact ⟨rfl, after hb2 hb3⟩

end Go.Proofs.YtcioofnmhfehaaaGreat

namespace Go.Proofs.YtcioofnmhfehaaaGreat
open Go.RowKit

/-- All sailings' texts and lists have B places at most. -/
def ShortAll (N : Nat) (S : Nat → Sail) (B : Nat) : Prop := ∀ i, i < N → ShortS (S i) B

set_option maxHeartbeats 1600000 in
set_option maxRecDepth 100000 in
theorem szSailingS_le (ao : Option Addr) (N c : Nat) (S : Nat → Sail) (w : World) (hN : N ≤ 1000000000000000) (hs : ShortAll N S 1000000000000000) (hx : SailsAt w ao N S) :
    Calls Tryz.prog 13 #[.slice ao N c, .int .i64 1048576] w fun e w' => ∃ r : Int, e = .returned (.int .i64 r) ∧ (r = -1 ∨ (0 ≤ r ∧ r ≤ 1048576 ∧ N ≤ 1048576 ∧ ShortAll N S 1048576)) ∧ Below w.heap.size w w' := by
  have HS : Hid (ShortAll N S 1000000000000000) := hs
  clear hs
  by_cases hf : N ≤ 1048576
  · have d0 : decide ((1048576 : Int) - (N : Int) < 0) = false := by simp; omega
    go_enter Tryz.func13, Tryz.ntmps13
    go_wp2
    go_loopw [1, 5] (fun l i wr => ∃ (k : Nat) (L : Int), k ≤ N ∧ i = .int .i64 k ∧ l = .int .i64 L ∧ 0 ≤ L ∧ L ≤ 1048576 ∧ ShortAll k S 1048576 ∧ Below w.heap.size w wr) (fun _ i _ => N - (intOf i).toNat)
    case atStart => exact ⟨0, _, Nat.zero_le _, rfl, rfl, by omega, by omega, fun i hi => by omega, Below.refl _ _⟩
    case round =>
      obtain ⟨k, L, hk, rfl, rfl, l0, l1, hst, hbel⟩ := hrel
      have HT : Hid (ShortAll k S 1048576) := hst
      clear hst d0
      by_cases hlt : k < N
      · obtain ⟨b, off, la, lc, ca, cc, rfl, h0, h1, h2, h3, h4, h5, h6, h7, h8, h9, h10, h11⟩ := hx k hlt
        have hb := World.block_lt_of_cell? w _ h1
        have c0 := (hbel.cell (p := ⟨b, off + k * 8, none⟩) hb).trans h0
        have c1 := (hbel.cell (p := ⟨b, off + k * 8 + 1, none⟩) hb).trans h1
        have c2 := (hbel.cell (p := ⟨b, off + k * 8 + 2, none⟩) hb).trans h2
        have c3 := (hbel.cell (p := ⟨b, off + k * 8 + 3, none⟩) hb).trans h3
        have c4 := (hbel.cell (p := ⟨b, off + k * 8 + 4, none⟩) hb).trans h4
        have c5 := (hbel.cell (p := ⟨b, off + k * 8 + 5, none⟩) hb).trans h5
        have c6 := (hbel.cell (p := ⟨b, off + k * 8 + 6, none⟩) hb).trans h6
        have c7 := (hbel.cell (p := ⟨b, off + k * 8 + 7, none⟩) hb).trans h7
        obtain ⟨s1, s2, s3, s4⟩ := HS.out k hlt
        clear h0 h1 h2 h3 h4 h5 h6 h7 h8 h9 h10 h11
        go_wp2_with fail
        refine (szSailing_any _ _ _ _ _ _ _ _ _ _ _ _ L _ l0 l1 s1 s2 s3 s4).mono ?_
        rintro e w2 ⟨r, rfl, hr, hb3⟩
        rcases hr with rfl | ⟨r0, r1, r2, r3, r4, r5⟩
        · go_wp2
          go_ret
          exact ⟨_, rfl, .inl rfl, after hbel hb3⟩
        · have d1 : decide (r < 0) = false := by simpa using r0
          go_wp2
          go_roundw
          case rel =>
            refine ⟨k + 1, r, by omega, by go_num, rfl, r0, by omega, fun i hi => ?_, after hbel hb3⟩
            by_cases e : i = k
            · subst e; exact ⟨r2, r3, r4, r5⟩
            · exact HT.out i (by omega)
          case measure => simp [intOf]; omega
      · obtain rfl : k = N := by omega
        go_wp2
        go_ret
        exact ⟨_, rfl, .inr ⟨l0, l1, hf, HT.out⟩, hbel⟩
  · have d0 : decide ((1048576 : Int) - (N : Int) < 0) = true := by simp; omega
    go_enter Tryz.func13, Tryz.ntmps13
    go_wp2
    go_ret
    exact ⟨_, rfl, .inl rfl, Below.refl _ _⟩

theorem szSailingS_any (ao : Option Addr) (N c : Nat) (S : Nat → Sail) (w : World) (hN : N ≤ 1000000000000000) (hs : ShortAll N S 1000000000000000) (hx : SailsAt w ao N S) :
    Calls Tryz.prog 13 #[.slice ao N c, .int .i64 1048576] w fun e w' => ∃ r : Int, e = .returned (.int .i64 r) ∧ (r = -1 ∨ (0 ≤ r ∧ N ≤ 1048576 ∧ ShortAll N S 1048576)) ∧ Below w.heap.size w w' :=
  (szSailingS_le ao N c S w hN hs hx).mono fun _ _ ⟨r, e, hr, hb⟩ => ⟨r, e, hr.imp id (fun h => ⟨h.1, h.2.2⟩), hb⟩

theorem Tryz.infoSailing : (Tryz.prog.info? 50).map (fun i => (i.zero, i.size, i.bytes)) = some (some (.agg #[.int .i64 0, .string ⟨#[]⟩, .string ⟨#[]⟩, .int .i64 0, .int .i64 0, .slice none 0 0, .slice none 0 0, .int .i64 0]), 8, 112) := by kernel_rfl

set_option maxHeartbeats 1600000 in
set_option maxRecDepth 100000 in
/-- toSailingS: a copy of the sailings, each list in a row of its own. -/
theorem toSailingS_any (ao : Option Addr) (N cap : Nat) (S : Nat → Sail) (w : World) (hN : N ≤ 1048576) (hs : ShortAll N S 1048576) (hz : SailsAt w ao N S) :
    Calls Tryz.prog 19 #[.slice ao N cap] w fun e w' => ∃ g l c, e = .returned (.slice (some ⟨g, 0, none⟩) N N) ∧ SailsTo w' 50 93 95 N w.heap.size g N S l c ∧ Below w.heap.size w w' := by
  obtain ⟨i0, hi, hz0, hz1, hz2⟩ := info_parts Tryz.infoSailing
  have HS : Hid (ShortAll N S 1048576) := hs
  clear hs
  go_enter Tryz.func19, Tryz.ntmps19
  go_wp2_with (first | (at_make; refine wpList_make_full _ rfl _ _ 31 rfl w.heap.size 50 i0 _ 8 Tryz.underlying31 hi hz0 hz1 .i64 .i64 _ _ N rfl rfl rfl rfl (by rw [hz2]; omega) (by unfold maxLen; omega) (Nat.le_refl _) ?_; intro w1 hown1 hgrow1))
  go_loopw [4] (fun i wr => ∃ (k : Nat) (l c : Nat → Nat), k ≤ N ∧ i = .int .i64 k ∧ SailsTo wr 50 93 95 k w.heap.size w.heap.size N S l c ∧ Below w.heap.size w wr)
    (fun i _ => N - (intOf i).toNat)
  case atStart => exact ⟨0, fun _ => 0, fun _ => 0, Nat.zero_le _, rfl, ⟨(row_of_own hown1).congr (fun j hj => made_sails N j hj), Nat.le_refl _, fun i hi => by omega, fun i hi => by omega, fun i j _ hj => by omega⟩, (Below.refl _ _).grown hgrow1 (Nat.le_refl _) (by simp)⟩
  case round =>
    obtain ⟨k, l, c, hk, rfl, hrow, hbel⟩ := hrel
    clear hown1 hgrow1
    by_cases hlt : k < N
    · obtain ⟨b, off, la, lc, ca, cc, rfl, h0, h1, h2, h3, h4, h5, h6, h7, h8, h9, h10, h11⟩ := hz k hlt
      have hb := World.block_lt_of_cell? w _ h1
      have c0 := (hbel.cell (p := ⟨b, off + k * 8, none⟩) hb).trans h0
      have c1 := (hbel.cell (p := ⟨b, off + k * 8 + 1, none⟩) hb).trans h1
      have c2 := (hbel.cell (p := ⟨b, off + k * 8 + 2, none⟩) hb).trans h2
      have c3 := (hbel.cell (p := ⟨b, off + k * 8 + 3, none⟩) hb).trans h3
      have c4 := (hbel.cell (p := ⟨b, off + k * 8 + 4, none⟩) hb).trans h4
      have c5 := (hbel.cell (p := ⟨b, off + k * 8 + 5, none⟩) hb).trans h5
      have c6 := (hbel.cell (p := ⟨b, off + k * 8 + 6, none⟩) hb).trans h6
      have c7 := (hbel.cell (p := ⟨b, off + k * 8 + 7, none⟩) hb).trans h7
      obtain ⟨_, _, s3, s4⟩ := HS.out k hlt
      clear h0 h1 h2 h3 h4 h5 h6 h7 h10 h11
      go_wp2_with fail
      refine (toSailing_any _ _ _ _ _ _ _ _ _ _ _ _ (S k).la (S k).ca _ rfl rfl s3 s4 (h8.below hbel) (h9.below hbel)).mono ?_
      rintro e w2 ⟨a, b', rfl, ga, gab, ra, rb, hb2⟩
      have hr2 := hrow.below hb2
      have o0 := hr2.row.cell (i := k * 8) (by omega)
      have o1 := hr2.row.cell (i := k * 8 + 1) (by omega)
      have o2 := hr2.row.cell (i := k * 8 + 2) (by omega)
      have o3 := hr2.row.cell (i := k * 8 + 3) (by omega)
      have o4 := hr2.row.cell (i := k * 8 + 4) (by omega)
      have o5 := hr2.row.cell (i := k * 8 + 5) (by omega)
      have o6 := hr2.row.cell (i := k * 8 + 6) (by omega)
      have o7 := hr2.row.cell (i := k * 8 + 7) (by omega)
      have f0 := hr2.row.frozen (k * 8)
      have f1 := hr2.row.frozen (k * 8 + 1)
      have f2 := hr2.row.frozen (k * 8 + 2)
      have f3 := hr2.row.frozen (k * 8 + 3)
      have f4 := hr2.row.frozen (k * 8 + 4)
      have f5 := hr2.row.frozen (k * 8 + 5)
      have f6 := hr2.row.frozen (k * 8 + 6)
      have f7 := hr2.row.frozen (k * 8 + 7)
      clear c0 c1 c2 c3 c4 c5 c6 c7 h8 h9
      go_wp2
      go_roundw
      case rel =>
        have hg := hrow.row.lt
        have key := hr2.step (by omega) gab (fun i hi => by have := (hrow.cabins i hi).2.lt; omega) ra rb
        unfold set8 whole at key
        exact ⟨k + 1, _, _, by omega, by go_num, key, (((((((((after hbel hb2).setCell (Nat.le_refl _) _).setCell (Nat.le_refl _) _).setCell (Nat.le_refl _) _).setCell (Nat.le_refl _) _).setCell (Nat.le_refl _) _).setCell (Nat.le_refl _) _).setCell (Nat.le_refl _) _).setCell (Nat.le_refl _) _)⟩
      case measure => simp [intOf]; omega
    · obtain rfl : k = N := by omega
      go_wp2
      go_ret
      exact ⟨_, l, c, rfl, hrow, hbel⟩

set_option maxHeartbeats 1600000 in
set_option maxRecDepth 100000 in
/-- eqSailingS at two lists that are one. -/
theorem eqSailingS_same (ao bo : Option Addr) (N c1 c2 : Nat) (S : Nat → Sail) (w : World) (hN : N ≤ 1048576) (hs : ShortAll N S 1048576) (hx : SailsAt w ao N S) (hy : SailsAt w bo N S) :
    Calls Tryz.prog 25 #[.slice ao N c1, .slice bo N c2] w fun e w' => e = .returned (.bool true) ∧ Below w.heap.size w w' := by
  have HS : Hid (ShortAll N S 1048576) := hs
  clear hs
  go_enter Tryz.func25, Tryz.ntmps25
  go_wp2
  go_loopw [5] (fun i wr => ∃ k : Nat, k ≤ N ∧ i = .int .i64 k ∧ Below w.heap.size w wr) (fun i _ => N - (intOf i).toNat)
  case atStart => exact ⟨0, Nat.zero_le _, rfl, Below.refl _ _⟩
  case round =>
    obtain ⟨k, hk, rfl, hbel⟩ := hrel
    by_cases hlt : k < N
    · obtain ⟨b, off, la, lc, ca, cc, rfl, h0, h1, h2, h3, h4, h5, h6, h7, h8, h9, _, _⟩ := hx k hlt
      obtain ⟨b2, off2, la2, lc2, ca2, cc2, rfl, g0, g1, g2, g3, g4, g5, g6, g7, g8, g9, _, _⟩ := hy k hlt
      have hb := World.block_lt_of_cell? w _ h1
      have hb2 := World.block_lt_of_cell? w _ g1
      have a0 := (hbel.cell (p := ⟨b, off + k * 8, none⟩) hb).trans h0
      have a1 := (hbel.cell (p := ⟨b, off + k * 8 + 1, none⟩) hb).trans h1
      have a2 := (hbel.cell (p := ⟨b, off + k * 8 + 2, none⟩) hb).trans h2
      have a3 := (hbel.cell (p := ⟨b, off + k * 8 + 3, none⟩) hb).trans h3
      have a4 := (hbel.cell (p := ⟨b, off + k * 8 + 4, none⟩) hb).trans h4
      have a5 := (hbel.cell (p := ⟨b, off + k * 8 + 5, none⟩) hb).trans h5
      have a6 := (hbel.cell (p := ⟨b, off + k * 8 + 6, none⟩) hb).trans h6
      have a7 := (hbel.cell (p := ⟨b, off + k * 8 + 7, none⟩) hb).trans h7
      have d0 := (hbel.cell (p := ⟨b2, off2 + k * 8, none⟩) hb2).trans g0
      have d1 := (hbel.cell (p := ⟨b2, off2 + k * 8 + 1, none⟩) hb2).trans g1
      have d2 := (hbel.cell (p := ⟨b2, off2 + k * 8 + 2, none⟩) hb2).trans g2
      have d3 := (hbel.cell (p := ⟨b2, off2 + k * 8 + 3, none⟩) hb2).trans g3
      have d4 := (hbel.cell (p := ⟨b2, off2 + k * 8 + 4, none⟩) hb2).trans g4
      have d5 := (hbel.cell (p := ⟨b2, off2 + k * 8 + 5, none⟩) hb2).trans g5
      have d6 := (hbel.cell (p := ⟨b2, off2 + k * 8 + 6, none⟩) hb2).trans g6
      have d7 := (hbel.cell (p := ⟨b2, off2 + k * 8 + 7, none⟩) hb2).trans g7
      obtain ⟨_, _, s3, s4⟩ := HS.out k hlt
      have h8 := h8.below hbel.drew
      have h9 := h9.below hbel.drew
      have g8 := g8.below hbel.drew
      have g9 := g9.below hbel.drew
      clear h0 h1 h2 h3 h4 h5 h6 h7 g0 g1 g2 g3 g4 g5 g6 g7
      have hbw : b < wr.heap.size := Nat.lt_of_lt_of_le hb hbel.size
      have hbw2 : b2 < wr.heap.size := Nat.lt_of_lt_of_le hb2 hbel.size
      have i1 : (0 : Int) ≤ (k : Int) := by omega
      have i2 : (k : Int) < (N : Int) := by omega
      go_wp2
      go_region_held3 (fun w' => (w'.cell? ⟨b, off + k * 8, none⟩ = some (.int .i64 (S k).id) ∧ w'.cell? ⟨b, off + k * 8 + 1, none⟩ = some (.string (S k).fr) ∧ w'.cell? ⟨b, off + k * 8 + 2, none⟩ = some (.string (S k).dst) ∧ w'.cell? ⟨b, off + k * 8 + 3, none⟩ = some (.int .i64 (S k).dep) ∧ w'.cell? ⟨b, off + k * 8 + 4, none⟩ = some (.int .i64 (S k).arr) ∧ w'.cell? ⟨b, off + k * 8 + 5, none⟩ = some (.slice la (S k).la.n lc) ∧ w'.cell? ⟨b, off + k * 8 + 6, none⟩ = some (.slice ca (S k).ca.n cc) ∧ w'.cell? ⟨b, off + k * 8 + 7, none⟩ = some (.int .i64 (S k).most)) ∧
          (w'.cell? ⟨b2, off2 + k * 8, none⟩ = some (.int .i64 (S k).id) ∧ w'.cell? ⟨b2, off2 + k * 8 + 1, none⟩ = some (.string (S k).fr) ∧ w'.cell? ⟨b2, off2 + k * 8 + 2, none⟩ = some (.string (S k).dst) ∧ w'.cell? ⟨b2, off2 + k * 8 + 3, none⟩ = some (.int .i64 (S k).dep) ∧ w'.cell? ⟨b2, off2 + k * 8 + 4, none⟩ = some (.int .i64 (S k).arr) ∧ w'.cell? ⟨b2, off2 + k * 8 + 5, none⟩ = some (.slice la2 (S k).la.n lc2) ∧ w'.cell? ⟨b2, off2 + k * 8 + 6, none⟩ = some (.slice ca2 (S k).ca.n cc2) ∧ w'.cell? ⟨b2, off2 + k * 8 + 7, none⟩ = some (.int .i64 (S k).most)))
        (first | exact ⟨⟨a0, a1, a2, a3, a4, a5, a6, a7⟩, ⟨d0, d1, d2, d3, d4, d5, d6, d7⟩⟩ | exact ⟨⟨(hbb.cell hbw).trans a0, (hbb.cell hbw).trans a1, (hbb.cell hbw).trans a2, (hbb.cell hbw).trans a3, (hbb.cell hbw).trans a4, (hbb.cell hbw).trans a5, (hbb.cell hbw).trans a6, (hbb.cell hbw).trans a7⟩, ⟨(hbb.cell hbw2).trans d0, (hbb.cell hbw2).trans d1, (hbb.cell hbw2).trans d2, (hbb.cell hbw2).trans d3, (hbb.cell hbw2).trans d4, (hbb.cell hbw2).trans d5, (hbb.cell hbw2).trans d6, (hbb.cell hbw2).trans d7⟩⟩)
        (first | (go_at_call 47; refine (eqSailing_same _ _ _ _ _ _ _ _ _ _ _ _ _ _ _ _ (S k).la (S k).ca _ rfl rfl s3 s4 h8 h9 g8 g9).mono ?_; rintro e w2 ⟨rfl, hbb⟩))
      go_wp2
      go_roundw
      case rel => exact ⟨k + 1, by omega, by go_num, after hbel.drew hbb⟩
      case measure => simp [intOf]; omega
    · go_wp2
      go_ret
      exact ⟨rfl, hbel⟩

end Go.Proofs.YtcioofnmhfehaaaGreat

namespace Go.Proofs.YtcioofnmhfehaaaGreat
open Go.RowKit

/-- The cell j of a row of records of sz cells each. -/
def recCell (sz : Nat) (C : Nat → List Value) (j : Nat) : Value := (C (j / sz)).getD (j % sz) (.bool false)
theorem recCell_at (sz : Nat) (C : Nat → List Value) (k j : Nat) (hj : j < sz) : recCell sz C (k * sz + j) = (C k).getD j (.bool false) := by
  unfold recCell
  have h0 : 0 < sz := by omega
  rw [show (k * sz + j) / sz = k by rw [Nat.add_comm, Nat.add_mul_div_right _ _ h0, Nat.div_eq_of_lt hj, Nat.zero_add], show (k * sz + j) % sz = j by rw [Nat.add_comm, Nat.add_mul_mod_self_right, Nat.mod_eq_of_lt hj]]
/-- A run of stores into one block. -/
def setFrom (w : World) (g : Nat) : Nat → List Value → World
  | _, [] => w
  | o, v :: vs => setFrom (w.setCell ⟨g, o, none⟩ v) g (o + 1) vs
theorem setFrom_other {g x t n : Nat} {f : Nat → Value} (hx : x ≠ g) : ∀ (vs : List Value) (o : Nat) (w : World), w.rowIs x t n f → (setFrom w g o vs).rowIs x t n f
  | [], _, _, h => h
  | v :: r, o, _, h => setFrom_other hx r (o + 1) _ (h.setOther (by exact hx) v)
theorem setFrom_blk_other {g b : Nat} {x : Obj} (hne : b ≠ g) : ∀ (vs : List Value) (o : Nat) (w : World), w.heap[b]? = some x → (setFrom w g o vs).heap[b]? = some x
  | [], _, _, h => h
  | v :: r, o, _, h => setFrom_blk_other hne r (o + 1) _ (blk_set_other h o v hne)
theorem setFrom_below {g : Nat} {w0 : World} (hg : w0.heap.size ≤ g) : ∀ (vs : List Value) (o : Nat) (w : World), Below w0.heap.size w0 w → Below w0.heap.size w0 (setFrom w g o vs)
  | [], _, _, h => h
  | v :: r, o, _, h => setFrom_below hg r (o + 1) _ (h.setCell (by exact hg) v)
theorem setFrom_kept {g : Nat} {S : Nat → Prop} {w0 : World} (hg : S g) : ∀ (vs : List Value) (o : Nat) (w : World), Kept w0 w S → Kept w0 (setFrom w g o vs) S
  | [], _, _, h => h
  | v :: r, o, _, h => setFrom_kept hg r (o + 1) _ (h.set (a := ⟨g, o, none⟩) hg v)
theorem setFrom_size (g : Nat) : ∀ (vs : List Value) (o : Nat) (w : World), (setFrom w g o vs).heap.size = w.heap.size
  | [], _, _ => rfl
  | v :: r, o, w => by rw [setFrom, setFrom_size g r (o + 1), World.size_setCell]
theorem setFrom_row {b t n : Nat} : ∀ (vs : List Value) (o : Nat) (w : World) (f : Nat → Value), w.rowIs b t n f → (setFrom w b o vs).rowIs b t n (fun j => if o ≤ j ∧ j < o + vs.length then vs.getD (j - o) (.bool false) else f j)
  | [], o, w, f, h => h.congr (fun j _ => by rw [if_neg (by simp)])
  | v :: r, o, w, f, h => by
    have ih := setFrom_row r (o + 1) _ _ (h.set o v)
    refine ih.congr (fun j _ => ?_)
    by_cases h1 : j = o
    · subst h1
      rw [if_neg (by omega), if_pos rfl, if_pos (by simp), Nat.sub_self]
      rfl
    · by_cases h2 : o + 1 ≤ j ∧ j < o + 1 + r.length
      · rw [if_pos h2, if_pos (by simp; omega), show j - o = (j - (o + 1)) + 1 by omega]
        simp
      · rw [if_neg h2, if_neg h1, if_neg (by simp; omega)]
/-- A record is stored into a row of records. -/
theorem rec_set {w : World} {g t n sz k : Nat} {C C' : Nat → List Value} {vs : List Value} (h : w.rowIs g t n (recCell sz C)) (hv : vs.length = sz) (h0 : 0 < sz) (hC : ∀ i, i ≠ k → C' i = C i) (hk : C' k = vs) :
    (setFrom w g (k * sz) vs).rowIs g t n (recCell sz C') := by
  refine (setFrom_row vs (k * sz) w _ h).congr fun j _ => ?_
  by_cases e : j / sz = k
  · have h1 : k * sz ≤ j := by rw [← e]; exact Nat.div_mul_le_self j sz
    have h2 : j < k * sz + sz := by
      have := Nat.lt_div_mul_add h0 (a := j)
      rw [e] at this; exact this
    rw [if_pos ⟨h1, by omega⟩]
    unfold recCell
    rw [e, hk, show j % sz = j - k * sz by have := Nat.div_add_mod j sz; rw [e, Nat.mul_comm] at this; omega]
  · rw [if_neg (by
      rintro ⟨h1, h2⟩
      apply e
      rw [hv] at h2
      have : j = (j - k * sz) + k * sz := by omega
      rw [this, Nat.add_mul_div_right _ _ h0, Nat.div_eq_of_lt (by omega), Nat.zero_add])]
    unfold recCell
    rw [hC _ e]

/-- The slice at ao reads as N records of sz cells. -/
def RecsAt (w : World) (ao : Option Addr) (N sz : Nat) (C : Nat → List Value) : Prop :=
  ∀ k, k < N → ∃ b off, ao = some ⟨b, off, none⟩ ∧ ∀ j, j < sz → w.cell? ⟨b, off + k * sz + j, none⟩ = some ((C k).getD j (.bool false))
theorem RecsAt.below {w w' : World} {ao : Option Addr} {N sz : Nat} {C : Nat → List Value} (h : RecsAt w ao N sz C) (hb : Below w.heap.size w w') : RecsAt w' ao N sz C := by
  intro k hk
  obtain ⟨b, off, e, hc⟩ := h k hk
  exact ⟨b, off, e, fun j hj => (hb.cell (World.block_lt_of_cell? w _ (hc j hj))).trans (hc j hj)⟩
theorem RecsAt.of_row {w : World} {g t N sz : Nat} {C : Nat → List Value} (h : w.rowIs g t (N * sz) (recCell sz C)) : RecsAt w (some ⟨g, 0, none⟩) N sz C := by
  intro k hk
  refine ⟨g, 0, rfl, fun j hj => ?_⟩
  have : k * sz + j < N * sz := by
    have h1 : (k + 1) * sz ≤ N * sz := Nat.mul_le_mul_right sz hk
    rw [Nat.add_mul] at h1
    omega
  rw [Nat.zero_add, h.cell this, recCell_at sz C k j hj]
theorem RecsAt.upto {w : World} {ao : Option Addr} {N M sz : Nat} {C : Nat → List Value} (h : RecsAt w ao N sz C) (hM : M ≤ N) : RecsAt w ao M sz C := fun k hk => h k (by omega)

/-- The cells of N made records that are all zero. -/
theorem made_recs {z : Array Value} {sz : Nat} (hz : z.size = sz) (n j : Nat) (hj : j < n * sz) : (madeCells z (n * sz)).toList.getD j (.bool false) = recCell sz (fun _ => z.toList) j := by
  have h0 : 0 < sz := by rcases Nat.eq_zero_or_pos sz with h | h; subst h; omega; exact h
  simp only [madeCells, Array.toList_map, List.getD_eq_getElem?_getD, List.getElem?_map, Array.toList_range, List.getElem?_range hj, Option.map_some, Option.getD_some]
  unfold recCell
  rw [List.getD_eq_getElem?_getD]
  have hm : j % sz < z.size := by rw [hz]; exact Nat.mod_lt _ h0
  simp [hz]
  rw [getElem!_pos z _ hm, Array.getElem?_eq_getElem hm]
  rfl

end Go.Proofs.YtcioofnmhfehaaaGreat
