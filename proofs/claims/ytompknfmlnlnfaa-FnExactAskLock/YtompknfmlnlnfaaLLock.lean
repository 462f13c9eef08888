/-
  OWN TEXT: contracts of the laws' helpers over locks: szLockS, toLock, toLockS, eqLock, eqLockS.
-/
import Derived.Test.YtompknfmlnlnfaaLAsk
namespace Go.Proofs.Ytompknfmlnlnfaa
open Go.RowKit

set_option maxHeartbeats 400000 in
theorem szAskedS_any (ao : Option Addr) (n c : Nat) (L : Int) (w : World) (h0 : 0 ≤ L) (hL : L ≤ 1048576) (hn : n ≤ 1000000000000000) :
    Calls Try.prog 74 #[.slice ao n c, .int .i64 L] w fun e w' => ∃ r : Int, e = .returned (.int .i64 r) ∧ (r = -1 ∨ (0 ≤ r ∧ r ≤ L ∧ n ≤ 1048576)) ∧ Below w.heap.size w w' := by
  by_cases h : (n : Int) ≤ L
  · go_enter Try.func74, Try.ntmps74
    go_wp2
    go_ret
    exact ⟨_, rfl, .inr ⟨by omega, by omega, by omega⟩, Below.refl _ _⟩
  · go_enter Try.func74, Try.ntmps74
    go_wp2
    go_ret
    exact ⟨_, rfl, .inl rfl, Below.refl _ _⟩

set_option maxHeartbeats 400000 in
theorem szLock_any (x : Int) (ao bo : Option Addr) (n m c1 c2 : Nat) (L : Int) (w : World) (h0 : 0 ≤ L) (hL : L ≤ 1048576) (hn : n ≤ 1000000000000000) (hm : m ≤ 1000000000000000) :
    Calls Try.prog 54 #[.agg #[.int .i64 x, .slice ao n c1, .slice bo m c2], .int .i64 L] w fun e w' => ∃ r : Int, e = .returned (.int .i64 r) ∧ (r = -1 ∨ (0 ≤ r ∧ r ≤ L ∧ n ≤ 1048576 ∧ m ≤ 1048576)) ∧ Below w.heap.size w w' := by
  have hb0 : Below w.heap.size w (w.alloc (.cells #[.int .i64 x, .slice ao n c1, .slice bo m c2] 87)) := push (Below.refl _ _) _
  have hA0 := heap_alloc_new w (.cells #[.int .i64 x, .slice ao n c1, .slice bo m c2] 87)
  go_enter Try.func54, Try.ntmps54
  go_wp2_with fail
  refine (szAskedS_any ao n c1 L _ h0 hL hn).mono ?_
  rintro e w1 ⟨r, rfl, hr, hb1⟩
  have hA1 := blk_below hA0 hb1
  have hb2 := after hb0 hb1
  clear hA0 hb0 hb1
  rcases hr with rfl | ⟨r0, r1, r2⟩
  · go_wp2
    go_ret
    exact ⟨_, rfl, .inl rfl, hb2⟩
  · have q := blk_cell hA1 2 _ rfl
    have d0 : decide (r < 0) = false := by simpa using r0
    go_wp2_with fail
    refine (szAskedS_any bo m c2 r _ r0 (by omega) hm).mono ?_
    rintro e w2 ⟨s, rfl, hs, hb3⟩
    rcases hs with rfl | ⟨s0, s1, s2⟩
    · go_wp2
      go_ret
      exact ⟨_, rfl, .inl rfl, after hb2 hb3⟩
    · have d1 : decide (s < 0) = false := by simpa using s0
      go_wp2
      go_ret
      exact ⟨_, rfl, .inr ⟨s0, by omega, r2, s2⟩, after hb2 hb3⟩

/-- The lines are short enough to be told. -/
def ShortTo (k : Nat) (H Q : Nat → Line) (B : Nat) : Prop := ∀ i, i < k → (H i).n ≤ B ∧ (Q i).n ≤ B

set_option maxHeartbeats 800000 in
set_option maxRecDepth 100000 in
theorem szLockS_any (ao : Option Addr) (N c : Nat) (K : Nat → Int) (H Q : Nat → Line) (w : World) (hN : N ≤ 1000000000000000) (hs : ShortTo N H Q 1000000000000000) (hx : LocksAt w ao N K H Q) :
    Calls Try.prog 17 #[.slice ao N c, .int .i64 1048576] w fun e w' => ∃ r : Int, e = .returned (.int .i64 r) ∧ (r = -1 ∨ (0 ≤ r ∧ N ≤ 1048576 ∧ ShortTo N H Q 1048576)) ∧ Below w.heap.size w w' := by
  have HS : Hid (ShortTo N H Q 1000000000000000) := hs
  clear hs
  by_cases hf : N ≤ 1048576
  · have d0 : decide ((1048576 : Int) - (N : Int) < 0) = false := by simp; omega
    go_enter Try.func17, Try.ntmps17
    go_wp2
    go_loopw [1, 5] (fun l i wr => ∃ (k : Nat) (L : Int), k ≤ N ∧ i = .int .i64 k ∧ l = .int .i64 L ∧ 0 ≤ L ∧ L ≤ 1048576 ∧ ShortTo k H Q 1048576 ∧ Below w.heap.size w wr) (fun _ i _ => N - (intOf i).toNat)
    case atStart => exact ⟨0, _, Nat.zero_le _, rfl, rfl, by omega, by omega, fun i hi => by omega, Below.refl _ _⟩
    case round =>
      obtain ⟨k, L, hk, rfl, rfl, l0, l1, hst, hbel⟩ := hrel
      have HT : Hid (ShortTo k H Q 1048576) := hst
      clear hst d0
      by_cases hlt : k < N
      · obtain ⟨b, off, ha, hc, qa, qc, rfl, h1, h2, h3, h4, h5, h6, h7⟩ := hx k hlt
        have hb := World.block_lt_of_cell? w _ h1
        have c1 := (hbel.cell (p := ⟨b, off + k * 3, none⟩) hb).trans h1
        have c2 := (hbel.cell (p := ⟨b, off + k * 3 + 1, none⟩) hb).trans h2
        have c3 := (hbel.cell (p := ⟨b, off + k * 3 + 2, none⟩) hb).trans h3
        have s1 := (HS.out k hlt).1
        have s2 := (HS.out k hlt).2
        clear h1 h2 h3 h4 h5 h6 h7
        go_wp2_with fail
        refine (szLock_any _ _ _ _ _ _ _ L _ l0 l1 s1 s2).mono ?_
        rintro e w2 ⟨r, rfl, hr, hb3⟩
        rcases hr with rfl | ⟨r0, r1, r2, r3⟩
        · go_wp2
          go_ret
          exact ⟨_, rfl, .inl rfl, after hbel hb3⟩
        · have d1 : decide (r < 0) = false := by simpa using r0
          go_wp2
          go_roundw
          case rel =>
            refine ⟨k + 1, r, by omega, by go_num, rfl, r0, by omega, fun i hi => ?_, after hbel hb3⟩
            by_cases e : i = k
            · subst e; exact ⟨r2, r3⟩
            · exact HT.out i (by omega)
          case measure => simp [intOf]; omega
      · obtain rfl : k = N := by omega
        go_wp2
        go_ret
        exact ⟨_, rfl, .inr ⟨l0, hf, HT.out⟩, hbel⟩
  · have d0 : decide ((1048576 : Int) - (N : Int) < 0) = true := by simp; omega
    go_enter Try.func17, Try.ntmps17
    go_wp2
    go_ret
    exact ⟨_, rfl, .inl rfl, Below.refl _ _⟩

set_option maxHeartbeats 800000 in
theorem toLock_any (x : Int) (ao bo : Option Addr) (n m c1 c2 : Nat) (l1 l2 : Line) (w : World) (e1 : l1.n = n) (e2 : l2.n = m) (hn : n ≤ 1048576) (hm : m ≤ 1048576) (hx : LineAt w ao l1) (hy : LineAt w bo l2) :
    Calls Try.prog 55 #[.agg #[.int .i64 x, .slice ao n c1, .slice bo m c2]] w fun e w' => ∃ a b, e = .returned (.agg #[.int .i64 x, .slice (some ⟨a, 0, none⟩) n n, .slice (some ⟨b, 0, none⟩) m m]) ∧ w.heap.size ≤ a ∧ a < b ∧
      w'.rowIs a 65 (n * 2) (askCell l1) ∧ w'.rowIs b 65 (m * 2) (askCell l2) ∧ Below w.heap.size w w' := by
  have E1 : Hid (l1.n = n) := e1
  have E2 : Hid (l2.n = m) := e2
  clear e1 e2
  go_enter Try.func55, Try.ntmps55
  go_wp2_with fail
  obtain ⟨W0, hW0⟩ : ∃ W, W = (((w.alloc (.cells #[.int .i64 x, .slice ao n c1, .slice bo m c2] 87)).alloc (.cells #[.int .i64 0, .slice none 0 0, .slice none 0 0] 68)).alloc (.cells #[.int .i64 x, .slice none 0 0, .slice none 0 0] 68)) := ⟨_, rfl⟩
  have h0 : Below w.heap.size w W0 := by rw [hW0]; exact push (push (push (Below.refl _ _) _) _) _
  have A0 : W0.heap[w.heap.size]? = some (.cells #[.int .i64 x, .slice ao n c1, .slice bo m c2] 87 (0, 0)) := by rw [hW0]; exact blk_alloc (blk_alloc (heap_alloc_new w _) _) _
  have R0 : W0.heap[w.heap.size + 1]? = some (.cells #[.int .i64 0, .slice none 0 0, .slice none 0 0] 68 (0, 0)) := by rw [hW0]; exact blk_alloc (by simpa using heap_alloc_new (w.alloc _) _) _
  have O0 : W0.heap[w.heap.size + 1 + 1]? = some (.cells #[.int .i64 x, .slice none 0 0, .slice none 0 0] 68 (0, 0)) := by rw [hW0]; simpa using heap_alloc_new ((w.alloc _).alloc _) _
  rw [← hW0]
  clear hW0
  refine (toAskedS_any ao n c1 l1 _ E1.out hn (hx.below h0)).mono ?_
  rintro e w1 ⟨g, rfl, hg, hrow, hb1⟩
  have A1 := blk_below A0 hb1
  have R1 := blk_below R0 hb1
  have O1 := blk_below O0 hb1
  have hbw := after h0 hb1
  have hgl : w.heap.size + 1 + 1 < g := by have := blk_lt O0; omega
  clear h0 A0 R0 O0 hb1 hg
  have q1 := blk_cell A1 2 _ rfl
  have q2 := blk_cell O1 1 _ rfl
  have q3 := blk_free O1 1
  go_wp2_with fail
  obtain ⟨W, hW⟩ : ∃ W, W = w1.setCell ⟨w.heap.size + 1 + 1, 1, none⟩ (.slice (some ⟨g, 0, none⟩) n n) := ⟨_, rfl⟩
  have r2 : W.heap[w.heap.size + 1]? = some (.cells #[.int .i64 0, .slice none 0 0, .slice none 0 0] 68 (0, 0)) := by rw [hW]; exact blk_set_other R1 _ _ (by omega)
  have o2 : W.heap[w.heap.size + 1 + 1]? = some (.cells #[.int .i64 x, .slice (some ⟨g, 0, none⟩) n n, .slice none 0 0] 68 (0, 0)) := by rw [hW]; exact blk_set O1 1 _
  have hrow2 : W.rowIs g 65 (n * 2) (askCell l1) := by rw [hW]; exact hrow.setOther (by show g ≠ w.heap.size + 1 + 1; omega) _
  have hbW : Below w.heap.size w W := by rw [hW]; exact hbw.setCell (by show w.heap.size ≤ w.heap.size + 1 + 1; omega) _
  rw [← hW]
  clear hW q1 q2 q3 hrow hbw A1 R1 O1
  refine (toAskedS_any bo m c2 l2 _ E2.out hm (hy.below hbW)).mono ?_
  rintro e w2 ⟨g2, rfl, hg2, hrow3, hb2⟩
  have r3 := blk_below r2 hb2
  have o3 := blk_below o2 hb2
  have hrow4 := row_below hrow2 hb2
  have hbw2 := after hbW hb2
  have hne : g < g2 := by have := hrow2.lt; omega
  clear hb2 r2 o2 hrow2 hbW hg2
  have q0 := blk_cell o3 0 _ rfl
  have q1 := blk_cell o3 1 _ rfl
  have q2 := blk_cell o3 2 _ rfl
  have q3 := blk_free o3 2
  have q4 := blk_cell r3 0 _ rfl
  have q5 := blk_cell r3 1 _ rfl
  have q6 := blk_cell r3 2 _ rfl
  have q7 := blk_free r3 0
  have q8 := blk_free r3 1
  have q9 := blk_free r3 2
  go_wp2
  have rF := blk_set (blk_set (blk_set (blk_set_other r3 (b' := w.heap.size + 1 + 1) 2 (.slice (some ⟨g2, 0, none⟩) m m) (by omega)) 0 (.int .i64 x)) 1 (.slice (some ⟨g, 0, none⟩) n n)) 2 (.slice (some ⟨g2, 0, none⟩) m m)
  have z0 := blk_cell rF 0 _ rfl
  have z1 := blk_cell rF 1 _ rfl
  have z2 := blk_cell rF 2 _ rfl
  clear q0 q1 q2 q3 q4 q5 q6 q7 q8 q9
  refine bodyPost_ret (v := .agg #[.int .i64 x, .slice (some ⟨g, 0, none⟩) n n, .slice (some ⟨g2, 0, none⟩) m m]) (by simp [results, Try.results55, go_sem, z0, z1, z2]) rfl ⟨g, g2, rfl, by omega, hne, ?_, ?_, ?_⟩
  · exact (((hrow4.setOther (by show g ≠ w.heap.size + 1 + 1; omega) _).setOther (by show g ≠ w.heap.size + 1; omega) _).setOther (by show g ≠ w.heap.size + 1; omega) _).setOther (by show g ≠ w.heap.size + 1; omega) _
  · exact (((hrow3.setOther (by show g2 ≠ w.heap.size + 1 + 1; omega) _).setOther (by show g2 ≠ w.heap.size + 1; omega) _).setOther (by show g2 ≠ w.heap.size + 1; omega) _).setOther (by show g2 ≠ w.heap.size + 1; omega) _
  · exact (((hbw2.setCell (by show w.heap.size ≤ w.heap.size + 1 + 1; omega) _).setCell (by show w.heap.size ≤ w.heap.size + 1; omega) _).setCell (by show w.heap.size ≤ w.heap.size + 1; omega) _).setCell (by show w.heap.size ≤ w.heap.size + 1; omega) _

theorem Try.infoLock : (Try.prog.info? 68).map (fun i => (i.zero, i.size, i.bytes)) = some (some (.agg #[.int .i64 0, .slice none 0 0, .slice none 0 0]), 3, 56) := by kernel_rfl

set_option maxHeartbeats 800000 in
set_option maxRecDepth 100000 in
/-- toLockS: a copy of the locks, each line in a row of its own. -/
theorem toLockS_any (ao : Option Addr) (N cap : Nat) (K : Nat → Int) (H Q : Nat → Line) (w : World) (hN : N ≤ 1048576) (hs : ShortTo N H Q 1048576) (hz : LocksAt w ao N K H Q) :
    Calls Try.prog 18 #[.slice ao N cap] w fun e w' => ∃ g h q, e = .returned (.slice (some ⟨g, 0, none⟩) N N) ∧ LocksTo w' 68 65 N w.heap.size g N K H Q h q ∧ Below w.heap.size w w' := by
  obtain ⟨i0, hi, hz0, hz1, hz2⟩ := info_parts Try.infoLock
  have HS : Hid (ShortTo N H Q 1048576) := hs
  clear hs
  go_enter Try.func18, Try.ntmps18
  go_wp2_with (first | (at_make; refine wpList_make_full _ rfl _ _ 23 rfl w.heap.size 68 i0 _ 3 Try.underlying23 hi hz0 hz1 .i64 .i64 _ _ N rfl rfl rfl rfl (by rw [hz2]; omega) (by unfold maxLen; omega) (Nat.le_refl _) ?_; intro w1 hown1 hgrow1))
  go_loopw [4] (fun i wr => ∃ (k : Nat) (h q : Nat → Nat), k ≤ N ∧ i = .int .i64 k ∧ LocksTo wr 68 65 k w.heap.size w.heap.size N K H Q h q ∧ Below w.heap.size w wr)
    (fun i _ => N - (intOf i).toNat)
  case atStart => exact ⟨0, fun _ => 0, fun _ => 0, Nat.zero_le _, rfl, ⟨(row_of_own hown1).congr (fun j hj => made_locks N j hj), Nat.le_refl _, fun i hi => by omega, fun i hi => by omega, fun i j _ hj => by omega⟩, (Below.refl _ _).grown hgrow1 (Nat.le_refl _) (by simp)⟩
  case round =>
    obtain ⟨k, h, q, hk, rfl, hrow, hbel⟩ := hrel
    clear hown1 hgrow1
    by_cases hlt : k < N
    · obtain ⟨b, off, ha, hc, qa, qc, rfl, h1, h2, h3, h4, h5, h6, h7⟩ := hz k hlt
      have hb := World.block_lt_of_cell? w _ h1
      have c1 := (hbel.cell (p := ⟨b, off + k * 3, none⟩) hb).trans h1
      have c2 := (hbel.cell (p := ⟨b, off + k * 3 + 1, none⟩) hb).trans h2
      have c3 := (hbel.cell (p := ⟨b, off + k * 3 + 2, none⟩) hb).trans h3
      have s1 := (HS.out k hlt).1
      have s2 := (HS.out k hlt).2
      clear h1 h2 h3 h6 h7
      go_wp2_with (first | (go_at_call 55; refine (toLock_any _ _ _ _ _ _ _ (H k) (Q k) _ rfl rfl s1 s2 (h4.below hbel) (h5.below hbel)).mono ?_; rintro e w2 ⟨a, b', rfl, ga, gab, ra, rb, hb2⟩; have hr2 := hrow.below hb2; have o1 := hr2.row.cell (i := k * 3) (by omega); have o2 := hr2.row.cell (i := k * 3 + 1) (by omega); have o3 := hr2.row.cell (i := k * 3 + 2) (by omega); have f1 := hr2.row.frozen (k * 3); have f2 := hr2.row.frozen (k * 3 + 1); have f3 := hr2.row.frozen (k * 3 + 2)))
      go_roundw
      case rel =>
        have hg := hrow.row.lt
        exact ⟨k + 1, _, _, by omega, by go_num, hr2.step (by omega) gab (fun i hi => by have := (hrow.queue i hi).2.lt; omega) ra rb, (((after hbel hb2).setCell (Nat.le_refl _) _).setCell (Nat.le_refl _) _).setCell (Nat.le_refl _) _⟩
      case measure => simp [intOf]; omega
    · obtain rfl : k = N := by omega
      go_wp2
      go_ret
      exact ⟨_, h, q, rfl, hrow, hbel⟩

set_option maxHeartbeats 800000 in
theorem eqLock_same (x : Int) (ao bo ao' bo' : Option Addr) (n m c1 c2 c3 c4 : Nat) (l1 l2 : Line) (w : World) (e1 : l1.n = n) (e2 : l2.n = m) (hn : n ≤ 1048576) (hm : m ≤ 1048576)
    (hx : LineAt w ao l1) (hy : LineAt w bo l2) (hx' : LineAt w ao' l1) (hy' : LineAt w bo' l2) :
    Calls Try.prog 56 #[.agg #[.int .i64 x, .slice ao n c1, .slice bo m c2], .agg #[.int .i64 x, .slice ao' n c3, .slice bo' m c4]] w fun e w' => e = .returned (.bool true) ∧ Below w.heap.size w w' := by
  have E1 : Hid (l1.n = n) := e1
  have E2 : Hid (l2.n = m) := e2
  clear e1 e2
  have h0 : Below w.heap.size w ((w.alloc (.cells #[.int .i64 x, .slice ao n c1, .slice bo m c2] 68)).alloc (.cells #[.int .i64 x, .slice ao' n c3, .slice bo' m c4] 68)) := push (push (Below.refl _ _) _) _
  go_enter Try.func56, Try.ntmps56
  go_wp2_with fail
  refine (eqAskedS_same ao ao' n c1 c3 l1 _ E1.out hn (hx.below h0) (hx'.below h0)).mono ?_
  rintro e w1 ⟨rfl, hb1⟩
  have a1 : w1.heap[w.heap.size]? = some (.cells #[.int .i64 x, .slice ao n c1, .slice bo m c2] 68 (0, 0)) := blk_below (blk_alloc (heap_alloc_new w _) _) hb1
  have r1 : w1.heap[w.heap.size + 1]? = some (.cells #[.int .i64 x, .slice ao' n c3, .slice bo' m c4] 68 (0, 0)) := blk_below (by simpa using heap_alloc_new (w.alloc _) _) hb1
  have hb2 := after h0 hb1
  clear h0 hb1
  have q1 := blk_cell a1 2 _ rfl
  have q2 := blk_cell r1 2 _ rfl
  go_wp2_with fail
  refine (eqAskedS_same bo bo' m c2 c4 l2 _ E2.out hm (hy.below hb2) (hy'.below hb2)).mono ?_
  rintro e w2 ⟨rfl, hb3⟩
  go_wp2
  go_ret
  exact ⟨rfl, after hb2 hb3⟩

set_option maxHeartbeats 800000 in
set_option maxRecDepth 100000 in
/-- eqLockS at two lists that are one. -/
theorem eqLockS_same (ao bo : Option Addr) (N c1 c2 : Nat) (K : Nat → Int) (H Q : Nat → Line) (w : World) (hN : N ≤ 1048576) (hs : ShortTo N H Q 1048576) (hx : LocksAt w ao N K H Q) (hy : LocksAt w bo N K H Q) :
    Calls Try.prog 19 #[.slice ao N c1, .slice bo N c2] w fun e w' => e = .returned (.bool true) ∧ Below w.heap.size w w' := by
  have HS : Hid (ShortTo N H Q 1048576) := hs
  clear hs
  go_enter Try.func19, Try.ntmps19
  go_wp2
  go_loopw [5] (fun i wr => ∃ k : Nat, k ≤ N ∧ i = .int .i64 k ∧ Below w.heap.size w wr) (fun i _ => N - (intOf i).toNat)
  case atStart => exact ⟨0, Nat.zero_le _, rfl, Below.refl _ _⟩
  case round =>
    obtain ⟨k, hk, rfl, hbel⟩ := hrel
    by_cases hlt : k < N
    · obtain ⟨b, off, ha, hc, qa, qc, rfl, h1, h2, h3, h4, h5, _, _⟩ := hx k hlt
      obtain ⟨b2, off2, ha2, hc2, qa2, qc2, rfl, g1, g2, g3, g4, g5, _, _⟩ := hy k hlt
      have hb := World.block_lt_of_cell? w _ h1
      have hb2 := World.block_lt_of_cell? w _ g1
      have a1 := (hbel.cell (p := ⟨b, off + k * 3, none⟩) hb).trans h1
      have a2 := (hbel.cell (p := ⟨b, off + k * 3 + 1, none⟩) hb).trans h2
      have a3 := (hbel.cell (p := ⟨b, off + k * 3 + 2, none⟩) hb).trans h3
      have d1 := (hbel.cell (p := ⟨b2, off2 + k * 3, none⟩) hb2).trans g1
      have d2 := (hbel.cell (p := ⟨b2, off2 + k * 3 + 1, none⟩) hb2).trans g2
      have d3 := (hbel.cell (p := ⟨b2, off2 + k * 3 + 2, none⟩) hb2).trans g3
      have s1 := (HS.out k hlt).1
      have s2 := (HS.out k hlt).2
      have h4 := h4.below hbel.drew
      have h5 := h5.below hbel.drew
      have g4 := g4.below hbel.drew
      have g5 := g5.below hbel.drew
      clear h1 h2 h3 g1 g2 g3
      have hbw : b < wr.heap.size := Nat.lt_of_lt_of_le hb hbel.size
      have hbw2 : b2 < wr.heap.size := Nat.lt_of_lt_of_le hb2 hbel.size
      have i1 : (0 : Int) ≤ (k : Int) := by omega
      have i2 : (k : Int) < (N : Int) := by omega
      go_wp2
      go_region_held3 (fun w' => w'.cell? ⟨b, off + k * 3, none⟩ = some (.int .i64 (K k)) ∧ w'.cell? ⟨b, off + k * 3 + 1, none⟩ = some (.slice ha (H k).n hc) ∧ w'.cell? ⟨b, off + k * 3 + 2, none⟩ = some (.slice qa (Q k).n qc) ∧ w'.cell? ⟨b2, off2 + k * 3, none⟩ = some (.int .i64 (K k)) ∧ w'.cell? ⟨b2, off2 + k * 3 + 1, none⟩ = some (.slice ha2 (H k).n hc2) ∧ w'.cell? ⟨b2, off2 + k * 3 + 2, none⟩ = some (.slice qa2 (Q k).n qc2))
        (first | exact ⟨a1, a2, a3, d1, d2, d3⟩ | exact ⟨(hbb.cell hbw).trans a1, (hbb.cell hbw).trans a2, (hbb.cell hbw).trans a3, (hbb.cell hbw2).trans d1, (hbb.cell hbw2).trans d2, (hbb.cell hbw2).trans d3⟩)
        (first | (go_at_call 56; refine (eqLock_same _ _ _ _ _ _ _ _ _ _ _ (H k) (Q k) _ rfl rfl s1 s2 h4 h5 g4 g5).mono ?_; rintro e w2 ⟨rfl, hbb⟩))
      go_wp2
      go_roundw
      case rel => exact ⟨k + 1, by omega, by go_num, after hbel.drew hbb⟩
      case measure => simp [intOf]; omega
    · go_wp2
      go_ret
      exact ⟨rfl, hbel⟩

end Go.Proofs.Ytompknfmlnlnfaa
