/-
  OWN TEXT: the contracts of spec.l9Same and spec.SameAnswers.
-/
import Derived.Test.YtcioofnmhfehaaaPlainSa
namespace Go.Proofs.Ytcioofnmhfehaaa
open Go.RowKit Classical

set_option maxHeartbeats 3200000 in
set_option maxRecDepth 100000 in
theorem l9Same_raw (c1 n1 p1 : Int) (ao : Option Addr) (rn rc : Nat) (S : Nat → MRow) (c2 n2 p2 : Int) (bo : Option Addr) (rm rd : Nat) (T : Nat → MRow) (w : World) (hn : rn ≤ 1048576) (hm : rm ≤ 1048576) (hx : MRowsAt w ao rn S) (hy : MRowsAt w bo rm T) :
    Calls Try.prog 25 #[.agg #[.int .i64 c1, .int .i64 n1, .int .i64 p1, .slice ao rn rc], .agg #[.int .i64 c2, .int .i64 n2, .int .i64 p2, .slice bo rm rd]] w fun e w' => e = .returned (.bool (decide (AnsSame ⟨c1, n1, p1, rn, S⟩ ⟨c2, n2, p2, rm, T⟩))) ∧ Below w.heap.size w w' := by
  have hb0 : Below w.heap.size w ((w.alloc (.cells #[.int .i64 c1, .int .i64 n1, .int .i64 p1, .slice ao rn rc] 55)).alloc (.cells #[.int .i64 c2, .int .i64 n2, .int .i64 p2, .slice bo rm rd] 55)) := push (push (Below.refl _ _) _) _
  by_cases h1 : c1 = c2
  case neg =>
    have e1 : decide (AnsSame ⟨c1, n1, p1, rn, S⟩ ⟨c2, n2, p2, rm, T⟩) = false := decide_eq_false (fun h => h1 h.1)
    rw [e1]
    have e2 : (c1 = c2) = False := eq_false h1
    go_enter Try.func25, Try.ntmps25
    go_wp2
    go_ret
    exact ⟨rfl, hb0⟩
  subst h1
  by_cases h2 : n1 = n2
  case neg =>
    have e1 : decide (AnsSame ⟨c1, n1, p1, rn, S⟩ ⟨c1, n2, p2, rm, T⟩) = false := decide_eq_false (fun h => h2 h.2.1)
    rw [e1]
    have e2 : (n1 = n2) = False := eq_false h2
    go_enter Try.func25, Try.ntmps25
    go_wp2
    go_ret
    exact ⟨rfl, hb0⟩
  subst h2
  by_cases h3 : p1 = p2
  case neg =>
    have e1 : decide (AnsSame ⟨c1, n1, p1, rn, S⟩ ⟨c1, n1, p2, rm, T⟩) = false := decide_eq_false (fun h => h3 h.2.2.1)
    rw [e1]
    have e2 : (p1 = p2) = False := eq_false h3
    go_enter Try.func25, Try.ntmps25
    go_wp2
    go_ret
    exact ⟨rfl, hb0⟩
  subst h3
  have e1 : decide (AnsSame ⟨c1, n1, p1, rn, S⟩ ⟨c1, n1, p1, rm, T⟩) = decide (rowsAlike rn rm S T) := by rw [decide_eq_decide]; exact ⟨fun h => h.2.2.2, fun h => ⟨rfl, rfl, rfl, h⟩⟩
  rw [e1]
  clear e1
  obtain ⟨q, hq⟩ : ∃ q : Bool, q = decide (rowsAlike rn rm S T) := ⟨_, rfl⟩
  rw [← hq]
  have HQ : Hid (q = decide (rowsAlike rn rm S T)) := hq
  clear hq
  rw [HQ.out]
  clear HQ q
  by_cases hnm : rn = rm
  case neg =>
    have e1 : decide (rowsAlike rn rm S T) = false := decide_eq_false (fun h => hnm h.1)
    rw [e1]
    have e2 : ((rn : Int) = (rm : Int)) = False := by simp; omega
    go_enter Try.func25, Try.ntmps25
    go_wp2
    go_ret
    exact ⟨rfl, hb0⟩
  subst hnm
  have HX : Hid (MRowsAt w ao rn S) := hx
  have HY : Hid (MRowsAt w bo rn T) := hy
  clear hx hy
  obtain ⟨q, hq⟩ : ∃ q : Bool, q = decide (rowsAlike rn rn S T) := ⟨_, rfl⟩
  have HQ : Hid (q = true ↔ ∀ i, i < rn → S i = T i) := by rw [hq]; exact ⟨fun h => (of_decide_eq_true h).2, fun h => decide_eq_true ⟨rfl, h⟩⟩
  rw [← hq]
  clear hq
  have bA : ((w.alloc (.cells #[.int .i64 c1, .int .i64 n1, .int .i64 p1, .slice ao rn rc] 55)).alloc (.cells #[.int .i64 c1, .int .i64 n1, .int .i64 p1, .slice bo rn rd] 55)).heap[w.heap.size]? = some (.cells #[.int .i64 c1, .int .i64 n1, .int .i64 p1, .slice ao rn rc] 55 (0, 0)) := blk_alloc (heap_alloc_new w _) _
  have bB : ((w.alloc (.cells #[.int .i64 c1, .int .i64 n1, .int .i64 p1, .slice ao rn rc] 55)).alloc (.cells #[.int .i64 c1, .int .i64 n1, .int .i64 p1, .slice bo rn rd] 55)).heap[w.heap.size + 1]? = some (.cells #[.int .i64 c1, .int .i64 n1, .int .i64 p1, .slice bo rn rd] 55 (0, 0)) := by simpa using heap_alloc_new (w.alloc _) _
  go_enter Try.func25, Try.ntmps25
  go_wp2
  generalize (w.alloc (.cells #[.int .i64 c1, .int .i64 n1, .int .i64 p1, .slice ao rn rc] 55)).alloc (.cells #[.int .i64 c1, .int .i64 n1, .int .i64 p1, .slice bo rn rd] 55) = V at hb0 bA bB ⊢
  go_loopw [5, 37] (fun _ i wr => ∃ k : Nat, k ≤ rn ∧ i = .int .i64 k ∧ (∀ j, j < k → S j = T j) ∧ Below V.heap.size V wr) (fun _ i _ => rn - (intOf i).toNat)
  case atStart => exact ⟨0, Nat.zero_le _, rfl, fun j hj => absurd hj (Nat.not_lt_zero _), Below.refl _ _⟩
  case round =>
    obtain ⟨k, hk, rfl, hal, hbel⟩ := hrel
    have HA : Hid (∀ j, j < k → S j = T j) := hal
    clear hal
    by_cases hlt : k < rn
    · obtain ⟨b, off, rfl, g0, g1, g2, g3, g4⟩ := HX.out k hlt
      obtain ⟨b2, off2, rfl, f0, f1, f2, f3, f4⟩ := HY.out k hlt
      have l1 : b < w.heap.size := World.block_lt_of_cell? w _ g0
      have l2 : b2 < w.heap.size := World.block_lt_of_cell? w _ f0
      have i1 : (0 : Int) ≤ (k : Int) := by omega
      have i2 : (k : Int) < (rn : Int) := by omega
      have ba : ∀ g : Grown wr, g.val.cell? ⟨w.heap.size, 3, none⟩ = some (.slice (some ⟨b, off, none⟩) rn rc) := fun g => blk_cell (blk_below bA (hbel.trans (g.bel.mono hbel.size))) 3 _ rfl
      have bb : ∀ g : Grown wr, g.val.cell? ⟨w.heap.size + 1, 3, none⟩ = some (.slice (some ⟨b2, off2, none⟩) rn rd) := fun g => blk_cell (blk_below bB (hbel.trans (g.bel.mono hbel.size))) 3 _ rfl
      have z0 : ∀ g : Grown wr, g.val.cell? ⟨b, off + k * 5, none⟩ = some (.int .i64 (S k).name) := fun g => ((after hb0 (hbel.trans (g.bel.mono hbel.size))).cell (p := ⟨b, off + k * 5, none⟩) l1).trans g0
      have y0 : ∀ g : Grown wr, g.val.cell? ⟨b2, off2 + k * 5, none⟩ = some (.int .i64 (T k).name) := fun g => ((after hb0 (hbel.trans (g.bel.mono hbel.size))).cell (p := ⟨b2, off2 + k * 5, none⟩) l2).trans f0
      have z1 : ∀ g : Grown wr, g.val.cell? ⟨b, off + k * 5 + 1, none⟩ = some (.string (S k).own) := fun g => ((after hb0 (hbel.trans (g.bel.mono hbel.size))).cell (p := ⟨b, off + k * 5 + 1, none⟩) l1).trans g1
      have y1 : ∀ g : Grown wr, g.val.cell? ⟨b2, off2 + k * 5 + 1, none⟩ = some (.string (T k).own) := fun g => ((after hb0 (hbel.trans (g.bel.mono hbel.size))).cell (p := ⟨b2, off2 + k * 5 + 1, none⟩) l2).trans f1
      have z2 : ∀ g : Grown wr, g.val.cell? ⟨b, off + k * 5 + 2, none⟩ = some (.int .i64 (S k).pe) := fun g => ((after hb0 (hbel.trans (g.bel.mono hbel.size))).cell (p := ⟨b, off + k * 5 + 2, none⟩) l1).trans g2
      have y2 : ∀ g : Grown wr, g.val.cell? ⟨b2, off2 + k * 5 + 2, none⟩ = some (.int .i64 (T k).pe) := fun g => ((after hb0 (hbel.trans (g.bel.mono hbel.size))).cell (p := ⟨b2, off2 + k * 5 + 2, none⟩) l2).trans f2
      have z3 : ∀ g : Grown wr, g.val.cell? ⟨b, off + k * 5 + 3, none⟩ = some (.int .i64 (S k).ln) := fun g => ((after hb0 (hbel.trans (g.bel.mono hbel.size))).cell (p := ⟨b, off + k * 5 + 3, none⟩) l1).trans g3
      have y3 : ∀ g : Grown wr, g.val.cell? ⟨b2, off2 + k * 5 + 3, none⟩ = some (.int .i64 (T k).ln) := fun g => ((after hb0 (hbel.trans (g.bel.mono hbel.size))).cell (p := ⟨b2, off2 + k * 5 + 3, none⟩) l2).trans f3
      have z4 : ∀ g : Grown wr, g.val.cell? ⟨b, off + k * 5 + 4, none⟩ = some (.int .i64 (S k).cab) := fun g => ((after hb0 (hbel.trans (g.bel.mono hbel.size))).cell (p := ⟨b, off + k * 5 + 4, none⟩) l1).trans g4
      have y4 : ∀ g : Grown wr, g.val.cell? ⟨b2, off2 + k * 5 + 4, none⟩ = some (.int .i64 (T k).cab) := fun g => ((after hb0 (hbel.trans (g.bel.mono hbel.size))).cell (p := ⟨b2, off2 + k * 5 + 4, none⟩) l2).trans f4
      obtain ⟨p, hp⟩ : ∃ p : Bool, p = decide (S k = T k) := ⟨_, rfl⟩
      have qn := row_neq (S k) (T k)
      rw [← hp] at qn
      have HP : Hid (p = true ↔ S k = T k) := by rw [hp]; exact decide_eq_true_iff
      clear hp g0 f0 g1 f1 g2 f2 g3 f3 g4 f4
      go_upto_region 6 with fail
      refine wp_region_grow (by kernel_rfl) (by kernel_rfl) ?_
      repeat (first | go_big_quiet_skip | (go_big_quiet_want; go_big_quiet_op; go_big_quiet_on))
      refine wpQuiet_nil ?_
      rintro _ ⟨g, rfl⟩
      clear z0 y0 z1 y1 z2 y2 z3 y3 z4 y4 qn ba bb
      cases p with
      | true =>
        go_wp2
        go_roundw
        case rel =>
          refine ⟨k + 1, by omega, by go_num, fun j hj => ?_, after hbel g.bel⟩
          by_cases e : j = k
          · subst e; exact HP.out.1 rfl
          · exact HA.out j (by omega)
        case measure => simp [intOf]; omega
      | false =>
        have hqf : q = false := by
          cases q with
          | false => rfl
          | true => exact absurd (HP.out.2 (HQ.out.1 rfl k hlt)) (by decide)
        subst hqf
        go_wp2
        go_ret
        exact ⟨rfl, after hb0 (after hbel g.bel)⟩
    · obtain rfl : k = rn := by omega
      have hqt : q = true := HQ.out.2 HA.out
      subst hqt
      go_wp2
      go_ret
      exact ⟨rfl, after hb0 hbel⟩

set_option maxHeartbeats 3200000 in
set_option maxRecDepth 100000 in
theorem specSame_any (ao bo : Option Addr) (N c M d : Nat) (S : Nat → DoneD) (T : Nat → AnsD) (w : World) (hN : N ≤ 1048576) (hM : M ≤ 1048576) (hs : DoneDsShort N S 1048576) (ht : AnsDsShort M T 1048576) (hx : DoneDsAt w ao N S) (hy : AnsDsAt w bo M T) :
    Calls Try.prog 15 #[.slice ao N c, .slice bo M d] w fun e w' => e = .returned (.bool (donesSame N M S T)) ∧ Below w.heap.size w w' := by
  by_cases hnm : N = M
  case neg =>
    have e1 : donesSame N M S T = false := decide_eq_false (fun h => hnm h.1)
    rw [e1]
    have e2 : ((N : Int) = (M : Int)) = False := by simp; omega
    go_enter Try.func15, Try.ntmps15
    go_wp2
    go_ret
    exact ⟨rfl, Below.refl _ _⟩
  subst hnm
  have HX : Hid (DoneDsAt w ao N S) := hx
  have HY : Hid (AnsDsAt w bo N T) := hy
  have HS : Hid (DoneDsShort N S 1048576) := hs
  have HT : Hid (AnsDsShort N T 1048576) := ht
  clear hx hy hs ht
  obtain ⟨q, hq⟩ : ∃ q : Bool, q = donesSame N N S T := ⟨_, rfl⟩
  have HQ : Hid (q = true ↔ ∀ i, i < N → AnsSame (ansOf (S i)) (T i)) := by rw [hq]; exact ⟨fun h => (of_decide_eq_true h).2, fun h => decide_eq_true ⟨rfl, h⟩⟩
  rw [← hq]
  clear hq
  go_enter Try.func15, Try.ntmps15
  go_wp2
  go_loopw [5, 13] (fun _ i wr => ∃ k : Nat, k ≤ N ∧ i = .int .i64 k ∧ (∀ j, j < k → AnsSame (ansOf (S j)) (T j)) ∧ Below w.heap.size w wr) (fun _ i _ => N - (intOf i).toNat)
  case atStart => exact ⟨0, Nat.zero_le _, rfl, fun j hj => absurd hj (Nat.not_lt_zero _), Below.refl _ _⟩
  case round =>
    obtain ⟨k, hk, rfl, hal, hbel⟩ := hrel
    have HA : Hid (∀ j, j < k → AnsSame (ansOf (S j)) (T j)) := hal
    clear hal
    by_cases hlt : k < N
    · obtain ⟨C, hC, hI⟩ := HX.out
      obtain ⟨D, hD, hJ⟩ := HY.out
      obtain ⟨b, off, rfl, hc⟩ := hC k hlt
      obtain ⟨b2, off2, rfl, hd⟩ := hD k hlt
      obtain ⟨alg, clg, arw, crw, eC, q1, q2, hrw, q3⟩ := hI k hlt
      obtain ⟨brw, drw, eD, hrv, q4⟩ := hJ k hlt
      clear q1 q2 q3 q4
      have l1 : b < w.heap.size := World.block_lt_of_cell? w _ (hc 0 (by decide))
      have l2 : b2 < w.heap.size := World.block_lt_of_cell? w _ (hd 0 (by decide))
      have HR : Hid (MRowsAt w arw (S k).rwn (S k).rw ∧ (S k).rwn ≤ 1048576) := ⟨hrw, (HS.out k hlt).2.2.1⟩
      have HV : Hid (MRowsAt w brw (T k).rwn (T k).rw ∧ (T k).rwn ≤ 1048576) := ⟨hrv, (HT.out k hlt).1⟩
      have z13 : ∀ g : Grown wr, g.val.cell? ⟨b, off + k * 17 + 13, none⟩ = some (.int .i64 (S k).code) := fun g => ((hbel.trans (g.bel.mono hbel.size)).cell (p := ⟨b, off + k * 17 + 13, none⟩) l1).trans (by have := hc 13 (by decide); rw [eC] at this; exact this)
      have z14 : ∀ g : Grown wr, g.val.cell? ⟨b, off + k * 17 + 14, none⟩ = some (.int .i64 (S k).anam) := fun g => ((hbel.trans (g.bel.mono hbel.size)).cell (p := ⟨b, off + k * 17 + 14, none⟩) l1).trans (by have := hc 14 (by decide); rw [eC] at this; exact this)
      have z15 : ∀ g : Grown wr, g.val.cell? ⟨b, off + k * 17 + 15, none⟩ = some (.int .i64 (S k).price) := fun g => ((hbel.trans (g.bel.mono hbel.size)).cell (p := ⟨b, off + k * 17 + 15, none⟩) l1).trans (by have := hc 15 (by decide); rw [eC] at this; exact this)
      have z16 : ∀ g : Grown wr, g.val.cell? ⟨b, off + k * 17 + 16, none⟩ = some (.slice arw (S k).rwn crw) := fun g => ((hbel.trans (g.bel.mono hbel.size)).cell (p := ⟨b, off + k * 17 + 16, none⟩) l1).trans (by have := hc 16 (by decide); rw [eC] at this; exact this)
      have y0 : ∀ g : Grown wr, g.val.cell? ⟨b2, off2 + k * 4, none⟩ = some (.int .i64 (T k).code) := fun g => ((hbel.trans (g.bel.mono hbel.size)).cell (p := ⟨b2, off2 + k * 4, none⟩) l2).trans (by have := hd 0 (by decide); rw [eD] at this; exact this)
      have y1 : ∀ g : Grown wr, g.val.cell? ⟨b2, off2 + k * 4 + 1, none⟩ = some (.int .i64 (T k).anam) := fun g => ((hbel.trans (g.bel.mono hbel.size)).cell (p := ⟨b2, off2 + k * 4 + 1, none⟩) l2).trans (by have := hd 1 (by decide); rw [eD] at this; exact this)
      have y2 : ∀ g : Grown wr, g.val.cell? ⟨b2, off2 + k * 4 + 2, none⟩ = some (.int .i64 (T k).price) := fun g => ((hbel.trans (g.bel.mono hbel.size)).cell (p := ⟨b2, off2 + k * 4 + 2, none⟩) l2).trans (by have := hd 2 (by decide); rw [eD] at this; exact this)
      have y3 : ∀ g : Grown wr, g.val.cell? ⟨b2, off2 + k * 4 + 3, none⟩ = some (.slice brw (T k).rwn drw) := fun g => ((hbel.trans (g.bel.mono hbel.size)).cell (p := ⟨b2, off2 + k * 4 + 3, none⟩) l2).trans (by have := hd 3 (by decide); rw [eD] at this; exact this)
      have i1 : (0 : Int) ≤ (k : Int) := by omega
      have i2 : (k : Int) < (N : Int) := by omega
      clear hC hI hD hJ hc hd eC eD hrw hrv
      obtain ⟨p, hp⟩ : ∃ p : Bool, p = decide (AnsSame ⟨(S k).code, (S k).anam, (S k).price, (S k).rwn, (S k).rw⟩ ⟨(T k).code, (T k).anam, (T k).price, (T k).rwn, (T k).rw⟩) := ⟨_, rfl⟩
      have HC : Hid (∀ g : Grown wr, Calls Try.prog 25 #[.agg #[.int .i64 (S k).code, .int .i64 (S k).anam, .int .i64 (S k).price, .slice arw (S k).rwn crw], .agg #[.int .i64 (T k).code, .int .i64 (T k).anam, .int .i64 (T k).price, .slice brw (T k).rwn drw]] g.val fun e w' => e = .returned (.bool p) ∧ Below g.val.heap.size g.val w') := by
        rw [hp]
        exact fun g => l9Same_raw _ _ _ _ _ _ _ _ _ _ _ _ _ _ _ HR.out.2 HV.out.2 (HR.out.1.below (hbel.trans (g.bel.mono hbel.size))) (HV.out.1.below (hbel.trans (g.bel.mono hbel.size)))
      have HP : Hid (p = true ↔ AnsSame (ansOf (S k)) (T k)) := by rw [hp]; exact decide_eq_true_iff
      clear hp
      go_upto_region 6 with fail
      refine wp_region_grow (by kernel_rfl) (by kernel_rfl) ?_
      repeat (first | go_big_quiet_skip | (go_big_quiet_want; go_big_quiet_op; first | go_big_quiet_on | (apply Exists.intro; refine ⟨fun g => ?_, ?_⟩; (focus (first | (go_at_call 25; refine grown_call (v := .bool p) ((HC.out g).mono ?_); rintro e w2 ⟨rfl, hb2⟩; exact ⟨rfl, hb2⟩))); go_big_quiet_on)))
      refine wpQuiet_nil ?_
      rintro _ ⟨g, rfl⟩
      clear z13 z14 z15 z16 y0 y1 y2 y3 HC
      cases p with
      | true =>
        go_wp2
        go_roundw
        case rel =>
          refine ⟨k + 1, by omega, by go_num, fun j hj => ?_, after hbel g.bel⟩
          by_cases e : j = k
          · subst e; exact HP.out.1 (by first | rfl | trivial)
          · exact HA.out j (by omega)
        case measure => simp [intOf]; omega
      | false =>
        have hqf : q = false := by
          cases q with
          | false => rfl
          | true => exact absurd (HP.out.2 (HQ.out.1 rfl k hlt)) (by decide)
        subst hqf
        go_wp2
        go_ret
        exact ⟨rfl, after hbel g.bel⟩
    · obtain rfl : k = N := by omega
      have hqt : q = true := HQ.out.2 HA.out
      subst hqt
      go_wp2
      go_ret
      exact ⟨rfl, hbel⟩

end Go.Proofs.Ytcioofnmhfehaaa
