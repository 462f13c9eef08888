/-
  OWN TEXT: the contracts of the program's sameAnswer, of what it hands to slices.EqualFunc, of EqualFunc at it, and of SameAnswers.
-/
import Derived.Test.YtcioofnmhfehaaaPlainSa
import Derived.Test.YtcioofnmhfehaaaKitRes
import Derived.Great.Walk
namespace Go.Proofs.Ytcioofnmhfehaaa
open Go.RowKit Classical

set_option maxHeartbeats 1600000 in
set_option maxRecDepth 100000 in
theorem sameAnswer_raw (c1 n1 p1 : Int) (ao : Option Addr) (rn rc : Nat) (S : Nat → MRow) (c2 n2 p2 : Int) (bo : Option Addr) (rm rd : Nat) (T : Nat → MRow) (w : World) (hn : rn ≤ 1048576) (hm : rm ≤ 1048576) (hx : MRowsAt w ao rn S) (hy : MRowsAt w bo rm T) :
    Calls Try.prog 29 #[.agg #[.int .i64 c1, .int .i64 n1, .int .i64 p1, .slice ao rn rc], .agg #[.int .i64 c2, .int .i64 n2, .int .i64 p2, .slice bo rm rd]] w fun e w' => e = .returned (.bool (decide (AnsSame ⟨c1, n1, p1, rn, S⟩ ⟨c2, n2, p2, rm, T⟩))) ∧ Below w.heap.size w w' := by
  have hb0 : Below w.heap.size w ((w.alloc (.cells #[.int .i64 c1, .int .i64 n1, .int .i64 p1, .slice ao rn rc] 55)).alloc (.cells #[.int .i64 c2, .int .i64 n2, .int .i64 p2, .slice bo rm rd] 55)) := push (push (Below.refl _ _) _) _
  by_cases h1 : c1 = c2
  case neg =>
    have e1 : decide (AnsSame ⟨c1, n1, p1, rn, S⟩ ⟨c2, n2, p2, rm, T⟩) = false := decide_eq_false (fun h => h1 h.1)
    rw [e1]
    have e2 : (c1 = c2) = False := eq_false h1
    go_enter Try.func29, Try.ntmps29
    go_wp2
    go_ret
    exact ⟨rfl, hb0⟩
  subst h1
  by_cases h2 : n1 = n2
  case neg =>
    have e1 : decide (AnsSame ⟨c1, n1, p1, rn, S⟩ ⟨c1, n2, p2, rm, T⟩) = false := decide_eq_false (fun h => h2 h.2.1)
    rw [e1]
    have e2 : (n1 = n2) = False := eq_false h2
    go_enter Try.func29, Try.ntmps29
    go_wp2
    go_ret
    exact ⟨rfl, hb0⟩
  subst h2
  by_cases h3 : p1 = p2
  case neg =>
    have e1 : decide (AnsSame ⟨c1, n1, p1, rn, S⟩ ⟨c1, n1, p2, rm, T⟩) = false := decide_eq_false (fun h => h3 h.2.2.1)
    rw [e1]
    have e2 : (p1 = p2) = False := eq_false h3
    go_enter Try.func29, Try.ntmps29
    go_wp2
    go_ret
    exact ⟨rfl, hb0⟩
  subst h3
  have e1 : decide (AnsSame ⟨c1, n1, p1, rn, S⟩ ⟨c1, n1, p1, rm, T⟩) = decide (rowsAlike rn rm S T) := by rw [decide_eq_decide]; exact ⟨fun h => h.2.2.2, fun h => ⟨rfl, rfl, rfl, h⟩⟩
  rw [e1]
  clear e1
  obtain ⟨q, hq⟩ : ∃ q : Bool, q = decide (rowsAlike rn rm S T) := ⟨_, rfl⟩
  rw [← hq]
  have HQ : Hid (q = decide (rowsAlike rn rm S T)) := hq
  clear hq
  go_enter Try.func29, Try.ntmps29
  go_wp2_with fail
  refine (equalRow_any ao bo rn rc rm rd S T _ hn hm (hx.below hb0) (hy.below hb0)).mono ?_
  rintro e w1 ⟨he, hb1⟩
  rw [← HQ.out] at he
  subst he
  go_wp2
  go_ret
  exact ⟨rfl, after hb0 hb1⟩

set_option maxHeartbeats 1600000 in
set_option maxRecDepth 100000 in
theorem same1_raw (v0 v1 v2 v3 v4 v5 v6 v7 v8 v9 v10 v11 v12 : Value) (c1 n1 p1 : Int) (ao : Option Addr) (rn rc : Nat) (S : Nat → MRow) (c2 n2 p2 : Int) (bo : Option Addr) (rm rd : Nat) (T : Nat → MRow) (w : World) (hn : rn ≤ 1048576) (hm : rm ≤ 1048576) (hx : MRowsAt w ao rn S) (hy : MRowsAt w bo rm T) :
    Calls Try.prog 28 #[.agg #[v0, v1, v2, v3, v4, v5, v6, v7, v8, v9, v10, v11, v12, .int .i64 c1, .int .i64 n1, .int .i64 p1, .slice ao rn rc], .agg #[.int .i64 c2, .int .i64 n2, .int .i64 p2, .slice bo rm rd]] w fun e w' => e = .returned (.bool (decide (AnsSame ⟨c1, n1, p1, rn, S⟩ ⟨c2, n2, p2, rm, T⟩))) ∧ Below w.heap.size w w' := by
  have hb0 : Below w.heap.size w ((w.alloc (.cells #[v0, v1, v2, v3, v4, v5, v6, v7, v8, v9, v10, v11, v12, .int .i64 c1, .int .i64 n1, .int .i64 p1, .slice ao rn rc] 57)).alloc (.cells #[.int .i64 c2, .int .i64 n2, .int .i64 p2, .slice bo rm rd] 55)) := push (push (Below.refl _ _) _) _
  obtain ⟨q, hq⟩ : ∃ q : Bool, q = decide (AnsSame ⟨c1, n1, p1, rn, S⟩ ⟨c2, n2, p2, rm, T⟩) := ⟨_, rfl⟩
  rw [← hq]
  have HQ : Hid (q = decide (AnsSame ⟨c1, n1, p1, rn, S⟩ ⟨c2, n2, p2, rm, T⟩)) := hq
  clear hq
  go_enter Try.func28, Try.ntmps28
  go_wp2_with fail
  refine (sameAnswer_raw c1 n1 p1 ao rn rc S c2 n2 p2 bo rm rd T _ hn hm (hx.below hb0) (hy.below hb0)).mono ?_
  rintro e w1 ⟨he, hb1⟩
  rw [← HQ.out] at he
  subst he
  go_wp2
  go_ret
  exact ⟨rfl, after hb0 hb1⟩

set_option maxHeartbeats 6400000 in
set_option maxRecDepth 100000 in
theorem equalFunc_any (ao bo : Option Addr) (N c M d : Nat) (S : Nat → DoneD) (T : Nat → AnsD) (w : World) (hN : N ≤ 1048576) (hM : M ≤ 1048576) (hs : DoneDsShort N S 1048576) (ht : AnsDsShort M T 1048576) (hx : DoneDsAt w ao N S) (hy : AnsDsAt w bo M T) :
    Calls Try.prog 27 #[.slice ao N c, .slice bo M d, .func (.func 28) #[] #[]] w fun e w' => e = .returned (.bool (donesSame N M S T)) ∧ Below w.heap.size w w' := by
  by_cases hnm : N = M
  case neg =>
    have e1 : donesSame N M S T = false := decide_eq_false (fun h => hnm h.1)
    rw [e1]
    have e2 : ((N : Int) = (M : Int)) = False := by simp; omega
    go_enter Try.func27, Try.ntmps27
    go_wp2
    go_ret
    exact ⟨rfl, Below.refl _ _⟩
  subst hnm
  have HX : Hid (DoneDsAt w ao N S) := hx
  have HY : Hid (AnsDsAt w bo N T) := hy
  have HS : Hid (DoneDsShort N S 1048576) := hs
  have HT : Hid (AnsDsShort N T 1048576) := ht
  clear hx hy hs ht
  obtain ⟨q, hq⟩ : ∃ q : Bool, q = donesSame N N S T := ⟨_, rfl⟩
  have HQ : Hid (q = true ↔ ∀ i, i < N → AnsSame (ansOf (S i)) (T i)) := by rw [hq]; exact ⟨fun h => (of_decide_eq_true h).2, fun h => decide_eq_true ⟨rfl, h⟩⟩
  rw [← hq]
  clear hq
  go_enter Try.func27, Try.ntmps27
  go_wp2
  go_loopw [7, 8, 9, 17] (fun _ _ _ i wr => ∃ k : Nat, k ≤ N ∧ i = .int .i64 k ∧ (∀ j, j < k → AnsSame (ansOf (S j)) (T j)) ∧ Below w.heap.size w wr) (fun _ _ _ i _ => N - (intOf i).toNat)
  case atStart => exact ⟨0, Nat.zero_le _, rfl, fun j hj => absurd hj (Nat.not_lt_zero _), Below.refl _ _⟩
  case round =>
    obtain ⟨k, hk, rfl, hal, hbel⟩ := hrel
    have HA : Hid (∀ j, j < k → AnsSame (ansOf (S j)) (T j)) := hal
    clear hal
    by_cases hlt : k < N
    · obtain ⟨C, hC, hI⟩ := HX.out
      obtain ⟨D, hD, hJ⟩ := HY.out
      obtain ⟨b, off, rfl, hc⟩ := hC k hlt
      obtain ⟨b2, off2, rfl, hd⟩ := hD k hlt
      obtain ⟨alg, clg, arw, crw, eC, q1, q2, hrw, q3⟩ := hI k hlt
      obtain ⟨brw, drw, eD, hrv, q4⟩ := hJ k hlt
      clear q1 q2 q3 q4
      have l1 : b < w.heap.size := World.block_lt_of_cell? w _ (hc 0 (by decide))
      have l2 : b2 < w.heap.size := World.block_lt_of_cell? w _ (hd 0 (by decide))
      have HR : Hid (MRowsAt w arw (S k).rwn (S k).rw ∧ (S k).rwn ≤ 1048576) := ⟨hrw, (HS.out k hlt).2.2.1⟩
      have HV : Hid (MRowsAt w brw (T k).rwn (T k).rw ∧ (T k).rwn ≤ 1048576) := ⟨hrv, (HT.out k hlt).1⟩
      have c0 : wr.cell? ⟨b, off + k * 17, none⟩ = some (.int .i64 (S k).who) := (hbel.cell (p := ⟨b, off + k * 17, none⟩) l1).trans (by have := hc 0 (by decide); rw [eC] at this; exact this)
      have c1 : wr.cell? ⟨b, off + k * 17 + 1, none⟩ = some (.int .i64 (S k).kind) := (hbel.cell (p := ⟨b, off + k * 17 + 1, none⟩) l1).trans (by have := hc 1 (by decide); rw [eC] at this; exact this)
      have c2 : wr.cell? ⟨b, off + k * 17 + 2, none⟩ = some (.string (S k).own) := (hbel.cell (p := ⟨b, off + k * 17 + 2, none⟩) l1).trans (by have := hc 2 (by decide); rw [eC] at this; exact this)
      have c3 : wr.cell? ⟨b, off + k * 17 + 3, none⟩ = some (.int .i64 (S k).name) := (hbel.cell (p := ⟨b, off + k * 17 + 3, none⟩) l1).trans (by have := hc 3 (by decide); rw [eC] at this; exact this)
      have c4 : wr.cell? ⟨b, off + k * 17 + 4, none⟩ = some (.slice alg (S k).lgn clg) := (hbel.cell (p := ⟨b, off + k * 17 + 4, none⟩) l1).trans (by have := hc 4 (by decide); rw [eC] at this; exact this)
      have c5 : wr.cell? ⟨b, off + k * 17 + 5, none⟩ = some (.int .i64 (S k).pe) := (hbel.cell (p := ⟨b, off + k * 17 + 5, none⟩) l1).trans (by have := hc 5 (by decide); rw [eC] at this; exact this)
      have c6 : wr.cell? ⟨b, off + k * 17 + 6, none⟩ = some (.int .i64 (S k).len) := (hbel.cell (p := ⟨b, off + k * 17 + 6, none⟩) l1).trans (by have := hc 6 (by decide); rw [eC] at this; exact this)
      have c7 : wr.cell? ⟨b, off + k * 17 + 7, none⟩ = some (.int .i64 (S k).hei) := (hbel.cell (p := ⟨b, off + k * 17 + 7, none⟩) l1).trans (by have := hc 7 (by decide); rw [eC] at this; exact this)
      have c8 : wr.cell? ⟨b, off + k * 17 + 8, none⟩ = some (.int .i64 (S k).cl) := (hbel.cell (p := ⟨b, off + k * 17 + 8, none⟩) l1).trans (by have := hc 8 (by decide); rw [eC] at this; exact this)
      have c9 : wr.cell? ⟨b, off + k * 17 + 9, none⟩ = some (.bool (S k).all) := (hbel.cell (p := ⟨b, off + k * 17 + 9, none⟩) l1).trans (by have := hc 9 (by decide); rw [eC] at this; exact this)
      have c10 : wr.cell? ⟨b, off + k * 17 + 10, none⟩ = some (.int .i64 (S k).be) := (hbel.cell (p := ⟨b, off + k * 17 + 10, none⟩) l1).trans (by have := hc 10 (by decide); rw [eC] at this; exact this)
      have c11 : wr.cell? ⟨b, off + k * 17 + 11, none⟩ = some (.int .i64 (S k).unt) := (hbel.cell (p := ⟨b, off + k * 17 + 11, none⟩) l1).trans (by have := hc 11 (by decide); rw [eC] at this; exact this)
      have c12 : wr.cell? ⟨b, off + k * 17 + 12, none⟩ = some (.int .i64 (S k).now) := (hbel.cell (p := ⟨b, off + k * 17 + 12, none⟩) l1).trans (by have := hc 12 (by decide); rw [eC] at this; exact this)
      have c13 : wr.cell? ⟨b, off + k * 17 + 13, none⟩ = some (.int .i64 (S k).code) := (hbel.cell (p := ⟨b, off + k * 17 + 13, none⟩) l1).trans (by have := hc 13 (by decide); rw [eC] at this; exact this)
      have c14 : wr.cell? ⟨b, off + k * 17 + 14, none⟩ = some (.int .i64 (S k).anam) := (hbel.cell (p := ⟨b, off + k * 17 + 14, none⟩) l1).trans (by have := hc 14 (by decide); rw [eC] at this; exact this)
      have c15 : wr.cell? ⟨b, off + k * 17 + 15, none⟩ = some (.int .i64 (S k).price) := (hbel.cell (p := ⟨b, off + k * 17 + 15, none⟩) l1).trans (by have := hc 15 (by decide); rw [eC] at this; exact this)
      have c16 : wr.cell? ⟨b, off + k * 17 + 16, none⟩ = some (.slice arw (S k).rwn crw) := (hbel.cell (p := ⟨b, off + k * 17 + 16, none⟩) l1).trans (by have := hc 16 (by decide); rw [eC] at this; exact this)
      have d0 : wr.cell? ⟨b2, off2 + k * 4, none⟩ = some (.int .i64 (T k).code) := (hbel.cell (p := ⟨b2, off2 + k * 4, none⟩) l2).trans (by have := hd 0 (by decide); rw [eD] at this; exact this)
      have d1 : wr.cell? ⟨b2, off2 + k * 4 + 1, none⟩ = some (.int .i64 (T k).anam) := (hbel.cell (p := ⟨b2, off2 + k * 4 + 1, none⟩) l2).trans (by have := hd 1 (by decide); rw [eD] at this; exact this)
      have d2 : wr.cell? ⟨b2, off2 + k * 4 + 2, none⟩ = some (.int .i64 (T k).price) := (hbel.cell (p := ⟨b2, off2 + k * 4 + 2, none⟩) l2).trans (by have := hd 2 (by decide); rw [eD] at this; exact this)
      have d3 : wr.cell? ⟨b2, off2 + k * 4 + 3, none⟩ = some (.slice brw (T k).rwn drw) := (hbel.cell (p := ⟨b2, off2 + k * 4 + 3, none⟩) l2).trans (by have := hd 3 (by decide); rw [eD] at this; exact this)
      clear hC hI hD hJ hc hd eC eD hrw hrv
      go_upto_region 6 with fail
      generalize hB : wr.alloc (.cells #[.int .i64 (S k).who, .int .i64 (S k).kind, .string (S k).own, .int .i64 (S k).name, .slice alg (S k).lgn clg, .int .i64 (S k).pe, .int .i64 (S k).len, .int .i64 (S k).hei, .int .i64 (S k).cl, .bool (S k).all, .int .i64 (S k).be, .int .i64 (S k).unt, .int .i64 (S k).now, .int .i64 (S k).code, .int .i64 (S k).anam, .int .i64 (S k).price, .slice arw (S k).rwn crw] 57) = W at *
      have hbw : Below wr.heap.size wr W := by rw [← hB]; exact push (Below.refl _ _) _
      have bB : W.heap[wr.heap.size]? = some (.cells #[.int .i64 (S k).who, .int .i64 (S k).kind, .string (S k).own, .int .i64 (S k).name, .slice alg (S k).lgn clg, .int .i64 (S k).pe, .int .i64 (S k).len, .int .i64 (S k).hei, .int .i64 (S k).cl, .bool (S k).all, .int .i64 (S k).be, .int .i64 (S k).unt, .int .i64 (S k).now, .int .i64 (S k).code, .int .i64 (S k).anam, .int .i64 (S k).price, .slice arw (S k).rwn crw] 57 (0, 0)) := by rw [← hB]; exact heap_alloc_new _ _
      have l3 : b2 < wr.heap.size := by have := hbel.size; omega
      replace d0 := (hbw.cell (p := ⟨b2, off2 + k * 4, none⟩) l3).trans d0
      replace d1 := (hbw.cell (p := ⟨b2, off2 + k * 4 + 1, none⟩) l3).trans d1
      replace d2 := (hbw.cell (p := ⟨b2, off2 + k * 4 + 2, none⟩) l3).trans d2
      replace d3 := (hbw.cell (p := ⟨b2, off2 + k * 4 + 3, none⟩) l3).trans d3
      clear hB c0 c1 c2 c3 c4 c5 c6 c7 c8 c9 c10 c11 c12 c13 c14 c15 c16
      go_upto_region 7 with fail
      generalize hB : W.alloc (.cells #[.int .i64 (T k).code, .int .i64 (T k).anam, .int .i64 (T k).price, .slice brw (T k).rwn drw] 55) = V at *
      have hbv : Below W.heap.size W V := by rw [← hB]; exact push (Below.refl _ _) _
      have bA : V.heap[W.heap.size]? = some (.cells #[.int .i64 (T k).code, .int .i64 (T k).anam, .int .i64 (T k).price, .slice brw (T k).rwn drw] 55 (0, 0)) := by rw [← hB]; exact heap_alloc_new _ _
      replace bB := blk_below bB hbv
      have hb3 : Below w.heap.size w V := after (after hbel hbw) hbv
      clear hB d0 d1 d2 d3 hbw hbv
      refine wp_region_lit ?_
      refine Go.Great.wpList_runTo rfl _ rfl _ _ (show _ = _ from rfl) ?_
      refine wpList_load_row rfl _ _ rfl wr.heap.size rfl _ _ (0, 0) _ bB Try.underlying57 rfl (by kernel_rfl) ?_
      refine wpList_load_row rfl _ _ rfl W.heap.size rfl _ _ (0, 0) _ bA Try.underlying55 rfl (by kernel_rfl) ?_
      clear bB bA
      go_wp2_with fail
      refine (same1_raw _ _ _ _ _ _ _ _ _ _ _ _ _ (S k).code (S k).anam (S k).price arw (S k).rwn crw (S k).rw (T k).code (T k).anam (T k).price brw (T k).rwn drw (T k).rw _ HR.out.2 HV.out.2 (HR.out.1.below hb3) (HV.out.1.below hb3)).mono ?_
      rintro e w9 ⟨rfl, hb9⟩
      obtain ⟨p, hp⟩ : ∃ p : Bool, p = decide (AnsSame ⟨(S k).code, (S k).anam, (S k).price, (S k).rwn, (S k).rw⟩ ⟨(T k).code, (T k).anam, (T k).price, (T k).rwn, (T k).rw⟩) := ⟨_, rfl⟩
      rw [← hp]
      have HP : Hid (p = true ↔ AnsSame (ansOf (S k)) (T k)) := by rw [hp]; exact decide_eq_true_iff
      clear hp
      cases p with
      | true =>
        go_wp2
        go_roundw
        case rel =>
          refine ⟨k + 1, by omega, by go_num, fun j hj => ?_, after hb3 hb9⟩
          by_cases e : j = k
          · subst e; exact HP.out.1 (by first | rfl | trivial)
          · exact HA.out j (by omega)
        case measure => simp [intOf]; omega
      | false =>
        have hqf : q = false := by
          cases q with
          | false => rfl
          | true => exact absurd (HP.out.2 (HQ.out.1 rfl k hlt)) (by decide)
        subst hqf
        go_wp2
        go_ret
        exact ⟨rfl, after hb3 hb9⟩
    · obtain rfl : k = N := by omega
      have hqt : q = true := HQ.out.2 HA.out
      subst hqt
      go_wp2
      go_ret
      exact ⟨rfl, hbel⟩

set_option maxHeartbeats 800000 in
theorem implSame_any (ao bo : Option Addr) (N c M d : Nat) (S : Nat → DoneD) (T : Nat → AnsD) (w : World) (hN : N ≤ 1048576) (hM : M ≤ 1048576) (hs : DoneDsShort N S 1048576) (ht : AnsDsShort M T 1048576) (hx : DoneDsAt w ao N S) (hy : AnsDsAt w bo M T) :
    Calls Try.prog 17 #[.slice ao N c, .slice bo M d] w fun e w' => e = .returned (.bool (donesSame N M S T)) ∧ Below w.heap.size w w' := by
  go_enter Try.func17, Try.ntmps17
  go_wp2_with fail
  refine (equalFunc_any ao bo N c M d S T _ hN hM hs ht hx hy).mono ?_
  rintro e w1 ⟨rfl, hb1⟩
  go_wp2
  go_ret
  exact ⟨rfl, hb1⟩

end Go.Proofs.Ytcioofnmhfehaaa
