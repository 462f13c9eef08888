/-
  OWN TEXT: the contracts of store.freeListed and store.good: whether the arena is good, by naming.
-/
import Derived.Test.YtclcjnbjpelcjaaImpl2
namespace Go.Proofs.Ytclcjnbjpelcjaa
open Go.RowKit

set_option maxHeartbeats 1600000 in
set_option maxRecDepth 100000 in
theorem freeListed_any (ao bo : Option Addr) (n m c1 c2 : Nat) (A : Nat → Int) (U : Nat → Bool) (V F : Nat → Int) (w : World) (hn : n ≤ 20) (hm : m ≤ 1048576)
    (hx : SlotsAt w ao n A U V) (hy : IntsAt w bo m F) :
    Calls Try.prog 123 #[.agg #[.slice ao n c1, .slice bo m c2]] w fun e w' => ∃ b : Bool, e = .returned (.bool b) ∧
      (b = true ↔ Listed n m A U F) ∧ Below w.heap.size w w' := by
  go_enter Try.func123, Try.ntmps123
  go_wp2
  go_loopw [11] (fun i wr => ∃ k : Nat, k ≤ m ∧ i = .int .i64 k ∧ allFree n A U F k ∧ wr.rowIs (w.heap.size + 1) 229 20 (fun j => .bool (listedB F k j)) ∧
      wr.heap[w.heap.size]? = some (.cells #[.slice ao n c1, .slice bo m c2] 97 (0, 0)) ∧ Below w.heap.size w wr) (fun i _ => m - (intOf i).toNat)
  case atStart =>
    refine ⟨0, Nat.zero_le _, rfl, by intro j hj; omega, ?_, blk_alloc (heap_alloc_new w _) _, push (push (Below.refl _ _) _) _⟩
    have := World.rowIs_alloc (w.alloc (.cells #[.slice ao n c1, .slice bo m c2] 97)) #[.bool false, .bool false, .bool false, .bool false, .bool false, .bool false, .bool false, .bool false, .bool false, .bool false, .bool false, .bool false, .bool false, .bool false, .bool false, .bool false, .bool false, .bool false, .bool false, .bool false] 229 (fun j => .bool (listedB F 0 j)) (by
      intro i hi
      have h20 : i < 20 := hi
      have hc : i = 0 ∨ i = 1 ∨ i = 2 ∨ i = 3 ∨ i = 4 ∨ i = 5 ∨ i = 6 ∨ i = 7 ∨ i = 8 ∨ i = 9 ∨ i = 10 ∨ i = 11 ∨ i = 12 ∨ i = 13 ∨ i = 14 ∨ i = 15 ∨ i = 16 ∨ i = 17 ∨ i = 18 ∨ i = 19 := by omega
      rcases hc with rfl | rfl | rfl | rfl | rfl | rfl | rfl | rfl | rfl | rfl | rfl | rfl | rfl | rfl | rfl | rfl | rfl | rfl | rfl | rfl <;> rfl)
    simpa using this
  case round =>
    obtain ⟨i, hi, rfl, hfr, hrow, hbox, hbel⟩ := hrel
    have HFr : Hid (allFree n A U F i) := hfr
    clear hfr
    have q0 := blk_cell hbox 0 _ rfl
    have q1 := blk_cell hbox 1 _ rfl
    have hlt2 := hrow.lt
    by_cases hlm : i < m
    · obtain ⟨b, off, rfl, h1⟩ := hy i (by omega)
      have hb := World.block_lt_of_cell? w _ h1
      have d1 := (hbel.cell (p := ⟨b, off + i, none⟩) hb).trans h1
      clear h1
      generalize hF : F i = x at *
      have HX : Hid (F i = x) := hF
      clear hF
      by_cases hr : 0 ≤ x ∧ x < (n : Int)
      · obtain ⟨hr1, hr2⟩ := hr
        obtain ⟨q, rfl⟩ := Int.eq_ofNat_of_zero_le hr1
        have hh : hasB n (q : Int) = true := by simp [hasB]; omega
        obtain ⟨b2, off2, rfl, g1, g2, g3⟩ := hx q (by omega)
        have hb2' := World.block_lt_of_cell? w _ g1
        have hbw : b2 < wr.heap.size := Nat.lt_of_lt_of_le hb2' hbel.size
        have s1 := (hbel.cell (p := ⟨b2, off2 + q * 3, none⟩) hb2').trans g1
        have s2 := (hbel.cell (p := ⟨b2, off2 + q * 3 + 1, none⟩) hb2').trans g2
        have s3 := (hbel.cell (p := ⟨b2, off2 + q * 3 + 2, none⟩) hb2').trans g3
        have hq20 : (q : Int) < 20 := by omega
        clear g1 g2 g3
        cases hfs : freeSlot (A q) (U q) with
        | false =>
          go_wp2_with (first | (go_at_call 166; refine (has_any _ _ _ _ _ _ _ _).mono ?_; rintro e w2 ⟨rfl, hb2⟩; have box2 := blk_below hbox hb2; have p0 := blk_cell box2 0 _ rfl; have t1 := (hb2.cell (p := ⟨b2, off2 + q * 3, none⟩) hbw).trans s1; have t2 := (hb2.cell (p := ⟨b2, off2 + q * 3 + 1, none⟩) hbw).trans s2; have t3 := (hb2.cell (p := ⟨b2, off2 + q * 3 + 2, none⟩) hbw).trans s3) | (go_at_call 128; refine (isFree_any _ _ _ _).mono ?_; rintro e w3 ⟨rfl, hb3⟩; have row3 := row_below (row_below hrow hb2) hb3; have box3 := blk_below box2 hb3; have l0 := row3.cell (i := q) (by omega); have lf := row3.frozen q))
          go_ret
          exact ⟨false, rfl, not_listed_free hlm (by rintro ⟨⟨_, _, h3⟩, _⟩; rw [HX.out] at h3; simp [hfs] at h3), after hbel (after hb2 hb3)⟩
        | true =>
          cases hl : listedB F i q with
          | true =>
            go_wp2_with (first | (go_at_call 166; refine (has_any _ _ _ _ _ _ _ _).mono ?_; rintro e w2 ⟨rfl, hb2⟩; have box2 := blk_below hbox hb2; have p0 := blk_cell box2 0 _ rfl; have t1 := (hb2.cell (p := ⟨b2, off2 + q * 3, none⟩) hbw).trans s1; have t2 := (hb2.cell (p := ⟨b2, off2 + q * 3 + 1, none⟩) hbw).trans s2; have t3 := (hb2.cell (p := ⟨b2, off2 + q * 3 + 2, none⟩) hbw).trans s3) | (go_at_call 128; refine (isFree_any _ _ _ _).mono ?_; rintro e w3 ⟨rfl, hb3⟩; have row3 := row_below (row_below hrow hb2) hb3; have box3 := blk_below box2 hb3; have l0 := row3.cell (i := q) (by omega); have lf := row3.frozen q))
            go_ret
            exact ⟨false, rfl, not_listed_free hlm (by rintro ⟨_, h4⟩; obtain ⟨t, ht, e⟩ := (listedB_iff F i q).1 hl; exact h4 t ht (by rw [e, HX.out])), after hbel (after hb2 hb3)⟩
          | false =>
            go_wp2_with (first | (go_at_call 166; refine (has_any _ _ _ _ _ _ _ _).mono ?_; rintro e w2 ⟨rfl, hb2⟩; have box2 := blk_below hbox hb2; have p0 := blk_cell box2 0 _ rfl; have t1 := (hb2.cell (p := ⟨b2, off2 + q * 3, none⟩) hbw).trans s1; have t2 := (hb2.cell (p := ⟨b2, off2 + q * 3 + 1, none⟩) hbw).trans s2; have t3 := (hb2.cell (p := ⟨b2, off2 + q * 3 + 2, none⟩) hbw).trans s3) | (go_at_call 128; refine (isFree_any _ _ _ _).mono ?_; rintro e w3 ⟨rfl, hb3⟩; have row3 := row_below (row_below hrow hb2) hb3; have box3 := blk_below box2 hb3; have l0 := row3.cell (i := q) (by omega); have lf := row3.frozen q))
            go_roundw
            case rel =>
              refine ⟨i + 1, by omega, by go_num, allFree_succ HFr.out ⟨?_, ?_⟩, ?_, ?_, ?_⟩
              · rw [HX.out]; exact ⟨by omega, by omega, by simpa using hfs⟩
              · rw [HX.out]; intro t ht e
                have := (listedB_iff F i q).2 ⟨t, ht, e⟩
                rw [hl] at this; cases this
              · refine (row3.set q _).congr fun j _ => ?_
                rw [listedB_succ, HX.out]
                by_cases e : j = q
                · subst e; simp
                · rw [if_neg e]; simp [show ¬ ((q : Int) = (j : Int)) by omega]
              · exact blk_set_other box3 _ _ (by omega)
              · exact (after hbel (after hb2 hb3)).setCell (by show w.heap.size ≤ w.heap.size + 1; omega) _
            case measure => simp [intOf]; omega
      · have hh : hasB n x = false := by simp [hasB]; omega
        go_wp2_with (first | (go_at_call 166; refine (has_any _ _ _ _ _ _ _ _).mono ?_; rintro e w2 ⟨rfl, hb2⟩))
        go_ret
        exact ⟨false, rfl, not_listed_free hlm (by rintro ⟨⟨h1, h2, _⟩, _⟩; rw [HX.out] at h1 h2; omega), after hbel hb2⟩
    · have him : i = m := by omega
      subst him
      go_wp2
      go_loopw [39] (fun j wr' => ∃ k : Nat, k ≤ n ∧ j = .int .i64 k ∧ (∀ t, t < k → freeSlot (A t) (U t) = true → ∃ s, s < i ∧ F s = t) ∧ wr'.rowIs (w.heap.size + 1) 229 20 (fun j => .bool (listedB F i j)) ∧ Below w.heap.size w wr') (fun j _ => n - (intOf j).toNat)
      case atStart => exact ⟨0, Nat.zero_le _, rfl, by intro t ht; omega, hrow, hbel⟩
      case round =>
        clear hrow hbel q0 q1 hbox hlt2
        obtain ⟨k, hk, rfl, hfa, hrow, hbel⟩ := hrel
        have HFa : Hid (∀ t, t < k → freeSlot (A t) (U t) = true → ∃ s, s < i ∧ F s = t) := hfa
        clear hfa
        by_cases hlt : k < n
        · obtain ⟨b2, off2, rfl, g1, g2, g3⟩ := hx k (by omega)
          have hb2' := World.block_lt_of_cell? w _ g1
          have s1 := (hbel.cell (p := ⟨b2, off2 + k * 3, none⟩) hb2').trans g1
          have s2 := (hbel.cell (p := ⟨b2, off2 + k * 3 + 1, none⟩) hb2').trans g2
          have s3 := (hbel.cell (p := ⟨b2, off2 + k * 3 + 2, none⟩) hb2').trans g3
          have hq20 : (k : Int) < 20 := by omega
          clear g1 g2 g3
          cases hfs : freeSlot (A k) (U k) with
          | false =>
            go_wp2_with (first | (go_at_call 128; refine (isFree_any _ _ _ _).mono ?_; rintro e w3 ⟨rfl, hb3⟩; have row3 := row_below (hrow.alloc _) hb3; have l0 := row3.cell (i := k) (by omega)))
            go_roundw
            case rel =>
              refine ⟨k + 1, by omega, by go_num, ?_, row3, after (push hbel _) hb3⟩
              intro t ht hf
              by_cases e : t = k
              · subst e; rw [hfs] at hf; cases hf
              · exact HFa.out t (by omega) hf
            case measure => simp [intOf]; omega
          | true =>
            cases hl : listedB F i k with
            | true =>
              go_wp2_with (first | (go_at_call 128; refine (isFree_any _ _ _ _).mono ?_; rintro e w3 ⟨rfl, hb3⟩; have row3 := row_below (hrow.alloc _) hb3; have l0 := row3.cell (i := k) (by omega)))
              go_roundw
              case rel =>
                refine ⟨k + 1, by omega, by go_num, ?_, row3, after (push hbel _) hb3⟩
                intro t ht hf
                by_cases e : t = k
                · subst e; exact (listedB_iff F i t).1 hl
                · exact HFa.out t (by omega) hf
              case measure => simp [intOf]; omega
            | false =>
              go_wp2_with (first | (go_at_call 128; refine (isFree_any _ _ _ _).mono ?_; rintro e w3 ⟨rfl, hb3⟩; have row3 := row_below (hrow.alloc _) hb3; have l0 := row3.cell (i := k) (by omega)))
              go_ret
              exact ⟨false, rfl, not_listed_slot hlt hfs hl, after (push hbel _) hb3⟩
        · have hkn : k = n := by omega
          subst hkn
          go_wp2
          go_ret
          exact ⟨true, rfl, ⟨fun _ => ⟨HFr.out, HFa.out⟩, fun _ => rfl⟩, hbel⟩

set_option maxHeartbeats 1600000 in
set_option maxRecDepth 100000 in
theorem storeGood_any (ao bo : Option Addr) (n m c1 c2 : Nat) (A : Nat → Int) (U : Nat → Bool) (V F : Nat → Int) (w : World) (hn : n ≤ 1048576) (hm : m ≤ 1048576)
    (hx : SlotsAt w ao n A U V) (hy : IntsAt w bo m F) :
    Calls Try.prog 47 #[.agg #[.slice ao n c1, .slice bo m c2]] w fun e w' => ∃ b : Bool, e = .returned (.bool b) ∧ (b = true ↔ Named n m A U V F) ∧ Below w.heap.size w w' := by
  by_cases h20 : n ≤ 20
  · go_enter Try.func47, Try.ntmps47
    go_wp2
    go_loopw [12] (fun i wr => ∃ k : Nat, k ≤ n ∧ i = .int .i64 k ∧ allOk A U V k ∧ wr.heap[w.heap.size]? = some (.cells #[.slice ao n c1, .slice bo m c2] 97 (0, 0)) ∧ Below w.heap.size w wr) (fun i _ => n - (intOf i).toNat)
    case atStart => exact ⟨0, Nat.zero_le _, rfl, by intro j hj; omega, heap_alloc_new w _, push (Below.refl _ _) _⟩
    case round =>
      obtain ⟨k, hk, rfl, hall, hbox, hbel⟩ := hrel
      have HA : Hid (allOk A U V k) := hall
      clear hall
      by_cases hlt : k < n
      · obtain ⟨b2, off2, rfl, g1, g2, g3⟩ := hx k (by omega)
        have hb2' := World.block_lt_of_cell? w _ g1
        have s1 := (hbel.cell (p := ⟨b2, off2 + k * 3, none⟩) hb2').trans g1
        have s2 := (hbel.cell (p := ⟨b2, off2 + k * 3 + 1, none⟩) hb2').trans g2
        have s3 := (hbel.cell (p := ⟨b2, off2 + k * 3 + 2, none⟩) hb2').trans g3
        clear g1 g2 g3
        cases hok : okSlot (A k) (U k) (V k) with
        | true =>
          go_wp2_with (first | (go_at_call 122; refine (recGood_any _ _ _ _).mono ?_; rintro e w3 ⟨rfl, hb3⟩))
          go_roundw
          case rel => exact ⟨k + 1, by omega, by go_num, allOk_succ HA.out ⟨rfl, rfl, rfl⟩ hok, blk_below (blk_alloc hbox _) hb3, after (push hbel _) hb3⟩
          case measure => simp [intOf]; omega
        | false =>
          go_wp2_with (first | (go_at_call 122; refine (recGood_any _ _ _ _).mono ?_; rintro e w3 ⟨rfl, hb3⟩))
          go_ret
          exact ⟨false, rfl, not_named_slot hlt hok, after (push hbel _) hb3⟩
      · have hkn : k = n := by omega
        subst hkn
        have q0 := blk_cell hbox 0 _ rfl
        have q1 := blk_cell hbox 1 _ rfl
        go_wp2_with fail
        refine (freeListed_any ao bo k m c1 c2 A U V F _ h20 hm (hx.below hbel) (hy.below hbel)).mono ?_
        rintro e w3 ⟨bb, rfl, hiff, hb3⟩
        have HI : Hid (bb = true ↔ Listed k m A U F) := hiff
        clear hiff
        go_wp2
        go_ret
        exact ⟨bb, rfl, by rw [named_iff, HI.out]; exact ⟨fun h => ⟨h20, HA.out, h⟩, fun h => h.2.2⟩, after hbel hb3⟩
  · go_enter Try.func47, Try.ntmps47
    go_wp2
    go_ret
    exact ⟨false, rfl, by simp [Named]; omega, push (Below.refl _ _) _⟩

end Go.Proofs.Ytclcjnbjpelcjaa
