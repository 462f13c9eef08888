/-
  OWN TEXT: the contract of spec.GoodArena: it says whether the arena is good, by counting.
-/
import Derived.Test.YtclcjnbjpelcjaaSpec1
import Derived.Test.YtclcjnbjpelcjaaPlain1
namespace Go.Proofs.Ytclcjnbjpelcjaa
open Go.RowKit

set_option maxHeartbeats 1600000 in
set_option maxRecDepth 100000 in
theorem specGood_any (ao bo : Option Addr) (n m c1 c2 : Nat) (A : Nat → Int) (U : Nat → Bool) (V F : Nat → Int) (w : World) (hn : n ≤ 1048576) (hm : m ≤ 1048576) (hcap : m ≤ c2) (hc2 : c2 ≤ 9223372036854775807)
    (hx : SlotsAt w ao n A U V) (hy : IntsAt w bo m F) :
    Calls Try.prog 50 #[.agg #[.slice ao n c1, .slice bo m c2]] w fun e w' => ∃ b : Bool, e = .returned (.bool b) ∧ (b = true ↔ Good n m A U V F) ∧ Below w.heap.size w w' := by
  by_cases h20 : n ≤ 20
  · go_enter Try.func50, Try.ntmps50
    go_wp2
    go_loopw [3, 15] (fun f i wr => ∃ k : Nat, k ≤ n ∧ i = .int .i64 k ∧ f = .int .i64 (cntFree A U k) ∧ allOk A U V k ∧ wr.heap[w.heap.size]? = some (.cells #[.slice ao n c1, .slice bo m c2] 26 (0, 0)) ∧ Below w.heap.size w wr) (fun _ i _ => n - (intOf i).toNat)
    case atStart => exact ⟨0, Nat.zero_le _, rfl, rfl, by intro j hj; omega, heap_alloc_new w _, push (Below.refl _ _) _⟩
    case round =>
      obtain ⟨k, hk, rfl, rfl, hall, hbox, hbel⟩ := hrel
      have HA : Hid (allOk A U V k) := hall
      clear hall
      have hcl := cntFree_le A U k
      by_cases hlt : k < n
      · obtain ⟨b, off, rfl, h1, h2, h3⟩ := hx k (by omega)
        have hb := World.block_lt_of_cell? w _ h1
        have d1 := (hbel.cell (p := ⟨b, off + k * 3, none⟩) hb).trans h1
        have d2 := (hbel.cell (p := ⟨b, off + k * 3 + 1, none⟩) hb).trans h2
        have d3 := (hbel.cell (p := ⟨b, off + k * 3 + 2, none⟩) hb).trans h3
        clear h1 h2 h3
        have HS : Hid (cntFree A U (k + 1) = cntFree A U k + (if freeSlot (A k) (U k) then 1 else 0)) := cntFree_succ A U k
        have HC := okSlot_cases (A k) (U k) (V k)
        generalize ha : A k = a at *
        generalize hu : U k = u at *
        generalize hv : V k = v at *
        have HE : Hid (A k = a ∧ U k = u ∧ V k = v) := ⟨ha, hu, hv⟩
        clear ha hu hv
        rcases HC with ⟨hok, hc⟩ | ⟨hno, hc⟩
        · have HO : Hid (okSlot a u v = true) := hok
          clear hok
          rcases hc with ⟨rfl, hc1, hc2, hf⟩ | ⟨rfl, hc1, hc2, rfl, hf⟩ | ⟨rfl, rfl, rfl, hf⟩
          · have e9 : (a == 9) = false := by simp; omega
            have HF : Hid (freeSlot a true = false) := hf
            clear hf
            go_wp2_with (first | (go_at_call 90; refine (l1In_yes _ _ _ _ (by omega) (by omega)).mono ?_; rintro e w' ⟨rfl, rfl⟩))
            go_roundw
            case rel => exact ⟨k + 1, by omega, by go_num, by rw [HS.out, HF.out]; rfl, allOk_succ HA.out HE.out HO.out, blk_alloc hbox _, push hbel _⟩
            case measure => simp [intOf]; omega
          · have HF : Hid (freeSlot a false = true) := hf
            clear hf
            have e9 : decide (a < 9) = true := by simpa using hc2
            go_wp2_with (first | (go_at_call 90; refine (l1In_yes _ _ _ _ (by omega) (by omega)).mono ?_; rintro e w' ⟨rfl, rfl⟩))
            go_roundw
            case rel => exact ⟨k + 1, by omega, by go_num, by rw [HS.out, HF.out]; go_num, allOk_succ HA.out HE.out HO.out, blk_alloc hbox _, push hbel _⟩
            case measure => simp [intOf]; omega
          · have HF : Hid (freeSlot 9 false = false) := hf
            clear hf
            go_wp2_with (first | (go_at_call 90; refine (l1In_yes _ _ _ _ (by omega) (by omega)).mono ?_; rintro e w' ⟨rfl, rfl⟩))
            go_roundw
            case rel => exact ⟨k + 1, by omega, by go_num, by rw [HS.out, HF.out]; rfl, allOk_succ HA.out HE.out HO.out, blk_alloc hbox _, push hbel _⟩
            case measure => simp [intOf]; omega
        · have HO : Hid (okSlot a u v = false) := hno
          clear hno
          rcases hc with hc | hc | ⟨rfl, rfl⟩ | ⟨rfl, hc1, hc2, hc3⟩
          · go_wp2_with (first | (go_at_call 90; refine (l1In_no _ _ _ _ (by omega)).mono ?_; rintro e w' ⟨rfl, rfl⟩))
            go_ret
            exact ⟨false, rfl, not_good_slot hlt HE.out HO.out, push hbel _⟩
          · go_wp2_with (first | (go_at_call 90; refine (l1In_no _ _ _ _ (by omega)).mono ?_; rintro e w' ⟨rfl, rfl⟩))
            go_ret
            exact ⟨false, rfl, not_good_slot hlt HE.out HO.out, push hbel _⟩
          · go_wp2_with (first | (go_at_call 90; refine (l1In_yes _ _ _ _ (by omega) (by omega)).mono ?_; rintro e w' ⟨rfl, rfl⟩))
            go_ret
            exact ⟨false, rfl, not_good_slot hlt HE.out HO.out, push hbel _⟩
          · have ev : (v != 0) = true := by simpa using hc3
            go_wp2_with (first | (go_at_call 90; refine (l1In_yes _ _ _ _ (by omega) (by omega)).mono ?_; rintro e w' ⟨rfl, rfl⟩))
            go_ret
            exact ⟨false, rfl, not_good_slot hlt HE.out HO.out, push hbel _⟩
      · have hkn : k = n := by omega
        subst hkn
        have q1 := blk_cell hbox 1 _ rfl
        go_wp2
        go_loopw [56] (fun i wr' => ∃ j : Nat, j ≤ m ∧ i = .int .i64 j ∧ allFree k A U F j ∧ wr'.heap[w.heap.size]? = some (.cells #[.slice ao k c1, .slice bo m c2] 26 (0, 0)) ∧ Below w.heap.size w wr') (fun i _ => m - (intOf i).toNat)
        case atStart => exact ⟨0, Nat.zero_le _, rfl, by intro j hj; omega, hbox, hbel⟩
        case round =>
          clear hbox hbel q1
          obtain ⟨i, hi, rfl, hfr, hbox, hbel⟩ := hrel
          have HFr : Hid (allFree k A U F i) := hfr
          clear hfr
          have q0 := blk_cell hbox 0 _ rfl
          have q1 := blk_cell hbox 1 _ rfl
          by_cases hlm : i < m
          · obtain ⟨b, off, rfl, h1⟩ := hy i (by omega)
            have hb := World.block_lt_of_cell? w _ h1
            have d1 := (hbel.cell (p := ⟨b, off + i, none⟩) hb).trans h1
            clear h1
            generalize hF : F i = x at *
            have HX : Hid (F i = x) := hF
            clear hF
            by_cases hr : 0 ≤ x ∧ x ≤ (k : Int) - 1
            · obtain ⟨hr1, hr2⟩ := hr
              obtain ⟨q, rfl⟩ := Int.eq_ofNat_of_zero_le hr1
              obtain ⟨b2, off2, rfl, g1, g2, g3⟩ := hx q (by omega)
              have hb2 := World.block_lt_of_cell? w _ g1
              have s1 := (hbel.cell (p := ⟨b2, off2 + q * 3, none⟩) hb2).trans g1
              have s2 := (hbel.cell (p := ⟨b2, off2 + q * 3 + 1, none⟩) hb2).trans g2
              have hok := okSlot_le (HA.out q (by omega))
              clear g1 g2 g3
              generalize ha : A q = a at *
              generalize hu : U q = u at *
              have HE : Hid (A q = a ∧ U q = u) := ⟨ha, hu⟩
              clear ha hu
              cases u with
              | true =>
                go_wp2_with (first | (go_at_call 90; refine (l1In_yes _ _ _ _ (by omega) (by omega)).mono ?_; rintro e w' ⟨rfl, rfl⟩))
                go_ret
                exact ⟨false, rfl, not_good_free hlm (by rintro ⟨⟨_, _, h3⟩, _⟩; rw [HX.out] at h3; simp [freeSlot, HE.out.2] at h3), hbel⟩
              | false =>
                by_cases h9 : a = 9
                · subst h9
                  go_wp2_with (first | (go_at_call 90; refine (l1In_yes _ _ _ _ (by omega) (by omega)).mono ?_; rintro e w' ⟨rfl, rfl⟩))
                  go_ret
                  exact ⟨false, rfl, not_good_free hlm (by rintro ⟨⟨_, _, h3⟩, _⟩; rw [HX.out] at h3; simp [freeSlot, HE.out.1] at h3), hbel⟩
                · have e9 : (a == 9) = false := by simpa using h9
                  go_wp2_with (first | (go_at_call 90; refine (l1In_yes _ _ _ _ (by omega) (by omega)).mono ?_; rintro e w' ⟨rfl, rfl⟩))
                  by_cases hh : ∃ j, j < i ∧ F j = (q : Int)
                  · refine (l1Has_yes _ i c2 F _ _ (by omega) ((hy.below hbel).upto (by omega)) hh).mono ?_
                    rintro e w2 ⟨rfl, rfl⟩
                    have HH : Hid (∃ j, j < i ∧ F j = (q : Int)) := hh
                    clear hh
                    go_wp2
                    go_ret
                    exact ⟨false, rfl, not_good_free hlm (by rintro ⟨_, h4⟩; obtain ⟨j, hj, e⟩ := HH.out; exact h4 j hj (by rw [e, HX.out])), hbel⟩
                  · have hh' : ∀ j, j < i → F j ≠ (q : Int) := fun j hj e => hh ⟨j, hj, e⟩
                    refine (l1Has_no _ i c2 F _ _ (by omega) ((hy.below hbel).upto (by omega)) hh').mono ?_
                    rintro e w2 ⟨rfl, rfl⟩
                    have HH : Hid (∀ j, j < i → F j ≠ (q : Int)) := hh'
                    clear hh hh'
                    go_wp2
                    go_roundw
                    case rel =>
                      refine ⟨i + 1, by omega, by go_num, allFree_succ HFr.out ⟨?_, ?_⟩, hbox, hbel⟩
                      · rw [HX.out]; exact ⟨by omega, by omega, by simp [freeSlot, HE.out.1, HE.out.2]; omega⟩
                      · rw [HX.out]; exact HH.out
                    case measure => simp [intOf]; omega
            · go_wp2_with (first | (go_at_call 90; refine (l1In_no _ _ _ _ (by omega)).mono ?_; rintro e w' ⟨rfl, rfl⟩))
              go_ret
              exact ⟨false, rfl, not_good_free hlm (by rintro ⟨⟨h1, h2, _⟩, _⟩; rw [HX.out] at h1 h2; omega), hbel⟩
          · have him : i = m := by omega
            subst him
            go_wp2
            go_ret
            refine ⟨((cntFree A U k : Int) == (i : Int)), rfl, ?_, hbel⟩
            rw [beq_iff_eq]
            exact ⟨fun h => ⟨h20, HA.out, HFr.out, by omega⟩, fun h => by have := h.2.2.2; omega⟩
  · go_enter Try.func50, Try.ntmps50
    go_wp2
    go_ret
    exact ⟨false, rfl, by simp [Good]; omega, push (Below.refl _ _) _⟩

end Go.Proofs.Ytclcjnbjpelcjaa
