/-
  OWN TEXT: SpecIn3, SpecName, SpecCk.
-/
import Derived.Deep.LoopGhost
import Derived.Deep.DeepCutAuto
import Derived.Deep.RegionHeld3
import Derived.Laws.Cover1
import Derived.Test.YtogbaoggebghdaaXerks04
import Derived.Test.YtogbaoggebghdaaB09
import Derived.Test.YtogbaoggebghdaaB04
namespace Go.Proofs.Ytogbaoggebghdaa
open Go.RowKit

theorem l1In_is (x lo hi : Int) (w : World) :
    Calls Try.prog 46 #[.int .i64 x, .int .i64 lo, .int .i64 hi] w fun e w' => e = .returned (.bool (decide (In x lo hi))) ∧ w' = w := by
  by_cases h : In x lo hi
  · rw [decide_eq_true h]; exact l1In_yes x lo hi w h.1 h.2
  · rw [decide_eq_false h]; exact l1In_no x lo hi w h

end Go.Proofs.Ytogbaoggebghdaa

namespace Go.Proofs.Ytogbaoggebghdaa
open Go.RowKit

set_option maxHeartbeats 800000 in
theorem l1Name_any (s : ByteArray) (w : World) (hs : s.size ≤ 1000000000000000) :
    Calls Try.prog 45 #[.string s] w fun e w' => SaysIf (IsName s) e ∧ w' = w := by
  by_cases h0 : In (s.size : Int) 1 12
  · have HI : Hid (In (s.size : Int) 1 12) := h0
    have d0 : decide (In (s.size : Int) 1 12) = true := decide_eq_true h0
    have hs2 : s.size ≤ 12 := by have := h0.2; omega
    clear h0
    go_enter Try.func45, Try.ntmps45
    go_wp2_with (first | (go_at_call 46; refine (l1In_is _ _ _ _).mono ?_; rintro e w' ⟨rfl, hw'⟩; have hw' := hw'.symm; subst hw'))
    go_loop [3, 4] (fun i _ => ∃ k : Nat, k ≤ s.size ∧ i = .int .i64 k ∧ ∀ j, j < k → Letter (byteAt s j)) (fun i _ => s.size - (intOf i).toNat)
    case atStart => exact ⟨0, Nat.zero_le _, rfl, fun j hj => by omega⟩
    case round =>
      obtain ⟨k, hk, rfl, hall⟩ := hrel
      have HA : Hid (∀ j, j < k → Letter (byteAt s j)) := hall
      clear hall
      by_cases hlt : k < s.size
      · have hby := byteAt_is s k hlt
        obtain ⟨y, hy⟩ : ∃ y, y = byteAt s k := ⟨_, rfl⟩
        rw [← hy] at hby
        have HY : Hid (y = byteAt s k) := hy
        clear hy
        have yes : Letter y → (∃ k', k' ≤ s.size ∧ Value.int .i64 ((k : Int) + 1) = Value.int .i64 (k' : Int) ∧ ∀ j, j < k' → Letter (byteAt s j)) := fun hL => ⟨k + 1, by omega, by simp, fun j hj => by
          by_cases e : j = k
          · subst e; rw [← HY.out]; exact hL
          · exact HA.out j (by omega)⟩
        have YES : Hid (Letter y → (∃ k', k' ≤ s.size ∧ Value.int .i64 ((k : Int) + 1) = Value.int .i64 (k' : Int) ∧ ∀ j, j < k' → Letter (byteAt s j))) := yes
        have NO : Hid (¬ Letter y → ¬ IsName s) := fun hL h => hL (by rw [HY.out]; exact h.2.2 k hlt)
        clear yes
        by_cases h1 : 97 ≤ y
        · have e1 : decide (97 ≤ y) = true := by simpa using h1
          by_cases h2 : y ≤ 122
          · have e2 : decide (y ≤ 122) = true := by simpa using h2
            go_wp2
            go_round
            case rel => exact YES.out (.inl ⟨h1, h2⟩)
            case measure => simp [intOf]; omega
          · have e2 : decide (y ≤ 122) = false := by simpa using h2
            have e3 : decide (65 ≤ y) = true := by simp; omega
            have e4 : decide (y ≤ 90) = false := by simp; omega
            go_wp2
            go_ret
            exact ⟨says_no (NO.out (by rintro (h | h) <;> omega)), rfl⟩
        · have e1 : decide (97 ≤ y) = false := by simpa using h1
          by_cases h3 : 65 ≤ y
          · have e3 : decide (65 ≤ y) = true := by simpa using h3
            by_cases h4 : y ≤ 90
            · have e4 : decide (y ≤ 90) = true := by simpa using h4
              go_wp2
              go_round
              case rel => exact YES.out (.inr ⟨h3, h4⟩)
              case measure => simp [intOf]; omega
            · have e4 : decide (y ≤ 90) = false := by simpa using h4
              go_wp2
              go_ret
              exact ⟨says_no (NO.out (by rintro (h | h) <;> omega)), rfl⟩
          · have e3 : decide (65 ≤ y) = false := by simpa using h3
            go_wp2
            go_ret
            exact ⟨says_no (NO.out (by rintro (h | h) <;> omega)), rfl⟩
      · obtain rfl : k = s.size := by omega
        go_wp2
        go_ret
        exact ⟨says_yes ⟨by have := HI.out.1; omega, by have := HI.out.2; omega, HA.out⟩, rfl⟩
  · have HI : Hid (¬ In (s.size : Int) 1 12) := h0
    have d0 : decide (In (s.size : Int) 1 12) = false := decide_eq_false h0
    clear h0
    go_enter Try.func45, Try.ntmps45
    go_wp2_with (first | (go_at_call 46; refine (l1In_is _ _ _ _).mono ?_; rintro e w' ⟨rfl, hw'⟩; have hw' := hw'.symm; subst hw'))
    go_ret
    exact ⟨says_no (fun h => HI.out ⟨by have := h.1; omega, by have := h.2.1; omega⟩), rfl⟩
theorem l1Name_is (s : ByteArray) (w : World) (hs : s.size ≤ 1000000000000000) :
    Calls Try.prog 45 #[.string s] w fun e w' => e = .returned (.bool (decide (IsName s))) ∧ w' = w := by
  refine (l1Name_any s w hs).mono ?_
  rintro e w' ⟨⟨b', rfl, h⟩, rfl⟩
  rw [bool_eq h (decide_eq_true_iff (p := IsName s))]
  exact ⟨rfl, rfl⟩

end Go.Proofs.Ytogbaoggebghdaa

namespace Go.Proofs.Ytogbaoggebghdaa
open Go.RowKit Classical

set_option maxHeartbeats 1600000 in
theorem l10Zero_raw (code anam price : Int) (arw : Option Addr) (rwn crw : Nat) (w : World) (b : Bool) (hb : b = true ↔ code = 0 ∧ anam = 0 ∧ price = 0 ∧ rwn = 0) :
    Calls Try.prog 52 #[.agg #[.int .i64 code, .int .i64 anam, .int .i64 price, .slice arw rwn crw]] w fun e w' => e = .returned (.bool b) ∧ Below w.heap.size w w' := by
  have HB : Hid (b = true ↔ code = 0 ∧ anam = 0 ∧ price = 0 ∧ rwn = 0) := hb
  clear hb
  by_cases h0 : code = 0
  case neg =>
    have hf : b = false := Bool.eq_false_iff.2 (fun h => h0 (HB.out.1 h).1)
    have hh : (code == 0) = false := by simpa using h0
    subst hf
    clear HB
    go_enter Try.func52, Try.ntmps52
    go_wp2
    go_ret
    exact ⟨rfl, push (Below.refl _ _) _⟩
  subst h0
  by_cases h1 : anam = 0
  case neg =>
    have hf : b = false := Bool.eq_false_iff.2 (fun h => h1 (HB.out.1 h).2.1)
    have hh : (anam == 0) = false := by simpa using h1
    subst hf
    clear HB
    go_enter Try.func52, Try.ntmps52
    go_wp2
    go_ret
    exact ⟨rfl, push (Below.refl _ _) _⟩
  subst h1
  by_cases h2 : price = 0
  case neg =>
    have hf : b = false := Bool.eq_false_iff.2 (fun h => h2 (HB.out.1 h).2.2.1)
    have hh : (price == 0) = false := by simpa using h2
    subst hf
    clear HB
    go_enter Try.func52, Try.ntmps52
    go_wp2
    go_ret
    exact ⟨rfl, push (Below.refl _ _) _⟩
  subst h2
  by_cases h3 : rwn = 0
  · have ht : b = true := HB.out.2 ⟨rfl, rfl, rfl, h3⟩
    subst ht h3
    clear HB
    go_enter Try.func52, Try.ntmps52
    go_wp2
    go_ret
    exact ⟨rfl, push (Below.refl _ _) _⟩
  · have hf : b = false := Bool.eq_false_iff.2 (fun h => h3 (HB.out.1 h).2.2.2)
    have hh : ((rwn : Int) == 0) = false := by simp; omega
    subst hf
    clear HB
    go_enter Try.func52, Try.ntmps52
    go_wp2
    go_ret
    exact ⟨rfl, push (Below.refl _ _) _⟩

set_option maxHeartbeats 12800000 in
set_option maxRecDepth 100000 in
theorem specGoodC_any (ao : Option Addr) (N c : Nat) (S : Nat → ClkD) (w : World) (hN : N ≤ 1048576) (hs : ClkDsShort N S 1048576) (hx : ClkDsAt w ao N S) :
    Calls Try.prog 15 #[.slice ao N c] w fun e w' => e = .returned (.bool (clerksOk N S)) ∧ Below w.heap.size w w' := by
  obtain ⟨q, hq⟩ : ∃ q : Bool, q = clerksOk N S := ⟨_, rfl⟩
  have HQ : Hid (q = true ↔ ClerksOk N S) := by rw [hq]; exact decide_eq_true_iff
  rw [← hq]
  clear hq
  have HX : Hid (ClkDsAt w ao N S) := hx
  have HS : Hid (ClkDsShort N S 1048576) := hs
  clear hx hs
  by_cases h20 : N ≤ 20
  case neg =>
    have hf : q = false := Bool.eq_false_iff.2 (fun h => h20 (HQ.out.1 h).1)
    have hh : decide ((20 : Int) < (N : Int)) = true := by simp; omega
    subst hf
    go_enter Try.func15, Try.ntmps15
    go_wp2
    go_ret
    exact ⟨rfl, Below.refl _ _⟩
  go_enter Try.func15, Try.ntmps15
  go_wp2
  go_loopw [10] (fun i wr => ∃ k : Nat, k ≤ N ∧ i = .int .i64 k ∧ (∀ j, j < k → ClerkOk S j) ∧ Below w.heap.size w wr) (fun i _ => N - (intOf i).toNat)
  case atStart => exact ⟨0, Nat.zero_le _, rfl, fun j hj => absurd hj (Nat.not_lt_zero _), Below.refl _ _⟩
  case round =>
    obtain ⟨k, hk, rfl, hal, hbel⟩ := hrel
    have HA : Hid (∀ j, j < k → ClerkOk S j) := hal
    clear hal
    by_cases hlt : k < N
    case neg =>
      obtain rfl : k = N := by omega
      have hqt : q = true := HQ.out.2 ⟨h20, HA.out⟩
      subst hqt
      go_wp2
      go_ret
      exact ⟨rfl, hbel⟩
    have HNO : Hid (¬ ClerkOk S k → q = false) := fun h => Bool.eq_false_iff.2 (fun e => h ((HQ.out.1 e).2 k hlt))
    obtain ⟨C, hC, hI⟩ := HX.out
    obtain ⟨b, off, ea, hc⟩ := hC k hlt
    obtain ⟨arw, crw, eC, hrw, q1⟩ := hI k hlt
    have l1 : b < w.heap.size := World.block_lt_of_cell? w _ (hc 0 (by decide))
    have HPREV : Hid (0 < k → w.cell? ⟨b, off + (k - 1) * 7, none⟩ = some (.string (S (k - 1)).nam)) := fun h0 => by
      obtain ⟨b', off', ea', hc'⟩ := hC (k - 1) (by omega)
      obtain ⟨_, _, eC', _⟩ := hI (k - 1) (by omega)
      rw [ea] at ea'
      simp only [Option.some.injEq, Addr.mk.injEq] at ea'
      obtain ⟨rfl, rfl, _⟩ := ea'
      have := hc' 0 (by decide)
      rw [eC'] at this
      exact this
    subst ea
    have hsz := (HS.out k hlt).1
    have c0 : wr.cell? ⟨b, off + k * 7, none⟩ = some (.string (S k).nam) := (hbel.cell (p := ⟨b, off + k * 7, none⟩) l1).trans (by have := hc 0 (by decide); rw [eC] at this; exact this)
    have c1 : wr.cell? ⟨b, off + k * 7 + 1, none⟩ = some (.int .i64 (S k).num) := (hbel.cell (p := ⟨b, off + k * 7 + 1, none⟩) l1).trans (by have := hc 1 (by decide); rw [eC] at this; exact this)
    have c2 : wr.cell? ⟨b, off + k * 7 + 2, none⟩ = some (.bool (S k).opn) := (hbel.cell (p := ⟨b, off + k * 7 + 2, none⟩) l1).trans (by have := hc 2 (by decide); rw [eC] at this; exact this)
    have c3 : wr.cell? ⟨b, off + k * 7 + 3, none⟩ = some (.int .i64 (S k).code) := (hbel.cell (p := ⟨b, off + k * 7 + 3, none⟩) l1).trans (by have := hc 3 (by decide); rw [eC] at this; exact this)
    have c4 : wr.cell? ⟨b, off + k * 7 + 4, none⟩ = some (.int .i64 (S k).anam) := (hbel.cell (p := ⟨b, off + k * 7 + 4, none⟩) l1).trans (by have := hc 4 (by decide); rw [eC] at this; exact this)
    have c5 : wr.cell? ⟨b, off + k * 7 + 5, none⟩ = some (.int .i64 (S k).price) := (hbel.cell (p := ⟨b, off + k * 7 + 5, none⟩) l1).trans (by have := hc 5 (by decide); rw [eC] at this; exact this)
    have c6 : wr.cell? ⟨b, off + k * 7 + 6, none⟩ = some (.slice arw (S k).rwn crw) := (hbel.cell (p := ⟨b, off + k * 7 + 6, none⟩) l1).trans (by have := hc 6 (by decide); rw [eC] at this; exact this)
    clear hC hI hc eC hrw q1
    go_upto_region 6 with fail
    generalize hG : wr.alloc (.cells #[.string (S k).nam, .int .i64 (S k).num, .bool (S k).opn, .int .i64 (S k).code, .int .i64 (S k).anam, .int .i64 (S k).price, .slice arw (S k).rwn crw] 68) = W at *
    have bC : W.heap[wr.heap.size]? = some (.cells #[.string (S k).nam, .int .i64 (S k).num, .bool (S k).opn, .int .i64 (S k).code, .int .i64 (S k).anam, .int .i64 (S k).price, .slice arw (S k).rwn crw] 68 (0, 0)) := by rw [← hG]; exact heap_alloc_new _ _
    have hbw : Below w.heap.size w W := by rw [← hG]; exact push hbel _
    obtain ⟨cB, hcB⟩ : ∃ u, u = wr.heap.size := ⟨_, rfl⟩
    rw [← hcB] at bC ⊢
    clear hG hcB c0 c1 c2 c3 c4 c5 c6
    have i0 : (0 : Int) ≤ (k : Int) := by omega
    have i2 : (k : Int) < (N : Int) := by omega
    have HZ : Hid (∀ (bz : Bool), (bz = true ↔ AnsZero (S k)) → ∀ g : Grown W, Calls Try.prog 52 #[.agg #[.int .i64 (S k).code, .int .i64 (S k).anam, .int .i64 (S k).price, .slice arw (S k).rwn crw]] g.val fun e w' => e = .returned (.bool bz) ∧ Below g.val.heap.size g.val w') := fun bz hz g => l10Zero_raw _ _ _ _ _ _ _ bz hz
    have HNM : Hid (∀ (bn : Bool), (bn = true ↔ IsName (S k).nam) → ∀ g : Grown W, Calls Try.prog 45 #[.string (S k).nam] g.val fun e w' => e = .returned (.bool bn) ∧ Below g.val.heap.size g.val w') := fun bn hn g => (l1Name_is (S k).nam g.val (by omega)).mono fun e w' ⟨he, hw⟩ => ⟨by rw [he]; congr 2; rw [Bool.eq_iff_iff, hn, decide_eq_true_eq], by rw [hw]; exact Below.refl _ _⟩
    have HIN : Hid (∀ (bi : Bool), (bi = true ↔ In (S k).num 1 1000000) → ∀ g : Grown W, Calls Try.prog 46 #[.int .i64 (S k).num, .int .i64 1, .int .i64 1000000] g.val fun e w' => e = .returned (.bool bi) ∧ Below g.val.heap.size g.val w') := fun bi hi g => (l1In_is (S k).num 1 1000000 g.val).mono fun e w' ⟨he, hw⟩ => ⟨by rw [he]; congr 2; rw [Bool.eq_iff_iff, hi, decide_eq_true_eq], by rw [hw]; exact Below.refl _ _⟩
    by_cases hn : IsName (S k).nam
    case neg =>
      have z0 : ∀ g : Grown W, g.val.cell? ⟨cB, 0, none⟩ = some (.string (S k).nam) := fun g => by exact blk_cell (blk_below bC g.bel) 0 _ rfl
      have z1 : ∀ g : Grown W, g.val.cell? ⟨cB, 1, none⟩ = some (.int .i64 (S k).num) := fun g => by exact blk_cell (blk_below bC g.bel) 1 _ rfl
      have z2 : ∀ g : Grown W, g.val.cell? ⟨cB, 2, none⟩ = some (.bool (S k).opn) := fun g => by exact blk_cell (blk_below bC g.bel) 2 _ rfl
      have z3 : ∀ g : Grown W, g.val.cell? ⟨cB, 3, none⟩ = some (.int .i64 (S k).code) := fun g => by exact blk_cell (blk_below bC g.bel) 3 _ rfl
      have z4 : ∀ g : Grown W, g.val.cell? ⟨cB, 4, none⟩ = some (.int .i64 (S k).anam) := fun g => by exact blk_cell (blk_below bC g.bel) 4 _ rfl
      have z5 : ∀ g : Grown W, g.val.cell? ⟨cB, 5, none⟩ = some (.int .i64 (S k).price) := fun g => by exact blk_cell (blk_below bC g.bel) 5 _ rfl
      have z6 : ∀ g : Grown W, g.val.cell? ⟨cB, 6, none⟩ = some (.slice arw (S k).rwn crw) := fun g => by exact blk_cell (blk_below bC g.bel) 6 _ rfl
      have HN1 := HNM.out false ⟨fun h => (by cases h), fun h => absurd h hn⟩
      have HN1 : Hid _ := HN1
      refine wp_region_grow (by kernel_rfl) (by kernel_rfl) ?_
      repeat (first | go_big_quiet_skip | (go_big_quiet_want; go_big_quiet_op; first | go_big_quiet_on | (apply Exists.intro; refine ⟨fun g => ?_, ?_⟩; (focus (first | (go_at_call 45; (with_reducible refine grown_call (HN1.out g))))); go_big_quiet_on)))
      refine wpQuiet_nil ?_
      rintro _ ⟨g, rfl⟩
      clear z0 z1 z2 z3 z4 z5 z6 HN1
      have hf : q = false := HNO.out (fun h => hn h.1)
      subst hf
      go_wp2
      go_ret
      exact ⟨rfl, after hbw g.bel⟩
    by_cases hk0 : 0 < k
    · have hsz2 := (HS.out (k - 1) (by omega)).1
      by_cases hl : textLt (S (k - 1)).nam (S k).nam
      case neg =>
        have hlb : Op.bytesLess (S (k - 1)).nam.toList (S k).nam.toList = false := Bool.eq_false_iff.2 hl
        have z0 : ∀ g : Grown W, g.val.cell? ⟨cB, 0, none⟩ = some (.string (S k).nam) := fun g => by exact blk_cell (blk_below bC g.bel) 0 _ rfl
        have z1 : ∀ g : Grown W, g.val.cell? ⟨cB, 1, none⟩ = some (.int .i64 (S k).num) := fun g => by exact blk_cell (blk_below bC g.bel) 1 _ rfl
        have z2 : ∀ g : Grown W, g.val.cell? ⟨cB, 2, none⟩ = some (.bool (S k).opn) := fun g => by exact blk_cell (blk_below bC g.bel) 2 _ rfl
        have z3 : ∀ g : Grown W, g.val.cell? ⟨cB, 3, none⟩ = some (.int .i64 (S k).code) := fun g => by exact blk_cell (blk_below bC g.bel) 3 _ rfl
        have z4 : ∀ g : Grown W, g.val.cell? ⟨cB, 4, none⟩ = some (.int .i64 (S k).anam) := fun g => by exact blk_cell (blk_below bC g.bel) 4 _ rfl
        have z5 : ∀ g : Grown W, g.val.cell? ⟨cB, 5, none⟩ = some (.int .i64 (S k).price) := fun g => by exact blk_cell (blk_below bC g.bel) 5 _ rfl
        have z6 : ∀ g : Grown W, g.val.cell? ⟨cB, 6, none⟩ = some (.slice arw (S k).rwn crw) := fun g => by exact blk_cell (blk_below bC g.bel) 6 _ rfl
        have HN1 := HNM.out true ⟨fun _ => hn, fun _ => rfl⟩
        have HN1 : Hid _ := HN1
        have zp : ∀ g : Grown W, g.val.cell? ⟨b, off + (k - 1) * 7, none⟩ = some (.string (S (k - 1)).nam) := fun g => ((hbw.trans (g.bel.mono hbw.size)).cell (p := ⟨b, off + (k - 1) * 7, none⟩) l1).trans (HPREV.out hk0)
        have hsub : ((k : Int) - 1).toNat = k - 1 := by omega
        have hd0 : decide ((0 : Int) < (k : Int)) = true := by simp; omega
        have i3 : (0 : Int) ≤ (k : Int) - 1 := by omega
        have i4 : (k : Int) - 1 < (N : Int) := by omega
        refine wp_region_grow (by kernel_rfl) (by kernel_rfl) ?_
        repeat (first | go_big_quiet_skip | (go_big_quiet_want; go_big_quiet_op; first | go_big_quiet_on | (apply Exists.intro; refine ⟨fun g => ?_, ?_⟩; (focus (first | (go_at_call 45; (with_reducible refine grown_call (HN1.out g))))); go_big_quiet_on)))
        refine wpQuiet_nil ?_
        rintro _ ⟨g, rfl⟩
        clear z0 z1 z2 z3 z4 z5 z6 HN1 zp hsub hd0 i3 i4
        have hf : q = false := HNO.out (fun h => hl (h.2.1 hk0))
        subst hf
        go_wp2
        go_ret
        exact ⟨rfl, after hbw g.bel⟩
      have hlb : Op.bytesLess (S (k - 1)).nam.toList (S k).nam.toList = true := hl
      by_cases hi : In (S k).num 1 1000000
      case neg =>
        have z0 : ∀ g : Grown W, g.val.cell? ⟨cB, 0, none⟩ = some (.string (S k).nam) := fun g => by exact blk_cell (blk_below bC g.bel) 0 _ rfl
        have z1 : ∀ g : Grown W, g.val.cell? ⟨cB, 1, none⟩ = some (.int .i64 (S k).num) := fun g => by exact blk_cell (blk_below bC g.bel) 1 _ rfl
        have z2 : ∀ g : Grown W, g.val.cell? ⟨cB, 2, none⟩ = some (.bool (S k).opn) := fun g => by exact blk_cell (blk_below bC g.bel) 2 _ rfl
        have z3 : ∀ g : Grown W, g.val.cell? ⟨cB, 3, none⟩ = some (.int .i64 (S k).code) := fun g => by exact blk_cell (blk_below bC g.bel) 3 _ rfl
        have z4 : ∀ g : Grown W, g.val.cell? ⟨cB, 4, none⟩ = some (.int .i64 (S k).anam) := fun g => by exact blk_cell (blk_below bC g.bel) 4 _ rfl
        have z5 : ∀ g : Grown W, g.val.cell? ⟨cB, 5, none⟩ = some (.int .i64 (S k).price) := fun g => by exact blk_cell (blk_below bC g.bel) 5 _ rfl
        have z6 : ∀ g : Grown W, g.val.cell? ⟨cB, 6, none⟩ = some (.slice arw (S k).rwn crw) := fun g => by exact blk_cell (blk_below bC g.bel) 6 _ rfl
        have HN1 := HNM.out true ⟨fun _ => hn, fun _ => rfl⟩
        have HN1 : Hid _ := HN1
        have HI1 := HIN.out false ⟨fun h => (by cases h), fun h => absurd h hi⟩
        have HI1 : Hid _ := HI1
        have zp : ∀ g : Grown W, g.val.cell? ⟨b, off + (k - 1) * 7, none⟩ = some (.string (S (k - 1)).nam) := fun g => ((hbw.trans (g.bel.mono hbw.size)).cell (p := ⟨b, off + (k - 1) * 7, none⟩) l1).trans (HPREV.out hk0)
        have hsub : ((k : Int) - 1).toNat = k - 1 := by omega
        have hd0 : decide ((0 : Int) < (k : Int)) = true := by simp; omega
        have i3 : (0 : Int) ≤ (k : Int) - 1 := by omega
        have i4 : (k : Int) - 1 < (N : Int) := by omega
        refine wp_region_grow (by kernel_rfl) (by kernel_rfl) ?_
        repeat (first | go_big_quiet_skip | (go_big_quiet_want; go_big_quiet_op; first | go_big_quiet_on | (apply Exists.intro; refine ⟨fun g => ?_, ?_⟩; (focus (first | (go_at_call 45; (with_reducible refine grown_call (HN1.out g))) | (go_at_call 46; (with_reducible refine grown_call (HI1.out g))))); go_big_quiet_on)))
        refine wpQuiet_nil ?_
        rintro _ ⟨g, rfl⟩
        clear z0 z1 z2 z3 z4 z5 z6 HN1 HI1 zp hsub hd0 i3 i4
        have hf : q = false := HNO.out (fun h => hi h.2.2.1)
        subst hf
        go_wp2
        go_ret
        exact ⟨rfl, after hbw g.bel⟩
      by_cases ho : (S k).opn = true
      · by_cases hz : AnsZero (S k)
        · skip
          have z0 : ∀ g : Grown W, g.val.cell? ⟨cB, 0, none⟩ = some (.string (S k).nam) := fun g => by exact blk_cell (blk_below bC g.bel) 0 _ rfl
          have z1 : ∀ g : Grown W, g.val.cell? ⟨cB, 1, none⟩ = some (.int .i64 (S k).num) := fun g => by exact blk_cell (blk_below bC g.bel) 1 _ rfl
          have z2 : ∀ g : Grown W, g.val.cell? ⟨cB, 2, none⟩ = some (.bool true) := fun g => by rw [← ho]; exact blk_cell (blk_below bC g.bel) 2 _ rfl
          have z3 : ∀ g : Grown W, g.val.cell? ⟨cB, 3, none⟩ = some (.int .i64 (S k).code) := fun g => by exact blk_cell (blk_below bC g.bel) 3 _ rfl
          have z4 : ∀ g : Grown W, g.val.cell? ⟨cB, 4, none⟩ = some (.int .i64 (S k).anam) := fun g => by exact blk_cell (blk_below bC g.bel) 4 _ rfl
          have z5 : ∀ g : Grown W, g.val.cell? ⟨cB, 5, none⟩ = some (.int .i64 (S k).price) := fun g => by exact blk_cell (blk_below bC g.bel) 5 _ rfl
          have z6 : ∀ g : Grown W, g.val.cell? ⟨cB, 6, none⟩ = some (.slice arw (S k).rwn crw) := fun g => by exact blk_cell (blk_below bC g.bel) 6 _ rfl
          have HN1 := HNM.out true ⟨fun _ => hn, fun _ => rfl⟩
          have HN1 : Hid _ := HN1
          have HI1 := HIN.out true ⟨fun _ => hi, fun _ => rfl⟩
          have HI1 : Hid _ := HI1
          have HZ1 := HZ.out true ⟨fun _ => hz, fun _ => rfl⟩
          have HZ1 : Hid _ := HZ1
          have zp : ∀ g : Grown W, g.val.cell? ⟨b, off + (k - 1) * 7, none⟩ = some (.string (S (k - 1)).nam) := fun g => ((hbw.trans (g.bel.mono hbw.size)).cell (p := ⟨b, off + (k - 1) * 7, none⟩) l1).trans (HPREV.out hk0)
          have hsub : ((k : Int) - 1).toNat = k - 1 := by omega
          have hd0 : decide ((0 : Int) < (k : Int)) = true := by simp; omega
          have i3 : (0 : Int) ≤ (k : Int) - 1 := by omega
          have i4 : (k : Int) - 1 < (N : Int) := by omega
          refine wp_region_grow (by kernel_rfl) (by kernel_rfl) ?_
          repeat (first | go_big_quiet_skip | (go_big_quiet_want; go_big_quiet_op; first | go_big_quiet_on | (apply Exists.intro; refine ⟨fun g => ?_, ?_⟩; (focus (first | (go_at_call 45; (with_reducible refine grown_call (HN1.out g))) | (go_at_call 46; (with_reducible refine grown_call (HI1.out g))) | (go_at_call 52; (with_reducible refine grown_call (HZ1.out g))))); go_big_quiet_on)))
          refine wpQuiet_nil ?_
          rintro _ ⟨g, rfl⟩
          clear z0 z1 z2 z3 z4 z5 z6 HN1 HI1 HZ1 zp hsub hd0 i3 i4
          go_wp2
          go_roundw
          case rel =>
            refine ⟨k + 1, by omega, by go_num, fun j hj => ?_, after hbw g.bel⟩
            by_cases e : j = k
            · subst e; exact ⟨hn, fun _ => hl, hi, fun _ => hz⟩
            · exact HA.out j (by omega)
          case measure => simp [intOf]; omega
        · skip
          have z0 : ∀ g : Grown W, g.val.cell? ⟨cB, 0, none⟩ = some (.string (S k).nam) := fun g => by exact blk_cell (blk_below bC g.bel) 0 _ rfl
          have z1 : ∀ g : Grown W, g.val.cell? ⟨cB, 1, none⟩ = some (.int .i64 (S k).num) := fun g => by exact blk_cell (blk_below bC g.bel) 1 _ rfl
          have z2 : ∀ g : Grown W, g.val.cell? ⟨cB, 2, none⟩ = some (.bool true) := fun g => by rw [← ho]; exact blk_cell (blk_below bC g.bel) 2 _ rfl
          have z3 : ∀ g : Grown W, g.val.cell? ⟨cB, 3, none⟩ = some (.int .i64 (S k).code) := fun g => by exact blk_cell (blk_below bC g.bel) 3 _ rfl
          have z4 : ∀ g : Grown W, g.val.cell? ⟨cB, 4, none⟩ = some (.int .i64 (S k).anam) := fun g => by exact blk_cell (blk_below bC g.bel) 4 _ rfl
          have z5 : ∀ g : Grown W, g.val.cell? ⟨cB, 5, none⟩ = some (.int .i64 (S k).price) := fun g => by exact blk_cell (blk_below bC g.bel) 5 _ rfl
          have z6 : ∀ g : Grown W, g.val.cell? ⟨cB, 6, none⟩ = some (.slice arw (S k).rwn crw) := fun g => by exact blk_cell (blk_below bC g.bel) 6 _ rfl
          have HN1 := HNM.out true ⟨fun _ => hn, fun _ => rfl⟩
          have HN1 : Hid _ := HN1
          have HI1 := HIN.out true ⟨fun _ => hi, fun _ => rfl⟩
          have HI1 : Hid _ := HI1
          have HZ1 := HZ.out false ⟨fun h => (by cases h), fun h => absurd h hz⟩
          have HZ1 : Hid _ := HZ1
          have zp : ∀ g : Grown W, g.val.cell? ⟨b, off + (k - 1) * 7, none⟩ = some (.string (S (k - 1)).nam) := fun g => ((hbw.trans (g.bel.mono hbw.size)).cell (p := ⟨b, off + (k - 1) * 7, none⟩) l1).trans (HPREV.out hk0)
          have hsub : ((k : Int) - 1).toNat = k - 1 := by omega
          have hd0 : decide ((0 : Int) < (k : Int)) = true := by simp; omega
          have i3 : (0 : Int) ≤ (k : Int) - 1 := by omega
          have i4 : (k : Int) - 1 < (N : Int) := by omega
          refine wp_region_grow (by kernel_rfl) (by kernel_rfl) ?_
          repeat (first | go_big_quiet_skip | (go_big_quiet_want; go_big_quiet_op; first | go_big_quiet_on | (apply Exists.intro; refine ⟨fun g => ?_, ?_⟩; (focus (first | (go_at_call 45; (with_reducible refine grown_call (HN1.out g))) | (go_at_call 46; (with_reducible refine grown_call (HI1.out g))) | (go_at_call 52; (with_reducible refine grown_call (HZ1.out g))))); go_big_quiet_on)))
          refine wpQuiet_nil ?_
          rintro _ ⟨g, rfl⟩
          clear z0 z1 z2 z3 z4 z5 z6 HN1 HI1 HZ1 zp hsub hd0 i3 i4
          have hf : q = false := HNO.out (fun h => hz (h.2.2.2 ho))
          subst hf
          go_wp2
          go_ret
          exact ⟨rfl, after hbw g.bel⟩
      · have ho : (S k).opn = false := Bool.eq_false_iff.2 ho
        have z0 : ∀ g : Grown W, g.val.cell? ⟨cB, 0, none⟩ = some (.string (S k).nam) := fun g => by exact blk_cell (blk_below bC g.bel) 0 _ rfl
        have z1 : ∀ g : Grown W, g.val.cell? ⟨cB, 1, none⟩ = some (.int .i64 (S k).num) := fun g => by exact blk_cell (blk_below bC g.bel) 1 _ rfl
        have z2 : ∀ g : Grown W, g.val.cell? ⟨cB, 2, none⟩ = some (.bool false) := fun g => by rw [← ho]; exact blk_cell (blk_below bC g.bel) 2 _ rfl
        have z3 : ∀ g : Grown W, g.val.cell? ⟨cB, 3, none⟩ = some (.int .i64 (S k).code) := fun g => by exact blk_cell (blk_below bC g.bel) 3 _ rfl
        have z4 : ∀ g : Grown W, g.val.cell? ⟨cB, 4, none⟩ = some (.int .i64 (S k).anam) := fun g => by exact blk_cell (blk_below bC g.bel) 4 _ rfl
        have z5 : ∀ g : Grown W, g.val.cell? ⟨cB, 5, none⟩ = some (.int .i64 (S k).price) := fun g => by exact blk_cell (blk_below bC g.bel) 5 _ rfl
        have z6 : ∀ g : Grown W, g.val.cell? ⟨cB, 6, none⟩ = some (.slice arw (S k).rwn crw) := fun g => by exact blk_cell (blk_below bC g.bel) 6 _ rfl
        have HN1 := HNM.out true ⟨fun _ => hn, fun _ => rfl⟩
        have HN1 : Hid _ := HN1
        have HI1 := HIN.out true ⟨fun _ => hi, fun _ => rfl⟩
        have HI1 : Hid _ := HI1
        have zp : ∀ g : Grown W, g.val.cell? ⟨b, off + (k - 1) * 7, none⟩ = some (.string (S (k - 1)).nam) := fun g => ((hbw.trans (g.bel.mono hbw.size)).cell (p := ⟨b, off + (k - 1) * 7, none⟩) l1).trans (HPREV.out hk0)
        have hsub : ((k : Int) - 1).toNat = k - 1 := by omega
        have hd0 : decide ((0 : Int) < (k : Int)) = true := by simp; omega
        have i3 : (0 : Int) ≤ (k : Int) - 1 := by omega
        have i4 : (k : Int) - 1 < (N : Int) := by omega
        refine wp_region_grow (by kernel_rfl) (by kernel_rfl) ?_
        repeat (first | go_big_quiet_skip | (go_big_quiet_want; go_big_quiet_op; first | go_big_quiet_on | (apply Exists.intro; refine ⟨fun g => ?_, ?_⟩; (focus (first | (go_at_call 45; (with_reducible refine grown_call (HN1.out g))) | (go_at_call 46; (with_reducible refine grown_call (HI1.out g))))); go_big_quiet_on)))
        refine wpQuiet_nil ?_
        rintro _ ⟨g, rfl⟩
        clear z0 z1 z2 z3 z4 z5 z6 HN1 HI1 zp hsub hd0 i3 i4
        go_wp2
        go_roundw
        case rel =>
          refine ⟨k + 1, by omega, by go_num, fun j hj => ?_, after hbw g.bel⟩
          by_cases e : j = k
          · subst e; exact ⟨hn, fun _ => hl, hi, fun h => by rw [ho] at h; cases h⟩
          · exact HA.out j (by omega)
        case measure => simp [intOf]; omega
    · skip
      by_cases hi : In (S k).num 1 1000000
      case neg =>
        have z0 : ∀ g : Grown W, g.val.cell? ⟨cB, 0, none⟩ = some (.string (S k).nam) := fun g => by exact blk_cell (blk_below bC g.bel) 0 _ rfl
        have z1 : ∀ g : Grown W, g.val.cell? ⟨cB, 1, none⟩ = some (.int .i64 (S k).num) := fun g => by exact blk_cell (blk_below bC g.bel) 1 _ rfl
        have z2 : ∀ g : Grown W, g.val.cell? ⟨cB, 2, none⟩ = some (.bool (S k).opn) := fun g => by exact blk_cell (blk_below bC g.bel) 2 _ rfl
        have z3 : ∀ g : Grown W, g.val.cell? ⟨cB, 3, none⟩ = some (.int .i64 (S k).code) := fun g => by exact blk_cell (blk_below bC g.bel) 3 _ rfl
        have z4 : ∀ g : Grown W, g.val.cell? ⟨cB, 4, none⟩ = some (.int .i64 (S k).anam) := fun g => by exact blk_cell (blk_below bC g.bel) 4 _ rfl
        have z5 : ∀ g : Grown W, g.val.cell? ⟨cB, 5, none⟩ = some (.int .i64 (S k).price) := fun g => by exact blk_cell (blk_below bC g.bel) 5 _ rfl
        have z6 : ∀ g : Grown W, g.val.cell? ⟨cB, 6, none⟩ = some (.slice arw (S k).rwn crw) := fun g => by exact blk_cell (blk_below bC g.bel) 6 _ rfl
        have HN1 := HNM.out true ⟨fun _ => hn, fun _ => rfl⟩
        have HN1 : Hid _ := HN1
        have HI1 := HIN.out false ⟨fun h => (by cases h), fun h => absurd h hi⟩
        have HI1 : Hid _ := HI1
        have hd0 : decide ((0 : Int) < (k : Int)) = false := by simp; omega
        refine wp_region_grow (by kernel_rfl) (by kernel_rfl) ?_
        repeat (first | go_big_quiet_skip | (go_big_quiet_want; go_big_quiet_op; first | go_big_quiet_on | (apply Exists.intro; refine ⟨fun g => ?_, ?_⟩; (focus (first | (go_at_call 45; (with_reducible refine grown_call (HN1.out g))) | (go_at_call 46; (with_reducible refine grown_call (HI1.out g))))); go_big_quiet_on)))
        refine wpQuiet_nil ?_
        rintro _ ⟨g, rfl⟩
        clear z0 z1 z2 z3 z4 z5 z6 HN1 HI1 hd0
        have hf : q = false := HNO.out (fun h => hi h.2.2.1)
        subst hf
        go_wp2
        go_ret
        exact ⟨rfl, after hbw g.bel⟩
      by_cases ho : (S k).opn = true
      · by_cases hz : AnsZero (S k)
        · skip
          have z0 : ∀ g : Grown W, g.val.cell? ⟨cB, 0, none⟩ = some (.string (S k).nam) := fun g => by exact blk_cell (blk_below bC g.bel) 0 _ rfl
          have z1 : ∀ g : Grown W, g.val.cell? ⟨cB, 1, none⟩ = some (.int .i64 (S k).num) := fun g => by exact blk_cell (blk_below bC g.bel) 1 _ rfl
          have z2 : ∀ g : Grown W, g.val.cell? ⟨cB, 2, none⟩ = some (.bool true) := fun g => by rw [← ho]; exact blk_cell (blk_below bC g.bel) 2 _ rfl
          have z3 : ∀ g : Grown W, g.val.cell? ⟨cB, 3, none⟩ = some (.int .i64 (S k).code) := fun g => by exact blk_cell (blk_below bC g.bel) 3 _ rfl
          have z4 : ∀ g : Grown W, g.val.cell? ⟨cB, 4, none⟩ = some (.int .i64 (S k).anam) := fun g => by exact blk_cell (blk_below bC g.bel) 4 _ rfl
          have z5 : ∀ g : Grown W, g.val.cell? ⟨cB, 5, none⟩ = some (.int .i64 (S k).price) := fun g => by exact blk_cell (blk_below bC g.bel) 5 _ rfl
          have z6 : ∀ g : Grown W, g.val.cell? ⟨cB, 6, none⟩ = some (.slice arw (S k).rwn crw) := fun g => by exact blk_cell (blk_below bC g.bel) 6 _ rfl
          have HN1 := HNM.out true ⟨fun _ => hn, fun _ => rfl⟩
          have HN1 : Hid _ := HN1
          have HI1 := HIN.out true ⟨fun _ => hi, fun _ => rfl⟩
          have HI1 : Hid _ := HI1
          have HZ1 := HZ.out true ⟨fun _ => hz, fun _ => rfl⟩
          have HZ1 : Hid _ := HZ1
          have hd0 : decide ((0 : Int) < (k : Int)) = false := by simp; omega
          refine wp_region_grow (by kernel_rfl) (by kernel_rfl) ?_
          repeat (first | go_big_quiet_skip | (go_big_quiet_want; go_big_quiet_op; first | go_big_quiet_on | (apply Exists.intro; refine ⟨fun g => ?_, ?_⟩; (focus (first | (go_at_call 45; (with_reducible refine grown_call (HN1.out g))) | (go_at_call 46; (with_reducible refine grown_call (HI1.out g))) | (go_at_call 52; (with_reducible refine grown_call (HZ1.out g))))); go_big_quiet_on)))
          refine wpQuiet_nil ?_
          rintro _ ⟨g, rfl⟩
          clear z0 z1 z2 z3 z4 z5 z6 HN1 HI1 HZ1 hd0
          go_wp2
          go_roundw
          case rel =>
            refine ⟨k + 1, by omega, by go_num, fun j hj => ?_, after hbw g.bel⟩
            by_cases e : j = k
            · subst e; exact ⟨hn, fun h => absurd h hk0, hi, fun _ => hz⟩
            · exact HA.out j (by omega)
          case measure => simp [intOf]; omega
        · skip
          have z0 : ∀ g : Grown W, g.val.cell? ⟨cB, 0, none⟩ = some (.string (S k).nam) := fun g => by exact blk_cell (blk_below bC g.bel) 0 _ rfl
          have z1 : ∀ g : Grown W, g.val.cell? ⟨cB, 1, none⟩ = some (.int .i64 (S k).num) := fun g => by exact blk_cell (blk_below bC g.bel) 1 _ rfl
          have z2 : ∀ g : Grown W, g.val.cell? ⟨cB, 2, none⟩ = some (.bool true) := fun g => by rw [← ho]; exact blk_cell (blk_below bC g.bel) 2 _ rfl
          have z3 : ∀ g : Grown W, g.val.cell? ⟨cB, 3, none⟩ = some (.int .i64 (S k).code) := fun g => by exact blk_cell (blk_below bC g.bel) 3 _ rfl
          have z4 : ∀ g : Grown W, g.val.cell? ⟨cB, 4, none⟩ = some (.int .i64 (S k).anam) := fun g => by exact blk_cell (blk_below bC g.bel) 4 _ rfl
          have z5 : ∀ g : Grown W, g.val.cell? ⟨cB, 5, none⟩ = some (.int .i64 (S k).price) := fun g => by exact blk_cell (blk_below bC g.bel) 5 _ rfl
          have z6 : ∀ g : Grown W, g.val.cell? ⟨cB, 6, none⟩ = some (.slice arw (S k).rwn crw) := fun g => by exact blk_cell (blk_below bC g.bel) 6 _ rfl
          have HN1 := HNM.out true ⟨fun _ => hn, fun _ => rfl⟩
          have HN1 : Hid _ := HN1
          have HI1 := HIN.out true ⟨fun _ => hi, fun _ => rfl⟩
          have HI1 : Hid _ := HI1
          have HZ1 := HZ.out false ⟨fun h => (by cases h), fun h => absurd h hz⟩
          have HZ1 : Hid _ := HZ1
          have hd0 : decide ((0 : Int) < (k : Int)) = false := by simp; omega
          refine wp_region_grow (by kernel_rfl) (by kernel_rfl) ?_
          repeat (first | go_big_quiet_skip | (go_big_quiet_want; go_big_quiet_op; first | go_big_quiet_on | (apply Exists.intro; refine ⟨fun g => ?_, ?_⟩; (focus (first | (go_at_call 45; (with_reducible refine grown_call (HN1.out g))) | (go_at_call 46; (with_reducible refine grown_call (HI1.out g))) | (go_at_call 52; (with_reducible refine grown_call (HZ1.out g))))); go_big_quiet_on)))
          refine wpQuiet_nil ?_
          rintro _ ⟨g, rfl⟩
          clear z0 z1 z2 z3 z4 z5 z6 HN1 HI1 HZ1 hd0
          have hf : q = false := HNO.out (fun h => hz (h.2.2.2 ho))
          subst hf
          go_wp2
          go_ret
          exact ⟨rfl, after hbw g.bel⟩
      · have ho : (S k).opn = false := Bool.eq_false_iff.2 ho
        have z0 : ∀ g : Grown W, g.val.cell? ⟨cB, 0, none⟩ = some (.string (S k).nam) := fun g => by exact blk_cell (blk_below bC g.bel) 0 _ rfl
        have z1 : ∀ g : Grown W, g.val.cell? ⟨cB, 1, none⟩ = some (.int .i64 (S k).num) := fun g => by exact blk_cell (blk_below bC g.bel) 1 _ rfl
        have z2 : ∀ g : Grown W, g.val.cell? ⟨cB, 2, none⟩ = some (.bool false) := fun g => by rw [← ho]; exact blk_cell (blk_below bC g.bel) 2 _ rfl
        have z3 : ∀ g : Grown W, g.val.cell? ⟨cB, 3, none⟩ = some (.int .i64 (S k).code) := fun g => by exact blk_cell (blk_below bC g.bel) 3 _ rfl
        have z4 : ∀ g : Grown W, g.val.cell? ⟨cB, 4, none⟩ = some (.int .i64 (S k).anam) := fun g => by exact blk_cell (blk_below bC g.bel) 4 _ rfl
        have z5 : ∀ g : Grown W, g.val.cell? ⟨cB, 5, none⟩ = some (.int .i64 (S k).price) := fun g => by exact blk_cell (blk_below bC g.bel) 5 _ rfl
        have z6 : ∀ g : Grown W, g.val.cell? ⟨cB, 6, none⟩ = some (.slice arw (S k).rwn crw) := fun g => by exact blk_cell (blk_below bC g.bel) 6 _ rfl
        have HN1 := HNM.out true ⟨fun _ => hn, fun _ => rfl⟩
        have HN1 : Hid _ := HN1
        have HI1 := HIN.out true ⟨fun _ => hi, fun _ => rfl⟩
        have HI1 : Hid _ := HI1
        have hd0 : decide ((0 : Int) < (k : Int)) = false := by simp; omega
        refine wp_region_grow (by kernel_rfl) (by kernel_rfl) ?_
        repeat (first | go_big_quiet_skip | (go_big_quiet_want; go_big_quiet_op; first | go_big_quiet_on | (apply Exists.intro; refine ⟨fun g => ?_, ?_⟩; (focus (first | (go_at_call 45; (with_reducible refine grown_call (HN1.out g))) | (go_at_call 46; (with_reducible refine grown_call (HI1.out g))))); go_big_quiet_on)))
        refine wpQuiet_nil ?_
        rintro _ ⟨g, rfl⟩
        clear z0 z1 z2 z3 z4 z5 z6 HN1 HI1 hd0
        go_wp2
        go_roundw
        case rel =>
          refine ⟨k + 1, by omega, by go_num, fun j hj => ?_, after hbw g.bel⟩
          by_cases e : j = k
          · subst e; exact ⟨hn, fun h => absurd h hk0, hi, fun h => by rw [ho] at h; cases h⟩
          · exact HA.out j (by omega)
        case measure => simp [intOf]; omega

end Go.Proofs.Ytogbaoggebghdaa
