/-
  OWN TEXT: contracts of the specification over seats: l5Sits, l5Seats, GoodSeats, TakeSeats.
-/
import Derived.Test.YtclcjnbjpelcjajSpecIn2
import Derived.Test.YtclcjnbjpelcjajPlainSe
import Derived.Test.YtclcjnbjpelcjajInfoSeat
import Derived.Test.YtclcjnbjpelcjajKitB
import Derived.Test.YtclcjnbjpelcjajKitG
import Derived.Deep.LoopGhost
import Derived.Deep.DeepCutAuto
namespace Go.Proofs.Ytclcjnbjpelcjaj
open Go.RowKit

set_option maxHeartbeats 800000 in
set_option maxRecDepth 100000 in
theorem l5Sits_any (ao : Option Addr) (n c : Nat) (S : Nat → Seat) (x : Int) (w : World) (hn : n ≤ 1048576) (hz : SeatsAt w ao n S) :
    Calls Try.prog 16 #[.slice ao n c, .int .i64 x] w fun e w' => SaysIf (Has (whoT S) n x) e ∧ Below w.heap.size w w' := by
  go_enter Try.func16, Try.ntmps16
  go_wp2
  go_loopw [6, 9] (fun _ i wr => ∃ k : Nat, k ≤ n ∧ i = .int .i64 k ∧ (∀ j, j < k → whoT S j ≠ x) ∧ Below w.heap.size w wr) (fun _ i _ => n - (intOf i).toNat)
  case atStart => exact ⟨0, Nat.zero_le _, rfl, fun j hj => by omega, Below.refl _ _⟩
  case round =>
    obtain ⟨k, hk, rfl, hall, hbel⟩ := hrel
    have HA : Hid (∀ j, j < k → whoT S j ≠ x) := hall
    clear hall
    by_cases hlt2 : k < n
    · obtain ⟨b, off, rfl, h0, h1⟩ := hz k hlt2
      have hb := World.block_lt_of_cell? w _ h0
      have c0 := (hbel.cell (p := ⟨b, off + k * 2, none⟩) hb).trans h0
      have c1 := (hbel.cell (p := ⟨b, off + k * 2 + 1, none⟩) hb).trans h1
      clear h0 h1
      by_cases he : whoT S k = x
      · have e1 : ((S k).who == x) = true := by unfold whoT at he; simpa using he
        have HF : Hid (Has (whoT S) n x) := ⟨k, hlt2, he⟩
        clear he
        go_wp2
        go_ret
        exact ⟨says_yes HF.out, push hbel _⟩
      · have e1 : ((S k).who == x) = false := by unfold whoT at he; simpa using he
        have HE : Hid (whoT S k ≠ x) := he
        clear he
        go_wp2
        go_roundw
        case rel => exact ⟨k + 1, by omega, by go_num, fun j hj => by
          by_cases e : j = k
          · subst e; exact HE.out
          · exact HA.out j (by omega), push hbel _⟩
        case measure => simp [intOf]; omega
    · obtain rfl : k = n := by omega
      have HF : Hid (¬ Has (whoT S) k x) := not_has HA.out
      go_wp2
      go_ret
      exact ⟨says_no HF.out, hbel⟩

set_option maxHeartbeats 800000 in
set_option maxRecDepth 100000 in
theorem l5Seats_any (bo : Option Addr) (n c : Nat) (S : Nat → Seat) (w : World) (hn : n ≤ 60) (hs : ∀ j, j < n → In (S j).many 1 20) (hz : SeatsAt w bo n S) :
    Calls Try.prog 17 #[.slice bo n c] w fun e w' => e = .returned (.int .i64 (sits S n)) ∧ Below w.heap.size w w' := by
  have HS : Hid (∀ j, j < n → In (S j).many 1 20) := hs
  clear hs
  go_enter Try.func17, Try.ntmps17
  go_wp2
  go_loopw [3, 5, 8] (fun v _ i wr => ∃ k : Nat, k ≤ n ∧ i = .int .i64 k ∧ v = .int .i64 (sits S k) ∧ Below w.heap.size w wr) (fun _ _ i _ => n - (intOf i).toNat)
  case atStart => exact ⟨0, Nat.zero_le _, rfl, rfl, Below.refl _ _⟩
  case round =>
    obtain ⟨k, hk, rfl, rfl, hbel⟩ := hrel
    by_cases hlt : k < n
    · obtain ⟨b, off, rfl, h0, h1⟩ := hz k hlt
      have hb := World.block_lt_of_cell? w _ h0
      have c0 := (hbel.cell (p := ⟨b, off + k * 2, none⟩) hb).trans h0
      have c1 := (hbel.cell (p := ⟨b, off + k * 2 + 1, none⟩) hb).trans h1
      clear h0 h1
      have hwr : IntKind.i64.wrap (sits S k + (S k).many) = sits S (k + 1) := by
        have h1 := sits_bounds S k (fun j hj => HS.out j (by omega))
        have h2 := HS.out k hlt
        unfold In at h2
        have h3 : sits S (k + 1) = sits S k + (S k).many := rfl
        rw [h3, IntKind.wrap_i64]; omega
      go_wp2
      go_roundw
      case rel => exact ⟨k + 1, by omega, by go_num, rfl, push hbel _⟩
      case measure => simp [intOf]; omega
    · obtain rfl : k = n := by omega
      go_wp2
      go_ret
      exact ⟨rfl, hbel⟩

set_option maxHeartbeats 3200000 in
set_option maxRecDepth 100000 in
theorem specSeats_any (most : Int) (bo : Option Addr) (n c : Nat) (S : Nat → Seat) (w : World) (hn : n ≤ 2097152) (hc : n ≤ c) (hz : SeatsAt w bo n S) :
    Calls Try.prog 6 #[.int .i64 most, .slice bo n c] w fun e w' => SaysIf (SeatsOk most n S) e ∧ Below w.heap.size w w' := by
  have HZ : Hid (SeatsAt w bo n S) := hz
  clear hz
  by_cases g0 : In most 0 500
  · have e0 : decide (In most 0 500) = true := decide_eq_true g0
    have H0 : Hid (In most 0 500) := g0
    clear g0
    by_cases h60 : n ≤ 60
    · have d0 : decide (60 < n) = false := by simp; omega
      go_enter Try.func6, Try.ntmps6
      go_wp2_with (first | (go_at_call 14; refine (l1In_is _ _ _ _).mono ?_; rintro e w' ⟨rfl, hw'⟩; have hw' := hw'.symm; subst hw'))
      go_loopw [5, 6, 17] (fun _ _ i wr => ∃ k : Nat, k ≤ n ∧ i = .int .i64 k ∧ (∀ j, j < k → In (S j).who 1 9999 ∧ ¬ Has (whoT S) j (S j).who ∧ In (S j).many 1 20) ∧ Below w.heap.size w wr) (fun _ _ i _ => n - (intOf i).toNat)
      case atStart => exact ⟨0, Nat.zero_le _, rfl, fun j hj => by omega, Below.refl _ _⟩
      case round =>
        obtain ⟨i, hi, rfl, hall, hbel⟩ := hrel
        have HA : Hid (∀ j, j < i → In (S j).who 1 9999 ∧ ¬ Has (whoT S) j (S j).who ∧ In (S j).many 1 20) := hall
        clear hall e0 d0
        by_cases hlt : i < n
        · obtain ⟨b, off, rfl, h0, h1⟩ := HZ.out i hlt
          have hb := World.block_lt_of_cell? w _ h0
          have c0 := (hbel.cell (p := ⟨b, off + i * 2, none⟩) hb).trans h0
          have c1 := (hbel.cell (p := ⟨b, off + i * 2 + 1, none⟩) hb).trans h1
          have hbox := heap_alloc_new wr (.cells #[.int .i64 (S i).who, .int .i64 (S i).many] 35)
          have hbx := push hbel (.cells #[.int .i64 (S i).who, .int .i64 (S i).many] 35)
          clear h0 h1
          go_upto_region 6 with fail
          generalize hW : wr.alloc (.cells #[.int .i64 (S i).who, .int .i64 (S i).many] 35) = W at hbox hbx ⊢
          clear hW
          have hsW : wr.heap.size < W.heap.size := blk_lt hbox
          have z0 : ∀ g : Grown W, g.val.cell? ⟨wr.heap.size, 0, none⟩ = some (.int .i64 (S i).who) := fun g => (g.bel.cell hsW).trans (blk_cell hbox 0 _ rfl)
          have z1 : ∀ g : Grown W, g.val.cell? ⟨wr.heap.size, 1, none⟩ = some (.int .i64 (S i).many) := fun g => (g.bel.cell hsW).trans (blk_cell hbox 1 _ rfl)
          have i1 : (0 : Int) ≤ (i : Int) := by omega
          have i2 : (i : Int) ≤ (c : Int) := by omega
          clear c0 c1 hbox hbel
          by_cases g1 : In (S i).who 1 9999
          · have e1 : decide (In (S i).who 1 9999) = true := decide_eq_true g1
            have H1 : Hid (In (S i).who 1 9999) := g1
            clear g1
            by_cases g2 : Has (whoT S) i (S i).who
            · have H2 : Hid (Has (whoT S) i (S i).who) := g2
              clear g2
              refine wp_region_grow (by kernel_rfl) (by kernel_rfl) ?_
              repeat (first | go_big_quiet_skip | (go_big_quiet_want; go_big_quiet_op; first | go_big_quiet_on | (apply Exists.intro; refine ⟨fun g => ?_, ?_⟩; (focus (first | (go_at_call 15; refine grown_call (v := .bool true) ((l4By_is _ _).mono ?_); rintro e w4 ⟨rfl, rfl⟩; exact ⟨by rw [e1], Below.refl _ _⟩) | (go_at_call 16; refine grown_call (v := .bool true) ((l5Sits_any _ i c S (S i).who _ (by omega) ((HZ.out.upto (by omega)).below (after hbx g.bel))).mono ?_); rintro e w4 ⟨⟨bb, rfl, hi⟩, hbb⟩; obtain rfl := hi.2 H2.out; exact ⟨rfl, hbb⟩))); go_big_quiet_on)))
              refine wpQuiet_nil ?_
              rintro _ ⟨g, rfl⟩
              go_wp2
              go_ret
              exact ⟨says_no (fun h => (h.2.2.1 i hlt).2.1 H2.out), after hbx g.bel⟩
            · have H2 : Hid (¬ Has (whoT S) i (S i).who) := g2
              clear g2
              by_cases g3 : In (S i).many 1 20
              · have e3 : decide (In (S i).many 1 20) = true := decide_eq_true g3
                have H3 : Hid (In (S i).many 1 20) := g3
                clear g3
                refine wp_region_grow (by kernel_rfl) (by kernel_rfl) ?_
                repeat (first | go_big_quiet_skip | (go_big_quiet_want; go_big_quiet_op; first | go_big_quiet_on | (apply Exists.intro; refine ⟨fun g => ?_, ?_⟩; (focus (first | (go_at_call 15; refine grown_call (v := .bool true) ((l4By_is _ _).mono ?_); rintro e w4 ⟨rfl, rfl⟩; exact ⟨by rw [e1], Below.refl _ _⟩) | (go_at_call 16; refine grown_call (v := .bool false) ((l5Sits_any _ i c S (S i).who _ (by omega) ((HZ.out.upto (by omega)).below (after hbx g.bel))).mono ?_); rintro e w4 ⟨⟨bb, rfl, hi⟩, hbb⟩; obtain rfl := Bool.eq_false_iff.2 (fun e => H2.out (hi.1 e)); exact ⟨rfl, hbb⟩) | (go_at_call 14; refine grown_call (v := .bool true) ((l1In_is _ _ _ _).mono ?_); rintro e w4 ⟨rfl, rfl⟩; exact ⟨by rw [e3], Below.refl _ _⟩))); go_big_quiet_on)))
                refine wpQuiet_nil ?_
                rintro _ ⟨g, rfl⟩
                go_wp2
                have HAN : Hid (∀ j, j < i + 1 → In (S j).who 1 9999 ∧ ¬ Has (whoT S) j (S j).who ∧ In (S j).many 1 20) := fun j hj => by
                  by_cases e : j = i
                  · subst e; exact ⟨H1.out, H2.out, H3.out⟩
                  · exact HA.out j (by omega)
                go_roundw
                case rel => exact ⟨i + 1, by omega, by go_num, HAN.out, after hbx g.bel⟩
                case measure => simp [intOf]; omega
              · have e3 : decide (In (S i).many 1 20) = false := decide_eq_false g3
                have H3 : Hid (¬ In (S i).many 1 20) := g3
                clear g3
                refine wp_region_grow (by kernel_rfl) (by kernel_rfl) ?_
                repeat (first | go_big_quiet_skip | (go_big_quiet_want; go_big_quiet_op; first | go_big_quiet_on | (apply Exists.intro; refine ⟨fun g => ?_, ?_⟩; (focus (first | (go_at_call 15; refine grown_call (v := .bool true) ((l4By_is _ _).mono ?_); rintro e w4 ⟨rfl, rfl⟩; exact ⟨by rw [e1], Below.refl _ _⟩) | (go_at_call 16; refine grown_call (v := .bool false) ((l5Sits_any _ i c S (S i).who _ (by omega) ((HZ.out.upto (by omega)).below (after hbx g.bel))).mono ?_); rintro e w4 ⟨⟨bb, rfl, hi⟩, hbb⟩; obtain rfl := Bool.eq_false_iff.2 (fun e => H2.out (hi.1 e)); exact ⟨rfl, hbb⟩) | (go_at_call 14; refine grown_call (v := .bool false) ((l1In_is _ _ _ _).mono ?_); rintro e w4 ⟨rfl, rfl⟩; exact ⟨by rw [e3], Below.refl _ _⟩))); go_big_quiet_on)))
                refine wpQuiet_nil ?_
                rintro _ ⟨g, rfl⟩
                go_wp2
                go_ret
                exact ⟨says_no (fun h => H3.out (h.2.2.1 i hlt).2.2), after hbx g.bel⟩
          · have e1 : decide (In (S i).who 1 9999) = false := decide_eq_false g1
            have H1 : Hid (¬ In (S i).who 1 9999) := g1
            clear g1
            refine wp_region_grow (by kernel_rfl) (by kernel_rfl) ?_
            repeat (first | go_big_quiet_skip | (go_big_quiet_want; go_big_quiet_op; first | go_big_quiet_on | (apply Exists.intro; refine ⟨fun g => ?_, ?_⟩; (focus (first | (go_at_call 15; refine grown_call (v := .bool false) ((l4By_is _ _).mono ?_); rintro e w4 ⟨rfl, rfl⟩; exact ⟨by rw [e1], Below.refl _ _⟩))); go_big_quiet_on)))
            refine wpQuiet_nil ?_
            rintro _ ⟨g, rfl⟩
            go_wp2
            go_ret
            exact ⟨says_no (fun h => H1.out (h.2.2.1 i hlt).1), after hbx g.bel⟩
        · obtain rfl : i = n := by omega
          go_wp2_with fail
          refine (l5Seats_any bo i c S _ h60 (fun j hj => (HA.out j hj).2.2) (HZ.out.below hbel)).mono ?_
          rintro e w2 ⟨rfl, hb2⟩
          have hbw := after hbel hb2
          by_cases hle : sits S i ≤ most
          · have e5 : decide (sits S i ≤ most) = true := decide_eq_true hle
            have HLE : Hid (sits S i ≤ most) := hle
            clear hle
            go_wp2
            go_ret
            exact ⟨says_yes ⟨H0.out, h60, HA.out, HLE.out⟩, hbw⟩
          · have e5 : decide (sits S i ≤ most) = false := decide_eq_false hle
            have HLE : Hid (¬ sits S i ≤ most) := hle
            clear hle
            go_wp2
            go_ret
            exact ⟨says_no (fun h => by have := HLE.out; have := h.2.2.2; omega), hbw⟩
    · have d0 : decide (60 < n) = true := by simp; omega
      go_enter Try.func6, Try.ntmps6
      go_wp2_with (first | (go_at_call 14; refine (l1In_is _ _ _ _).mono ?_; rintro e w' ⟨rfl, hw'⟩; have hw' := hw'.symm; subst hw'))
      go_ret
      exact ⟨says_no (fun h => h60 h.2.1), Below.refl _ _⟩
  · have e0 : decide (In most 0 500) = false := decide_eq_false g0
    have H0 : Hid (¬ In most 0 500) := g0
    clear g0
    go_enter Try.func6, Try.ntmps6
    go_wp2_with (first | (go_at_call 14; refine (l1In_is _ _ _ _).mono ?_; rintro e w' ⟨rfl, hw'⟩; have hw' := hw'.symm; subst hw'))
    go_ret
    exact ⟨says_no (fun h => H0.out h.1), Below.refl _ _⟩

set_option maxHeartbeats 3200000 in
set_option maxRecDepth 100000 in
theorem specTakeS_any (most : Int) (bo : Option Addr) (n c : Nat) (S : Nat → Seat) (x many : Int) (w : World) (hn : n ≤ 1048576) (hc : n ≤ c) (hz : SeatsAt w bo n S) (hnil : bo = none → n = 0 ∧ c = 0) :
    Calls Try.prog 10 #[.int .i64 most, .slice bo n c, .int .i64 x, .int .i64 many] w fun e w' => SeatsRes w' w.heap.size 35 most n S x many e ∧ Below w.heap.size w w' := by
  obtain ⟨j0, ji, jz0, jz1, jz2⟩ := info_parts Try.infoSeat
  have HZ : Hid (SeatsAt w bo n S) := hz
  have HNI : Hid (bo = none → n = 0 ∧ c = 0) := hnil
  clear hz hnil
  go_enter Try.func10, Try.ntmps10
  go_wp2_with fail
  refine (specSeats_any most bo n c S _ (by omega) hc HZ.out).mono ?_
  rintro e w1 ⟨⟨q, rfl, hq⟩, hb1⟩
  cases q with
  | false =>
    have HD : Hid (¬ SeatsOk most n S) := fun h => by have := hq.2 h; cases this
    clear hq
    go_wp2
    exact bodyPost_ret (v := .tuple #[.slice none 0 0, .bool false]) (by simp [results, Try.results10, go_sem]) rfl ⟨seatsRes_no (fun h => HD.out h.1), hb1⟩
  | true =>
    have HD : Hid (SeatsOk most n S) := hq.1 rfl
    have hn60 : n ≤ 60 := HD.out.2.1
    clear hq
    have hs1 := hb1.size
    have ho1 : (w1.alloc (.cells #[] 35)).ownsRow w.heap.size 35 2 (.slice (some ⟨w1.heap.size, 0, none⟩) 0 0) 0 [] := ⟨rfl, .inr ⟨w1.heap.size, 0, #[], rfl, hs1, heap_alloc_new w1 _, Nat.le_refl _, Nat.zero_le _, rfl, rfl⟩⟩
    have HC1 : Hid (∀ ad, bo = some ad → ∀ j u, (seatList S n)[j]? = some u → (w1.alloc (.cells #[] 35)).cell? (ad.add j) = some u) := seats_cells (HZ.out.below (push hb1 _))
    have bw2 := push hb1 (.cells #[] 35)
    go_upto_region 4 with (first | (at_builtin; refine wpList_append_any _ (by rfl) (.tmp 15) (.tmp 16) 25 (by rfl) w.heap.size 35 j0 (.agg #[.int .i64 0, .int .i64 0]) 2 16 Try.underlying25 ji jz0 jz1 jz2 rfl (by decide) _ 0 [] (by rfl) ho1 bo n c (seatList S n) (by rfl) HNI.out (seatList_length _ _) HC1.out (seatList_one _ _) (by unfold maxLen; omega) (by omega) (by simp; omega) ?_; intro v4 w4 ho4 hg4))
    have bw4 := bw2.grown hg4 (by simp; omega) (fun j hj => (ho1.lt j hj).1)
    rw [Nat.zero_add, List.nil_append] at ho4
    have hs4 := bw4.size
    clear ho1 HC1 bw2 hg4 hb1
    have HC2 : Hid (∀ ad, (some ⟨w4.heap.size, 0, none⟩ : Option Addr) = some ad → ∀ j u, [Value.int .i64 x, .int .i64 many][j]? = some u → (w4.alloc (.cells #[.int .i64 x, .int .i64 many] 35)).cell? (ad.add j) = some u) := by
      intro ad e
      cases e
      exact World.news_of_block (heap_alloc_new w4 _)
    go_upto_region 5 with (first | (at_builtin; refine wpList_append_any _ (by rfl) (.tmp 18) (.tmp 22) 25 (by rfl) w.heap.size 35 j0 (.agg #[.int .i64 0, .int .i64 0]) 2 16 Try.underlying25 ji jz0 jz1 jz2 rfl (by decide) _ n (seatList S n) (by rfl) (ho4.alloc _) (some ⟨w4.heap.size, 0, none⟩) 1 1 [.int .i64 x, .int .i64 many] (by rfl) (fun h => (by cases h)) (by rfl) HC2.out (by intro u hu; simp at hu; rcases hu with rfl | rfl <;> rfl) (by unfold maxLen; omega) (by omega) (by simp; omega) ?_; intro v6 w6 ho6 hg6))
    have bw6 := (push bw4 (.cells #[.int .i64 x, .int .i64 many] 35)).grown hg6 (by simp; omega) (fun j hj => (ho4.lt j hj).1)
    have ho6' : w6.ownsRow w.heap.size 35 2 v6 (n + 1) (seatList (seatsWith S n x many) (n + 1)) := by
      unfold seatsWith
      rw [seatList_cat, seatList_succ, show seatList (fun _ => (⟨x, many⟩ : Seat)) 0 = [] from rfl, List.nil_append]
      exact ho6
    clear ho4 HC2 bw4 hg6 ho6
    obtain ⟨a6, c6, rfl, hc6, _⟩ := own_form ho6'
    go_wp2_with fail
    refine (specSeats_any most a6 (n + 1) c6 (seatsWith S n x many) _ (by omega) hc6 (seats_of_own ho6')).mono ?_
    rintro e w7 ⟨⟨q, rfl, hq⟩, hb7⟩
    have bw7 := after bw6 hb7
    have ho7 := own_below hb7 ho6'
    cases q with
    | false =>
      have HD2 : Hid (¬ SeatsOk most (n + 1) (seatsWith S n x many)) := fun h => by have := hq.2 h; cases this
      clear hq
      go_wp2
      exact bodyPost_ret (v := .tuple #[.slice none 0 0, .bool false]) (by simp [results, Try.results10, go_sem]) rfl ⟨seatsRes_no (fun h => HD2.out h.2), bw7⟩
    | true =>
      have HD2 : Hid (SeatsOk most (n + 1) (seatsWith S n x many)) := hq.1 rfl
      clear hq
      go_wp2
      exact bodyPost_ret (v := .tuple #[.slice a6 (n + 1) c6, .bool true]) (by simp [results, Try.results10, go_sem]) rfl ⟨seatsRes_yes ⟨HD.out, HD2.out⟩ ho7, bw7⟩

end Go.Proofs.Ytclcjnbjpelcjaj
