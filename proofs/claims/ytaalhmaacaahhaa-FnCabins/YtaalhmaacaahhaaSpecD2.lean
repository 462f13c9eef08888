/-
  OWN TEXT: the contract of the specification's GoodDeck.
-/
import Derived.Test.YtaalhmaacaahhaaSpecD1
import Derived.Test.YtaalhmaacaahhaaKitG
import Derived.Deep.DeepCutAuto
namespace Go.Proofs.Ytaalhmaacaahhaa
open Go.RowKit

set_option maxHeartbeats 6400000 in
set_option maxRecDepth 100000 in
theorem specDeck_any (ao bo : Option Addr) (m mc n c : Nat) (p : Pairs) (S : Nat → Stay) (w : World) (hl : p.n = m) (hm : m ≤ 1048576) (hn : n ≤ 1048576) (hc : n ≤ c) (hx : PairsAt w ao p) (hz : StaysAt w bo n S) :
    Calls Try.prog 104 #[.slice ao m mc, .slice bo n c] w fun e w' => SaysIf (DeckS p n S) e ∧ Below w.heap.size w w' := by
  have HL : Hid (p.n = m) := hl
  have HX : Hid (PairsAt w ao p) := hx
  have HZ : Hid (StaysAt w bo n S) := hz
  clear hl hx hz
  go_enter Try.func104, Try.ntmps104
  go_wp2_with fail
  refine (l4Lanes_any ao m mc p _ HL.out hm HX.out).mono ?_
  rintro e w1 ⟨⟨q, rfl, hq⟩, hb1⟩
  cases q with
  | false =>
    have HG : Hid (¬ GoodL p) := fun h => by have := hq.2 h; cases this
    clear hq
    go_wp2
    go_ret
    exact ⟨says_no (fun h => HG.out h.1), hb1⟩
  | true =>
    have HG : Hid (GoodL p) := hq.1 rfl
    have hm4 : m ≤ 4 := by rw [← HL.out]; exact HG.out.1
    clear hq
    by_cases h60 : n ≤ 60
    · have d0 : decide (60 < n) = false := by simp; omega
      have hwm : IntKind.i64.wrap ((m : Int) - 1) = (m : Int) - 1 := by rw [IntKind.wrap_i64]; omega
      go_wp2
      go_loopw [5, 6, 19] (fun _ _ i wr => ∃ k : Nat, k ≤ n ∧ i = .int .i64 k ∧ (∀ j, j < k → OkS p S j) ∧ Below w.heap.size w wr) (fun _ _ i _ => n - (intOf i).toNat)
      case atStart => exact ⟨0, Nat.zero_le _, rfl, fun j hj => by omega, hb1⟩
      case round =>
        obtain ⟨i, hi, rfl, hall, hbel⟩ := hrel
        have HA : Hid (∀ j, j < i → OkS p S j) := hall
        clear hall hb1
        by_cases hlt : i < n
        · obtain ⟨b, off, rfl, h0, h1, h2, h3⟩ := HZ.out i hlt
          have hb := World.block_lt_of_cell? w _ h0
          have c0 := (hbel.cell (p := ⟨b, off + i * 4, none⟩) hb).trans h0
          have c1 := (hbel.cell (p := ⟨b, off + i * 4 + 1, none⟩) hb).trans h1
          have c2 := (hbel.cell (p := ⟨b, off + i * 4 + 2, none⟩) hb).trans h2
          have c3 := (hbel.cell (p := ⟨b, off + i * 4 + 3, none⟩) hb).trans h3
          have hbox := heap_alloc_new wr (.cells #[.int .i64 (S i).who, .int .i64 (S i).ln, .int .i64 (S i).len, .int .i64 (S i).hei] 72)
          have hbx := push hbel (.cells #[.int .i64 (S i).who, .int .i64 (S i).ln, .int .i64 (S i).len, .int .i64 (S i).hei] 72)
          clear h0 h1 h2 h3
          go_upto_region 6 with fail
          generalize hW : wr.alloc (.cells #[.int .i64 (S i).who, .int .i64 (S i).ln, .int .i64 (S i).len, .int .i64 (S i).hei] 72) = W at hbox hbx ⊢
          clear hW
          have hsW : wr.heap.size < W.heap.size := blk_lt hbox
          have z0 : ∀ g : Grown W, g.val.cell? ⟨wr.heap.size, 0, none⟩ = some (.int .i64 (S i).who) := fun g => (g.bel.cell hsW).trans (blk_cell hbox 0 _ rfl)
          have z1 : ∀ g : Grown W, g.val.cell? ⟨wr.heap.size, 1, none⟩ = some (.int .i64 (S i).ln) := fun g => (g.bel.cell hsW).trans (blk_cell hbox 1 _ rfl)
          have z2 : ∀ g : Grown W, g.val.cell? ⟨wr.heap.size, 2, none⟩ = some (.int .i64 (S i).len) := fun g => (g.bel.cell hsW).trans (blk_cell hbox 2 _ rfl)
          have z3 : ∀ g : Grown W, g.val.cell? ⟨wr.heap.size, 3, none⟩ = some (.int .i64 (S i).hei) := fun g => (g.bel.cell hsW).trans (blk_cell hbox 3 _ rfl)
          have i1 : (0 : Int) ≤ (i : Int) := by omega
          have i2 : (i : Int) ≤ (c : Int) := by omega
          clear c0 c1 c2 c3 hbox hbel
          by_cases g1 : In (S i).who 1 9999
          · have e1 : decide (In (S i).who 1 9999) = true := decide_eq_true g1
            have H1 : Hid (In (S i).who 1 9999) := g1
            clear g1
            by_cases g2 : In (S i).ln 0 ((m : Int) - 1)
            · have H2 : Hid (In (S i).ln 0 ((p.n : Int) - 1)) := by rw [HL.out]; exact g2
              obtain ⟨l, hl⟩ : ∃ l : Nat, (S i).ln = l := ⟨(S i).ln.toNat, by unfold In at g2; omega⟩
              have hlm : l < m := by unfold In at g2; omega
              have HLN : Hid ((S i).ln = l) := hl
              have e2 : decide (In (l : Int) 0 ((m : Int) - 1)) = true := decide_eq_true (by rw [← hl]; exact g2)
              have z1' : ∀ g : Grown W, g.val.cell? ⟨wr.heap.size, 1, none⟩ = some (.int .i64 (l : Int)) := fun g => by rw [z1 g, hl]
              obtain ⟨b', off', rfl, k1, k2⟩ := HX.out l (by rw [HL.out]; exact hlm)
              have hb' := World.block_lt_of_cell? w _ k1
              have y2 : ∀ g : Grown W, g.val.cell? ⟨b', off' + l * 2 + 1, none⟩ = some (.int .i64 (p.B l)) := fun g => ((after hbx g.bel).cell (p := ⟨b', off' + l * 2 + 1, none⟩) hb').trans k2
              have l1 : (0 : Int) ≤ (l : Int) := by omega
              have l2 : (l : Int) < (m : Int) := by omega
              clear g2 z1 hl k1 k2
              by_cases g3 : In (S i).len 1 2000
              · have e3 : decide (In (S i).len 1 2000) = true := decide_eq_true g3
                have H3 : Hid (In (S i).len 1 2000) := g3
                clear g3
                by_cases g4 : In (S i).hei 1 (p.B l)
                · have e4 : decide (In (S i).hei 1 (p.B l)) = true := decide_eq_true g4
                  have H4 : Hid (In (S i).hei 1 (p.B l)) := g4
                  clear g4
                  by_cases g5 : Has (whoS S) i (S i).who
                  · have H5 : Hid (Has (whoS S) i (S i).who) := g5
                    clear g5
                    refine wp_region_grow (by kernel_rfl) (by kernel_rfl) ?_
                    repeat (first | go_big_quiet_skip | (go_big_quiet_want; go_big_quiet_op; first | go_big_quiet_on | (apply Exists.intro; refine ⟨fun g => ?_, ?_⟩; (focus (first | (go_at_call 105; refine grown_call (v := .bool true) ((l4By_is _ _).mono ?_); rintro e w4 ⟨rfl, rfl⟩; exact ⟨by rw [e1], Below.refl _ _⟩) | (go_at_call 90; first | (refine grown_call (v := .bool true) ((l1In_is _ _ _ _).mono ?_); rintro e w4 ⟨rfl, rfl⟩; exact ⟨by rw [e2], Below.refl _ _⟩) | (refine grown_call (v := .bool true) ((l1In_is _ _ _ _).mono ?_); rintro e w4 ⟨rfl, rfl⟩; exact ⟨by rw [e3], Below.refl _ _⟩) | (refine grown_call (v := .bool true) ((l1In_is _ _ _ _).mono ?_); rintro e w4 ⟨rfl, rfl⟩; exact ⟨by rw [e4], Below.refl _ _⟩)) | (go_at_call 106; refine grown_call (v := .bool true) ((l4Has_any _ i c S (S i).who _ (by omega) ((HZ.out.upto (by omega)).below (after hbx g.bel))).mono ?_); rintro e w4 ⟨⟨bb, rfl, hi⟩, hbb⟩; obtain rfl := hi.2 H5.out; exact ⟨rfl, hbb⟩))); go_big_quiet_on)))
                    refine wpQuiet_nil ?_
                    rintro _ ⟨g, rfl⟩
                    go_wp2
                    go_ret
                    exact ⟨says_no (fun h => (h.2.2.1 i hlt).2.2.2.2 H5.out), after hbx g.bel⟩
                  · have H5 : Hid (¬ Has (whoS S) i (S i).who) := g5
                    clear g5
                    refine wp_region_grow (by kernel_rfl) (by kernel_rfl) ?_
                    repeat (first | go_big_quiet_skip | (go_big_quiet_want; go_big_quiet_op; first | go_big_quiet_on | (apply Exists.intro; refine ⟨fun g => ?_, ?_⟩; (focus (first | (go_at_call 105; refine grown_call (v := .bool true) ((l4By_is _ _).mono ?_); rintro e w4 ⟨rfl, rfl⟩; exact ⟨by rw [e1], Below.refl _ _⟩) | (go_at_call 90; first | (refine grown_call (v := .bool true) ((l1In_is _ _ _ _).mono ?_); rintro e w4 ⟨rfl, rfl⟩; exact ⟨by rw [e2], Below.refl _ _⟩) | (refine grown_call (v := .bool true) ((l1In_is _ _ _ _).mono ?_); rintro e w4 ⟨rfl, rfl⟩; exact ⟨by rw [e3], Below.refl _ _⟩) | (refine grown_call (v := .bool true) ((l1In_is _ _ _ _).mono ?_); rintro e w4 ⟨rfl, rfl⟩; exact ⟨by rw [e4], Below.refl _ _⟩)) | (go_at_call 106; refine grown_call (v := .bool false) ((l4Has_any _ i c S (S i).who _ (by omega) ((HZ.out.upto (by omega)).below (after hbx g.bel))).mono ?_); rintro e w4 ⟨⟨bb, rfl, hi⟩, hbb⟩; obtain rfl := Bool.eq_false_iff.2 (fun e => H5.out (hi.1 e)); exact ⟨rfl, hbb⟩))); go_big_quiet_on)))
                    refine wpQuiet_nil ?_
                    rintro _ ⟨g, rfl⟩
                    go_wp2
                    have HAN : Hid (∀ j, j < i + 1 → OkS p S j) := fun j hj => by
                      by_cases e : j = i
                      · subst e; exact ⟨H1.out, H2.out, H3.out, by rw [HLN.out]; exact H4.out, H5.out⟩
                      · exact HA.out j (by omega)
                    go_roundw
                    case rel => exact ⟨i + 1, by omega, by go_num, HAN.out, after hbx g.bel⟩
                    case measure => simp [intOf]; omega
                · have e4 : decide (In (S i).hei 1 (p.B l)) = false := decide_eq_false g4
                  have H4 : Hid (¬ In (S i).hei 1 (p.B l)) := g4
                  clear g4
                  refine wp_region_grow (by kernel_rfl) (by kernel_rfl) ?_
                  repeat (first | go_big_quiet_skip | (go_big_quiet_want; go_big_quiet_op; first | go_big_quiet_on | (apply Exists.intro; refine ⟨fun g => ?_, ?_⟩; (focus (first | (go_at_call 105; refine grown_call (v := .bool true) ((l4By_is _ _).mono ?_); rintro e w4 ⟨rfl, rfl⟩; exact ⟨by rw [e1], Below.refl _ _⟩) | (go_at_call 90; first | (refine grown_call (v := .bool true) ((l1In_is _ _ _ _).mono ?_); rintro e w4 ⟨rfl, rfl⟩; exact ⟨by rw [e2], Below.refl _ _⟩) | (refine grown_call (v := .bool true) ((l1In_is _ _ _ _).mono ?_); rintro e w4 ⟨rfl, rfl⟩; exact ⟨by rw [e3], Below.refl _ _⟩) | (refine grown_call (v := .bool false) ((l1In_is _ _ _ _).mono ?_); rintro e w4 ⟨rfl, rfl⟩; exact ⟨by rw [e4], Below.refl _ _⟩)))); go_big_quiet_on)))
                  refine wpQuiet_nil ?_
                  rintro _ ⟨g, rfl⟩
                  go_wp2
                  go_ret
                  exact ⟨says_no (fun h => H4.out (by have := (h.2.2.1 i hlt).2.2.2.1; rw [HLN.out] at this; exact this)), after hbx g.bel⟩
              · have e3 : decide (In (S i).len 1 2000) = false := decide_eq_false g3
                have H3 : Hid (¬ In (S i).len 1 2000) := g3
                clear g3
                refine wp_region_grow (by kernel_rfl) (by kernel_rfl) ?_
                repeat (first | go_big_quiet_skip | (go_big_quiet_want; go_big_quiet_op; first | go_big_quiet_on | (apply Exists.intro; refine ⟨fun g => ?_, ?_⟩; (focus (first | (go_at_call 105; refine grown_call (v := .bool true) ((l4By_is _ _).mono ?_); rintro e w4 ⟨rfl, rfl⟩; exact ⟨by rw [e1], Below.refl _ _⟩) | (go_at_call 90; first | (refine grown_call (v := .bool true) ((l1In_is _ _ _ _).mono ?_); rintro e w4 ⟨rfl, rfl⟩; exact ⟨by rw [e2], Below.refl _ _⟩) | (refine grown_call (v := .bool false) ((l1In_is _ _ _ _).mono ?_); rintro e w4 ⟨rfl, rfl⟩; exact ⟨by rw [e3], Below.refl _ _⟩)))); go_big_quiet_on)))
                refine wpQuiet_nil ?_
                rintro _ ⟨g, rfl⟩
                go_wp2
                go_ret
                exact ⟨says_no (fun h => H3.out (h.2.2.1 i hlt).2.2.1), after hbx g.bel⟩
            · have e2 : decide (In (S i).ln 0 ((m : Int) - 1)) = false := decide_eq_false g2
              have H2 : Hid (¬ In (S i).ln 0 ((p.n : Int) - 1)) := by rw [HL.out]; exact g2
              clear g2
              refine wp_region_grow (by kernel_rfl) (by kernel_rfl) ?_
              repeat (first | go_big_quiet_skip | (go_big_quiet_want; go_big_quiet_op; first | go_big_quiet_on | (apply Exists.intro; refine ⟨fun g => ?_, ?_⟩; (focus (first | (go_at_call 105; refine grown_call (v := .bool true) ((l4By_is _ _).mono ?_); rintro e w4 ⟨rfl, rfl⟩; exact ⟨by rw [e1], Below.refl _ _⟩) | (go_at_call 90; first | (refine grown_call (v := .bool false) ((l1In_is _ _ _ _).mono ?_); rintro e w4 ⟨rfl, rfl⟩; exact ⟨by rw [e2], Below.refl _ _⟩)))); go_big_quiet_on)))
              refine wpQuiet_nil ?_
              rintro _ ⟨g, rfl⟩
              go_wp2
              go_ret
              exact ⟨says_no (fun h => H2.out (h.2.2.1 i hlt).2.1), after hbx g.bel⟩
          · have e1 : decide (In (S i).who 1 9999) = false := decide_eq_false g1
            have H1 : Hid (¬ In (S i).who 1 9999) := g1
            clear g1
            refine wp_region_grow (by kernel_rfl) (by kernel_rfl) ?_
            repeat (first | go_big_quiet_skip | (go_big_quiet_want; go_big_quiet_op; first | go_big_quiet_on | (apply Exists.intro; refine ⟨fun g => ?_, ?_⟩; (focus (first | (go_at_call 105; refine grown_call (v := .bool false) ((l4By_is _ _).mono ?_); rintro e w4 ⟨rfl, rfl⟩; exact ⟨by rw [e1], Below.refl _ _⟩))); go_big_quiet_on)))
            refine wpQuiet_nil ?_
            rintro _ ⟨g, rfl⟩
            go_wp2
            go_ret
            exact ⟨says_no (fun h => H1.out (h.2.2.1 i hlt).1), after hbx g.bel⟩
        · obtain rfl : i = n := by omega
          go_wp2_with fail
          refine (l4Free_any ao bo m mc i c p S _ HL.out HG.out h60 (fun j hj => (HA.out j hj).2.2.1) (HX.out.below hbel) (HZ.out.below hbel)).mono ?_
          rintro e w2 ⟨⟨v, rfl, hown⟩, hb2⟩
          obtain ⟨aw, cw, rfl, _⟩ := own_form hown
          have HI : Hid (IntsAt w2 aw m (left p S i)) := own_ints hown
          have hbw := after hbel hb2
          clear hown hb2 hbel
          go_wp2
          go_loopw [8, 68] (fun _ j wr => ∃ k : Nat, k ≤ m ∧ j = .int .i64 k ∧ (∀ j, j < k → 0 ≤ left p S i j) ∧ wr = w2) (fun _ j _ => m - (intOf j).toNat)
          case atStart => exact ⟨0, Nat.zero_le _, rfl, fun j hj => by omega, rfl⟩
          case round =>
            obtain ⟨k, hk, rfl, hall, hwr⟩ := hrel
            have hwr' := hwr.symm
            subst hwr'
            clear hwr
            have HK : Hid (∀ j, j < k → 0 ≤ left p S i j) := hall
            clear hall
            by_cases hlt3 : k < m
            · obtain ⟨b3, off3, rfl, h0⟩ := HI.out k hlt3
              by_cases hneg : left p S i k < 0
              · have e1 : decide (left p S i k < 0) = true := decide_eq_true hneg
                have HNE : Hid (left p S i k < 0) := hneg
                clear hneg
                go_wp2
                go_ret
                exact ⟨says_no (fun h => by have := h.2.2.2 k (by rw [HL.out]; exact hlt3); have := HNE.out; omega), hbw⟩
              · have e1 : decide (left p S i k < 0) = false := decide_eq_false hneg
                have HNE : Hid (¬ left p S i k < 0) := hneg
                clear hneg
                go_wp2
                go_roundw
                case rel => exact ⟨k + 1, by omega, by go_num, fun j hj => by
                  by_cases e : j = k
                  · subst e; have := HNE.out; omega
                  · exact HK.out j (by omega), by trivial⟩
                case measure => simp [intOf]; omega
            · obtain rfl : k = m := by omega
              go_wp2
              go_ret
              exact ⟨says_yes ⟨HG.out, h60, HA.out, fun j hj => HK.out j (by rw [HL.out] at hj; exact hj)⟩, hbw⟩
    · have d0 : decide (60 < n) = true := by simp; omega
      go_wp2
      go_ret
      exact ⟨says_no (fun h => h60 h.2.1), hb1⟩

end Go.Proofs.Ytaalhmaacaahhaa
