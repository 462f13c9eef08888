/-
  OWN TEXT: contracts of the specification that place: l5Whole, l5Berths, PlaceWhole, PlaceBerths.
-/
import Derived.Test.YtaalhmaacaahhaaSpecRb
import Derived.Test.YtaalhmaacaahhaaInfoRoom
namespace Go.Proofs.Ytaalhmaacaahhaa
open Go.RowKit

/-- What looking for a cabin answers. -/
def RIx (n m : Nat) (P : Nat → Prop) (r : Int) : Prop := (∃ k : Nat, r = (k : Int) ∧ n ≠ 60 ∧ FirstOf m P k) ∨ (r = -1 ∧ (n = 60 ∨ ∀ k, ¬ FirstOf m P k))

set_option maxHeartbeats 3200000 in
set_option maxRecDepth 100000 in
theorem l5Berths_any (ao bo : Option Addr) (m mc n c : Nat) (p : Pairs) (S : Nat → Room) (cl q : Int) (w : World) (hl : p.n = m) (hd : RoomsS p n S) (hx : PairsAt w ao p) (hz : RoomsAt w bo n S) :
    Calls Try.prog 118 #[.slice ao m mc, .slice bo n c, .int .i64 cl, .int .i64 q] w fun e w' => (∃ r : Int, e = .returned (.int .i64 r) ∧ RIx n p.n (BerthP p n S cl q) r) ∧ Below w.heap.size w w' := by
  have HL : Hid (p.n = m) := hl
  have HD : Hid (RoomsS p n S) := hd
  have HX : Hid (PairsAt w ao p) := hx
  have HZ : Hid (RoomsAt w bo n S) := hz
  have hm4 : m ≤ 6 := by rw [← hl]; exact hd.1.1
  have hn60 : n ≤ 60 := hd.2.1
  clear hl hd hx hz
  by_cases h60 : n = 60
  · have e60 : (n == 60) = true := by simpa using h60
    have e61 : ((n : Int) == 60) = true := by simp; omega
    have H60 : Hid (n = 60) := h60
    clear h60
    go_enter Try.func118, Try.ntmps118
    go_wp2
    go_ret
    exact ⟨⟨_, rfl, .inr ⟨rfl, .inl H60.out⟩⟩, Below.refl _ _⟩
  · have e60 : (n == 60) = false := by simpa using h60
    have e61 : ((n : Int) == 60) = false := by simp; omega
    have H60 : Hid (n ≠ 60) := h60
    clear h60
    go_enter Try.func118, Try.ntmps118
    go_wp2_with fail
    refine (l5Free_any ao bo m mc n c p S _ HL.out HD.out.1 hn60 HD.out.manys HX.out HZ.out).mono ?_
    rintro e w1 ⟨⟨v, rfl, hown⟩, hb1⟩
    obtain ⟨aw, cw, rfl, _⟩ := own_form hown
    have HI : Hid (IntsAt w1 aw m (leftR p S n)) := own_ints hown
    clear hown
    go_wp2
    go_loopw [10, 11, 20] (fun _ _ i wr => ∃ k : Nat, k ≤ m ∧ i = .int .i64 k ∧ (∀ j : Nat, j < k → ¬ BerthP p n S cl q j) ∧ Below w1.heap.size w1 wr) (fun _ _ i _ => m - (intOf i).toNat)
    case atStart => exact ⟨0, Nat.zero_le _, rfl, fun j hj => by omega, Below.refl _ _⟩
    case round =>
      obtain ⟨k, hk, rfl, hall, hbel⟩ := hrel
      have HA : Hid (∀ j : Nat, j < k → ¬ BerthP p n S cl q j) := hall
      clear hall
      by_cases hlt : k < m
      · obtain ⟨b, off, rfl, h1, h2⟩ := HX.out k (by rw [HL.out]; exact hlt)
        have hb := World.block_lt_of_cell? w _ h1
        have c1 := ((after hb1 hbel).cell (p := ⟨b, off + k * 2, none⟩) hb).trans h1
        have c2 := ((after hb1 hbel).cell (p := ⟨b, off + k * 2 + 1, none⟩) hb).trans h2
        obtain ⟨b3, off3, rfl, h3⟩ := HI.out k hlt
        have hb3 := World.block_lt_of_cell? w1 _ h3
        have c3 : (wr.alloc (.cells #[.int .i64 (p.A k), .int .i64 (p.B k)] 85)).cell? ⟨b3, off3 + k, none⟩ = some (.int .i64 (leftR p S n k)) := ((push hbel _).cell (p := ⟨b3, off3 + k, none⟩) hb3).trans h3
        have i1 : (0 : Int) ≤ (k : Int) := by omega
        have i2 : (k : Int) < (m : Int) := by omega
        clear h1 h2 h3
        by_cases g1 : p.A k = cl
        · have e1 : (p.A k == cl) = true := by simpa using g1
          by_cases g2 : q ≤ leftR p S n k
          · have e2 : decide (q ≤ leftR p S n k) = true := decide_eq_true g2
            have HF : Hid (FirstOf p.n (BerthP p n S cl q) k) := ⟨by rw [HL.out]; exact hlt, ⟨g1, g2⟩, HA.out⟩
            clear g1 g2
            go_wp2
            go_ret
            exact ⟨⟨_, rfl, .inl ⟨k, rfl, H60.out, HF.out⟩⟩, after hb1 (push hbel _)⟩
          · have e2 : decide (q ≤ leftR p S n k) = false := decide_eq_false g2
            have HF : Hid (¬ BerthP p n S cl q k) := fun h => g2 h.2
            clear g1 g2
            go_wp2
            go_roundw
            case rel => exact ⟨k + 1, by omega, by go_num, fun j hj => by
              by_cases e : j = k
              · subst e; exact HF.out
              · exact HA.out j (by omega), push hbel _⟩
            case measure => simp [intOf]; omega
        · have e1 : (p.A k == cl) = false := by simpa using g1
          have HF : Hid (¬ BerthP p n S cl q k) := fun h => g1 h.1
          clear g1
          go_wp2
          go_roundw
          case rel => exact ⟨k + 1, by omega, by go_num, fun j hj => by
            by_cases e : j = k
            · subst e; exact HF.out
            · exact HA.out j (by omega), push hbel _⟩
          case measure => simp [intOf]; omega
      · obtain rfl : k = m := by omega
        go_wp2
        go_ret
        exact ⟨⟨_, rfl, .inr ⟨rfl, .inr (fun j h => HA.out j (by have := h.1; rw [HL.out] at this; exact this) h.2.1)⟩⟩, after hb1 hbel⟩

set_option maxHeartbeats 3200000 in
set_option maxRecDepth 100000 in
theorem l5Whole_any (ao bo : Option Addr) (m mc n c : Nat) (p : Pairs) (S : Nat → Room) (cl q : Int) (w : World) (hl : p.n = m) (hd : RoomsS p n S) (hx : PairsAt w ao p) (hz : RoomsAt w bo n S) :
    Calls Try.prog 115 #[.slice ao m mc, .slice bo n c, .int .i64 cl, .int .i64 q] w fun e w' => (∃ r : Int, e = .returned (.int .i64 r) ∧ RIx n p.n (WholeP p n S cl q) r) ∧ Below w.heap.size w w' := by
  have HL : Hid (p.n = m) := hl
  have HD : Hid (RoomsS p n S) := hd
  have HX : Hid (PairsAt w ao p) := hx
  have HZ : Hid (RoomsAt w bo n S) := hz
  have hm4 : m ≤ 6 := by rw [← hl]; exact hd.1.1
  have hn60 : n ≤ 60 := hd.2.1
  clear hl hd hx hz
  by_cases h60 : n = 60
  · have e60 : (n == 60) = true := by simpa using h60
    have e61 : ((n : Int) == 60) = true := by simp; omega
    have H60 : Hid (n = 60) := h60
    clear h60
    go_enter Try.func115, Try.ntmps115
    go_wp2
    go_ret
    exact ⟨⟨_, rfl, .inr ⟨rfl, .inl H60.out⟩⟩, Below.refl _ _⟩
  · have e60 : (n == 60) = false := by simpa using h60
    have e61 : ((n : Int) == 60) = false := by simp; omega
    have H60 : Hid (n ≠ 60) := h60
    clear h60
    go_enter Try.func115, Try.ntmps115
    go_wp2_with fail
    refine (l5Free_any ao bo m mc n c p S _ HL.out HD.out.1 hn60 HD.out.manys HX.out HZ.out).mono ?_
    rintro e w1 ⟨⟨v, rfl, hown⟩, hb1⟩
    obtain ⟨aw, cw, rfl, _⟩ := own_form hown
    have HI : Hid (IntsAt w1 aw m (leftR p S n)) := own_ints hown
    clear hown
    go_wp2
    go_loopw [10, 12, 23] (fun v _ i wr => ∃ (k : Nat) (L : Bool), k ≤ m ∧ i = .int .i64 k ∧ v = .bool L ∧ (L = true ↔ ∃ j, j < k ∧ p.A j = cl ∧ q ≤ p.B j) ∧ Below w1.heap.size w1 wr) (fun _ _ i _ => m - (intOf i).toNat)
    case atStart => exact ⟨0, false, Nat.zero_le _, rfl, rfl, ⟨fun h => (by cases h), fun ⟨j, hj, _⟩ => (by omega)⟩, Below.refl _ _⟩
    case round =>
      obtain ⟨k, L, hk, rfl, rfl, hL, hbel⟩ := hrel
      have HLG : Hid (L = true ↔ ∃ j, j < k ∧ p.A j = cl ∧ q ≤ p.B j) := hL
      clear hL
      by_cases hlt : k < m
      · obtain ⟨b, off, rfl, h1, h2⟩ := HX.out k (by rw [HL.out]; exact hlt)
        have hb := World.block_lt_of_cell? w _ h1
        have c1 := ((after hb1 hbel).cell (p := ⟨b, off + k * 2, none⟩) hb).trans h1
        have c2 := ((after hb1 hbel).cell (p := ⟨b, off + k * 2 + 1, none⟩) hb).trans h2
        clear h1 h2
        cases L with
        | true =>
          go_wp2
          go_roundw
          case rel => exact ⟨k + 1, true, by omega, by go_num, rfl, ⟨fun _ => (by obtain ⟨j, hj, h⟩ := HLG.out.1 rfl; exact ⟨j, by omega, h⟩), fun _ => rfl⟩, push hbel _⟩
          case measure => simp [intOf]; omega
        | false =>
          have HN : Hid (¬ ∃ j, j < k ∧ p.A j = cl ∧ q ≤ p.B j) := fun h => by have := HLG.out.2 h; cases this
          clear HLG
          by_cases g1 : p.A k = cl
          · have e1 : (p.A k == cl) = true := by simpa using g1
            by_cases g2 : q ≤ p.B k
            · have e2 : decide (q ≤ p.B k) = true := decide_eq_true g2
              have HG : Hid (p.A k = cl ∧ q ≤ p.B k) := ⟨g1, g2⟩
              clear g1 g2
              go_wp2
              go_roundw
              case rel => exact ⟨k + 1, true, by omega, by go_num, rfl, ⟨fun _ => ⟨k, by omega, HG.out⟩, fun _ => rfl⟩, push hbel _⟩
              case measure => simp [intOf]; omega
            · have e2 : decide (q ≤ p.B k) = false := decide_eq_false g2
              have HG : Hid (¬ (p.A k = cl ∧ q ≤ p.B k)) := fun h => g2 h.2
              clear g1 g2
              go_wp2
              go_roundw
              case rel => exact ⟨k + 1, false, by omega, by go_num, rfl, ⟨fun h => (by cases h), fun ⟨j, hj, h⟩ => by
                by_cases e : j = k
                · subst e; exact absurd h HG.out
                · exact absurd ⟨j, by omega, h⟩ HN.out⟩, push hbel _⟩
              case measure => simp [intOf]; omega
          · have e1 : (p.A k == cl) = false := by simpa using g1
            have HG : Hid (¬ (p.A k = cl ∧ q ≤ p.B k)) := fun h => g1 h.1
            clear g1
            go_wp2
            go_roundw
            case rel => exact ⟨k + 1, false, by omega, by go_num, rfl, ⟨fun h => (by cases h), fun ⟨j, hj, h⟩ => by
              by_cases e : j = k
              · subst e; exact absurd h HG.out
              · exact absurd ⟨j, by omega, h⟩ HN.out⟩, push hbel _⟩
            case measure => simp [intOf]; omega
      · obtain rfl : k = m := by omega
        have HLP : Hid (L = true ↔ ∃ j, j < p.n ∧ p.A j = cl ∧ q ≤ p.B j) := by rw [HL.out]; exact HLG.out
        have HI2 : Hid (IntsAt wr aw k (leftR p S n)) := HI.out.below hbel
        have hb2 := after hb1 hbel
        clear HLG HI hb1 hbel
        generalize wr = w2 at *
        go_wp2
        go_loopw [13, 14, 43] (fun _ _ i wr => ∃ t : Nat, t ≤ k ∧ i = .int .i64 t ∧ (∀ j : Nat, j < t → ¬ WholeP p n S cl q j) ∧ Below w2.heap.size w2 wr) (fun _ _ i _ => k - (intOf i).toNat)
        case atStart => exact ⟨0, Nat.zero_le _, rfl, fun j hj => by omega, Below.refl _ _⟩
        case round =>
          obtain ⟨t, ht, rfl, hall, hbel⟩ := hrel
          have HA : Hid (∀ j : Nat, j < t → ¬ WholeP p n S cl q j) := hall
          clear hall
          by_cases hlt2 : t < k
          · obtain ⟨b, off, rfl, h1, h2⟩ := HX.out t (by rw [HL.out]; exact hlt2)
            have hb := World.block_lt_of_cell? w _ h1
            have c1 := ((after hb2 hbel).cell (p := ⟨b, off + t * 2, none⟩) hb).trans h1
            have c2 := ((after hb2 hbel).cell (p := ⟨b, off + t * 2 + 1, none⟩) hb).trans h2
            obtain ⟨b3, off3, rfl, h3⟩ := HI2.out t hlt2
            have hb3 := World.block_lt_of_cell? w2 _ h3
            have hbox := heap_alloc_new wr (.cells #[.int .i64 (p.A t), .int .i64 (p.B t)] 85)
            have hbx := push hbel (.cells #[.int .i64 (p.A t), .int .i64 (p.B t)] 85)
            clear h1 h2
            go_upto_region 13 with fail
            generalize hW : wr.alloc (.cells #[.int .i64 (p.A t), .int .i64 (p.B t)] 85) = W at hbox hbx ⊢
            clear hW
            have hsW : wr.heap.size < W.heap.size := blk_lt hbox
            have z0 : ∀ g : Grown W, g.val.cell? ⟨wr.heap.size, 0, none⟩ = some (.int .i64 (p.A t)) := fun g => (g.bel.cell hsW).trans (blk_cell hbox 0 _ rfl)
            have z1 : ∀ g : Grown W, g.val.cell? ⟨wr.heap.size, 1, none⟩ = some (.int .i64 (p.B t)) := fun g => (g.bel.cell hsW).trans (blk_cell hbox 1 _ rfl)
            have y3 : ∀ g : Grown W, g.val.cell? ⟨b3, off3 + t, none⟩ = some (.int .i64 (leftR p S n t)) := fun g => ((after hbx g.bel).cell (p := ⟨b3, off3 + t, none⟩) hb3).trans h3
            have i1 : (0 : Int) ≤ (t : Int) := by omega
            have i2 : (t : Int) < (k : Int) := by omega
            clear c1 c2 hbox hbel h3
            by_cases g1 : p.A t = cl
            · have e1 : (p.A t == cl) = true := by simpa using g1
              by_cases g2 : leftR p S n t = p.B t
              · have e2 : (leftR p S n t == p.B t) = true := by simpa using g2
                by_cases g3 : q ≤ p.B t
                · have e3 : decide (q ≤ p.B t) = true := decide_eq_true g3
                  have HF : Hid (FirstOf p.n (WholeP p n S cl q) t) := ⟨by rw [HL.out]; exact hlt2, ⟨g1, g2, .inl g3⟩, HA.out⟩
                  clear g1 g2 g3
                  refine wp_region_grow (by kernel_rfl) (by kernel_rfl) ?_
                  repeat (first | go_big_quiet_skip | (go_big_quiet_want; go_big_quiet_op; go_big_quiet_on))
                  refine wpQuiet_nil ?_
                  rintro _ ⟨g, rfl⟩
                  go_wp2
                  go_ret
                  exact ⟨⟨_, rfl, .inl ⟨t, rfl, H60.out, HF.out⟩⟩, after hb2 (after hbx g.bel)⟩
                · have e3 : decide (q ≤ p.B t) = false := decide_eq_false g3
                  cases L with
                  | false =>
                    have HF : Hid (FirstOf p.n (WholeP p n S cl q) t) := ⟨by rw [HL.out]; exact hlt2, ⟨g1, g2, .inr (fun h => by have := HLP.out.2 h; cases this)⟩, HA.out⟩
                    clear g1 g2 g3
                    refine wp_region_grow (by kernel_rfl) (by kernel_rfl) ?_
                    repeat (first | go_big_quiet_skip | (go_big_quiet_want; go_big_quiet_op; go_big_quiet_on))
                    refine wpQuiet_nil ?_
                    rintro _ ⟨g, rfl⟩
                    go_wp2
                    go_ret
                    exact ⟨⟨_, rfl, .inl ⟨t, rfl, H60.out, HF.out⟩⟩, after hb2 (after hbx g.bel)⟩
                  | true =>
                    have HF : Hid (¬ WholeP p n S cl q t) := fun h => by
                      rcases h.2.2 with h | h
                      · exact g3 h
                      · exact h (HLP.out.1 rfl)
                    clear g1 g2 g3
                    refine wp_region_grow (by kernel_rfl) (by kernel_rfl) ?_
                    repeat (first | go_big_quiet_skip | (go_big_quiet_want; go_big_quiet_op; go_big_quiet_on))
                    refine wpQuiet_nil ?_
                    rintro _ ⟨g, rfl⟩
                    go_wp2
                    go_roundw
                    case rel => exact ⟨t + 1, by omega, by go_num, fun j hj => by
                      by_cases e : j = t
                      · subst e; exact HF.out
                      · exact HA.out j (by omega), after hbx g.bel⟩
                    case measure => simp [intOf]; omega
              · have e2 : (leftR p S n t == p.B t) = false := by simpa using g2
                have HF : Hid (¬ WholeP p n S cl q t) := fun h => g2 h.2.1
                clear g1 g2
                refine wp_region_grow (by kernel_rfl) (by kernel_rfl) ?_
                repeat (first | go_big_quiet_skip | (go_big_quiet_want; go_big_quiet_op; go_big_quiet_on))
                refine wpQuiet_nil ?_
                rintro _ ⟨g, rfl⟩
                go_wp2
                go_roundw
                case rel => exact ⟨t + 1, by omega, by go_num, fun j hj => by
                  by_cases e : j = t
                  · subst e; exact HF.out
                  · exact HA.out j (by omega), after hbx g.bel⟩
                case measure => simp [intOf]; omega
            · have e1 : (p.A t == cl) = false := by simpa using g1
              have HF : Hid (¬ WholeP p n S cl q t) := fun h => g1 h.1
              clear g1
              refine wp_region_grow (by kernel_rfl) (by kernel_rfl) ?_
              repeat (first | go_big_quiet_skip | (go_big_quiet_want; go_big_quiet_op; go_big_quiet_on))
              refine wpQuiet_nil ?_
              rintro _ ⟨g, rfl⟩
              go_wp2
              go_roundw
              case rel => exact ⟨t + 1, by omega, by go_num, fun j hj => by
                by_cases e : j = t
                · subst e; exact HF.out
                · exact HA.out j (by omega), after hbx g.bel⟩
              case measure => simp [intOf]; omega
          · obtain rfl : t = k := by omega
            go_wp2
            go_ret
            exact ⟨⟨_, rfl, .inr ⟨rfl, .inr (fun j h => HA.out j (by have := h.1; rw [HL.out] at this; exact this) h.2.1)⟩⟩, after hb2 hbel⟩

set_option maxHeartbeats 3200000 in
set_option maxRecDepth 100000 in
theorem specWhole_any (ao bo : Option Addr) (m mc n c : Nat) (p : Pairs) (S : Nat → Room) (x cl q : Int) (w : World) (hl : p.n = m) (hm : m ≤ 1048576) (hn : n ≤ 1048576) (hc : n ≤ c) (hx : PairsAt w ao p) (hz : RoomsAt w bo n S) (hnil : bo = none → n = 0 ∧ c = 0) :
    Calls Try.prog 37 #[.slice ao m mc, .slice bo n c, .int .i64 x, .int .i64 cl, .int .i64 q] w fun e w' => WholeRes w' w.heap.size 174 p n S x cl q e ∧ Below w.heap.size w w' := by
  obtain ⟨j0, ji, jz0, jz1, jz2⟩ := info_parts Try.infoRoom
  have HX : Hid (PairsAt w ao p) := hx
  have HZ : Hid (RoomsAt w bo n S) := hz
  have HL : Hid (p.n = m) := hl
  have HNI : Hid (bo = none → n = 0 ∧ c = 0) := hnil
  clear hx hz hl hnil
  go_enter Try.func37, Try.ntmps37
  go_wp2_with fail
  refine (specRooms_any ao bo m mc n c p S _ HL.out hm hn hc HX.out HZ.out).mono ?_
  rintro e w1 ⟨⟨q1, rfl, hq⟩, hb1⟩
  cases q1 with
  | false =>
    have HD : Hid (¬ RoomsS p n S) := fun h => by have := hq.2 h; cases this
    clear hq
    go_wp2
    exact bodyPost_ret (v := .tuple #[.slice none 0 0, .int .i64 0, .bool false]) (by simp [results, Try.results37, go_sem]) rfl ⟨wholeRes_no (fun k h => HD.out h.1.1.1), hb1⟩
  | true =>
    have HD : Hid (RoomsS p n S) := hq.1 rfl
    clear hq
    by_cases g1 : In x 1 9999
    · have e1 : decide (In x 1 9999) = true := decide_eq_true g1
      have H1 : Hid (In x 1 9999) := g1
      clear g1
      go_wp2_with (first | (go_at_call 105; refine (l4By_is _ _).mono ?_; rintro e w' ⟨rfl, hw'⟩; have hw' := hw'.symm; subst hw') | (go_at_call 90; refine (l1In_is _ _ _ _).mono ?_; rintro e w' ⟨rfl, hw'⟩; have hw' := hw'.symm; subst hw'))
      refine (l5Has_any bo n c S x _ hn (HZ.out.below hb1)).mono ?_
      rintro e w2 ⟨⟨q2, rfl, hq2⟩, hb2⟩
      have bw2 := after hb1 hb2
      clear hb1 hb2
      cases q2 with
      | true =>
        have HH : Hid (Has (whoR S) n x) := hq2.1 rfl
        clear hq2
        go_wp2
        exact bodyPost_ret (v := .tuple #[.slice none 0 0, .int .i64 0, .bool false]) (by simp [results, Try.results37, go_sem]) rfl ⟨wholeRes_no (fun k h => h.1.1.2.2.1 HH.out), bw2⟩
      | false =>
        have HH : Hid (¬ Has (whoR S) n x) := fun h => by have := hq2.2 h; cases this
        clear hq2
        by_cases g2 : In cl 1 3
        · have e2 : decide (In cl 1 3) = true := decide_eq_true g2
          have H2 : Hid (In cl 1 3) := g2
          clear g2
          by_cases g3 : In q 1 20
          · have e3 : decide (In q 1 20) = true := decide_eq_true g3
            have H3 : Hid (In q 1 20) := g3
            clear g3
            go_wp2_with (first | (go_at_call 105; refine (l4By_is _ _).mono ?_; rintro e w' ⟨rfl, hw'⟩; have hw' := hw'.symm; subst hw') | (go_at_call 90; refine (l1In_is _ _ _ _).mono ?_; rintro e w' ⟨rfl, hw'⟩; have hw' := hw'.symm; subst hw'))
            refine (l5Whole_any ao bo m mc n c p S cl q _ HL.out HD.out (HX.out.below bw2) (HZ.out.below bw2)).mono ?_
            rintro e w3 ⟨⟨r, rfl, hans⟩, hb3⟩
            have bw3 := after bw2 hb3
            clear bw2 hb3
            rcases hans with ⟨k, rfl, h60, hfl⟩ | ⟨rfl, hno⟩
            · have HG : Hid (WholeG p n S x cl q) := ⟨⟨HD.out, h60, HH.out, H1.out⟩, H2.out, H3.out⟩
              have HFL : Hid (FirstOf p.n (WholeP p n S cl q) k) := hfl
              have hn60 : n ≤ 60 := HD.out.2.1
              have hkm : k < m := by have := hfl.1; rw [HL.out] at this; exact this
              have d0 : decide ((k : Int) < 0) = false := by simp
              clear h60 hfl
              have hs3 := bw3.size
              have ho1 : (w3.alloc (.cells #[] 174)).ownsRow w.heap.size 174 4 (.slice (some ⟨w3.heap.size, 0, none⟩) 0 0) 0 [] := ⟨rfl, .inr ⟨w3.heap.size, 0, #[], rfl, hs3, heap_alloc_new w3 _, Nat.le_refl _, Nat.zero_le _, rfl, rfl⟩⟩
              have HC1 : Hid (∀ ad, bo = some ad → ∀ j u, (roomList S n)[j]? = some u → (w3.alloc (.cells #[] 174)).cell? (ad.add j) = some u) := rooms_cells (HZ.out.below (push bw3 _))
              have bw4 := push bw3 (.cells #[] 174)
              go_upto_region 7 with (first | (at_builtin; refine wpList_append_any _ (by rfl) (.tmp 46) (.tmp 47) 78 (by rfl) w.heap.size 174 j0 (.agg #[.int .i64 0, .int .i64 0, .int .i64 0, .bool false]) 4 32 Try.underlying78 ji jz0 jz1 jz2 rfl (by decide) _ 0 [] (by rfl) ho1 bo n c (roomList S n) (by rfl) HNI.out (roomList_length _ _) HC1.out (roomList_one _ _) (by unfold maxLen; omega) (by omega) (by simp; omega) ?_; intro v4 w4 ho4 hg4))
              have bw5 := bw4.grown hg4 (by simp; omega) (fun j hj => (ho1.lt j hj).1)
              rw [Nat.zero_add, List.nil_append] at ho4
              have hs5 := bw5.size
              clear ho1 HC1 bw4 hg4 bw3
              obtain ⟨b, off, rfl, k1, k2⟩ := HX.out k (by rw [HL.out]; exact hkm)
              have hb := World.block_lt_of_cell? w _ k1
              have y2 := (bw5.cell (p := ⟨b, off + k * 2 + 1, none⟩) hb).trans k2
              have i1 : (0 : Int) ≤ (k : Int) := by omega
              have i2 : (k : Int) < (m : Int) := by omega
              clear k1 k2
              have HC2 : Hid (∀ ad, (some ⟨w4.heap.size, 0, none⟩ : Option Addr) = some ad → ∀ j u, [Value.int .i64 x, .int .i64 (k : Int), .int .i64 (p.B k), .bool true][j]? = some u → (w4.alloc (.cells #[.int .i64 x, .int .i64 (k : Int), .int .i64 (p.B k), .bool true] 174)).cell? (ad.add j) = some u) := by
                intro ad e
                cases e
                exact World.news_of_block (heap_alloc_new w4 _)
              go_wp2_with (first | (at_builtin; refine wpList_append_any _ (by rfl) (.tmp 49) (.tmp 58) 78 (by rfl) w.heap.size 174 j0 (.agg #[.int .i64 0, .int .i64 0, .int .i64 0, .bool false]) 4 32 Try.underlying78 ji jz0 jz1 jz2 rfl (by decide) _ n (roomList S n) (by rfl) (ho4.alloc _) (some ⟨w4.heap.size, 0, none⟩) 1 1 [.int .i64 x, .int .i64 (k : Int), .int .i64 (p.B k), .bool true] (by rfl) (fun h => (by cases h)) (by rfl) HC2.out (by intro u hu; simp at hu; rcases hu with rfl | rfl | rfl | rfl <;> rfl) (by unfold maxLen; omega) (by omega) (by simp; omega) ?_; intro v6 w6 ho6 hg6))
              have bw6 := (push bw5 _).grown hg6 (by simp; omega) (fun j hj => (ho4.lt j hj).1)
              exact bodyPost_ret (v := .tuple #[v6, .int .i64 (k : Int), .bool true]) (by simp [results, Try.results37, go_sem]) rfl ⟨wholeRes_yes HG.out HFL.out (by
                rw [roomList_cat, roomList_succ, show roomList (fun _ => (⟨x, (k : Int), (p.B k), true⟩ : Room)) 0 = [] from rfl, List.nil_append]
                exact ho6), bw6⟩
            · have HNO : Hid (n = 60 ∨ ∀ k, ¬ FirstOf p.n (WholeP p n S cl q) k) := hno
              clear hno
              go_wp2
              exact bodyPost_ret (v := .tuple #[.slice none 0 0, .int .i64 0, .bool false]) (by simp [results, Try.results37, go_sem]) rfl ⟨wholeRes_no (fun k h => by
                rcases HNO.out with h0 | h0
                · exact h.1.1.2.1 h0
                · exact h0 k h.2), bw3⟩
          · have e3 : decide (In q 1 20) = false := decide_eq_false g3
            have H3 : Hid (¬ In q 1 20) := g3
            clear g3
            go_wp2_with (first | (go_at_call 105; refine (l4By_is _ _).mono ?_; rintro e w' ⟨rfl, hw'⟩; have hw' := hw'.symm; subst hw') | (go_at_call 90; refine (l1In_is _ _ _ _).mono ?_; rintro e w' ⟨rfl, hw'⟩; have hw' := hw'.symm; subst hw'))
            exact bodyPost_ret (v := .tuple #[.slice none 0 0, .int .i64 0, .bool false]) (by simp [results, Try.results37, go_sem]) rfl ⟨wholeRes_no (fun k h => H3.out h.1.2.2), bw2⟩
        · have e2 : decide (In cl 1 3) = false := decide_eq_false g2
          have H2 : Hid (¬ In cl 1 3) := g2
          clear g2
          go_wp2_with (first | (go_at_call 105; refine (l4By_is _ _).mono ?_; rintro e w' ⟨rfl, hw'⟩; have hw' := hw'.symm; subst hw') | (go_at_call 90; refine (l1In_is _ _ _ _).mono ?_; rintro e w' ⟨rfl, hw'⟩; have hw' := hw'.symm; subst hw'))
          exact bodyPost_ret (v := .tuple #[.slice none 0 0, .int .i64 0, .bool false]) (by simp [results, Try.results37, go_sem]) rfl ⟨wholeRes_no (fun k h => H2.out h.1.2.1), bw2⟩
    · have e1 : decide (In x 1 9999) = false := decide_eq_false g1
      have H1 : Hid (¬ In x 1 9999) := g1
      clear g1
      go_wp2_with (first | (go_at_call 105; refine (l4By_is _ _).mono ?_; rintro e w' ⟨rfl, hw'⟩; have hw' := hw'.symm; subst hw') | (go_at_call 90; refine (l1In_is _ _ _ _).mono ?_; rintro e w' ⟨rfl, hw'⟩; have hw' := hw'.symm; subst hw'))
      exact bodyPost_ret (v := .tuple #[.slice none 0 0, .int .i64 0, .bool false]) (by simp [results, Try.results37, go_sem]) rfl ⟨wholeRes_no (fun k h => H1.out h.1.1.2.2.2), hb1⟩

set_option maxHeartbeats 3200000 in
set_option maxRecDepth 100000 in
theorem specPlaceB_any (ao bo : Option Addr) (m mc n c : Nat) (p : Pairs) (S : Nat → Room) (x cl q : Int) (w : World) (hl : p.n = m) (hm : m ≤ 1048576) (hn : n ≤ 1048576) (hc : n ≤ c) (hx : PairsAt w ao p) (hz : RoomsAt w bo n S) (hnil : bo = none → n = 0 ∧ c = 0) :
    Calls Try.prog 42 #[.slice ao m mc, .slice bo n c, .int .i64 x, .int .i64 cl, .int .i64 q] w fun e w' => BerthRes w' w.heap.size 174 p n S x cl q e ∧ Below w.heap.size w w' := by
  obtain ⟨j0, ji, jz0, jz1, jz2⟩ := info_parts Try.infoRoom
  have HX : Hid (PairsAt w ao p) := hx
  have HZ : Hid (RoomsAt w bo n S) := hz
  have HL : Hid (p.n = m) := hl
  have HNI : Hid (bo = none → n = 0 ∧ c = 0) := hnil
  clear hx hz hl hnil
  go_enter Try.func42, Try.ntmps42
  go_wp2_with fail
  refine (specRooms_any ao bo m mc n c p S _ HL.out hm hn hc HX.out HZ.out).mono ?_
  rintro e w1 ⟨⟨q1, rfl, hq⟩, hb1⟩
  cases q1 with
  | false =>
    have HD : Hid (¬ RoomsS p n S) := fun h => by have := hq.2 h; cases this
    clear hq
    go_wp2
    exact bodyPost_ret (v := .tuple #[.slice none 0 0, .int .i64 0, .bool false]) (by simp [results, Try.results42, go_sem]) rfl ⟨berthRes_no (fun k h => HD.out h.1.1.1), hb1⟩
  | true =>
    have HD : Hid (RoomsS p n S) := hq.1 rfl
    clear hq
    by_cases g1 : In x 1 9999
    · have e1 : decide (In x 1 9999) = true := decide_eq_true g1
      have H1 : Hid (In x 1 9999) := g1
      clear g1
      go_wp2_with (first | (go_at_call 105; refine (l4By_is _ _).mono ?_; rintro e w' ⟨rfl, hw'⟩; have hw' := hw'.symm; subst hw') | (go_at_call 90; refine (l1In_is _ _ _ _).mono ?_; rintro e w' ⟨rfl, hw'⟩; have hw' := hw'.symm; subst hw'))
      refine (l5Has_any bo n c S x _ hn (HZ.out.below hb1)).mono ?_
      rintro e w2 ⟨⟨q2, rfl, hq2⟩, hb2⟩
      have bw2 := after hb1 hb2
      clear hb1 hb2
      cases q2 with
      | true =>
        have HH : Hid (Has (whoR S) n x) := hq2.1 rfl
        clear hq2
        go_wp2
        exact bodyPost_ret (v := .tuple #[.slice none 0 0, .int .i64 0, .bool false]) (by simp [results, Try.results42, go_sem]) rfl ⟨berthRes_no (fun k h => h.1.1.2.2.1 HH.out), bw2⟩
      | false =>
        have HH : Hid (¬ Has (whoR S) n x) := fun h => by have := hq2.2 h; cases this
        clear hq2
        by_cases g2 : In cl 1 3
        · have e2 : decide (In cl 1 3) = true := decide_eq_true g2
          have H2 : Hid (In cl 1 3) := g2
          clear g2
          by_cases g3 : In q 1 4
          · have e3 : decide (In q 1 4) = true := decide_eq_true g3
            have H3 : Hid (In q 1 4) := g3
            clear g3
            go_wp2_with (first | (go_at_call 105; refine (l4By_is _ _).mono ?_; rintro e w' ⟨rfl, hw'⟩; have hw' := hw'.symm; subst hw') | (go_at_call 90; refine (l1In_is _ _ _ _).mono ?_; rintro e w' ⟨rfl, hw'⟩; have hw' := hw'.symm; subst hw'))
            refine (l5Berths_any ao bo m mc n c p S cl q _ HL.out HD.out (HX.out.below bw2) (HZ.out.below bw2)).mono ?_
            rintro e w3 ⟨⟨r, rfl, hans⟩, hb3⟩
            have bw3 := after bw2 hb3
            clear bw2 hb3
            rcases hans with ⟨k, rfl, h60, hfl⟩ | ⟨rfl, hno⟩
            · have HG : Hid (BerthG p n S x cl q) := ⟨⟨HD.out, h60, HH.out, H1.out⟩, H2.out, H3.out⟩
              have HFL : Hid (FirstOf p.n (BerthP p n S cl q) k) := hfl
              have hn60 : n ≤ 60 := HD.out.2.1
              have hkm : k < m := by have := hfl.1; rw [HL.out] at this; exact this
              have d0 : decide ((k : Int) < 0) = false := by simp
              clear h60 hfl
              have hs3 := bw3.size
              have ho1 : (w3.alloc (.cells #[] 174)).ownsRow w.heap.size 174 4 (.slice (some ⟨w3.heap.size, 0, none⟩) 0 0) 0 [] := ⟨rfl, .inr ⟨w3.heap.size, 0, #[], rfl, hs3, heap_alloc_new w3 _, Nat.le_refl _, Nat.zero_le _, rfl, rfl⟩⟩
              have HC1 : Hid (∀ ad, bo = some ad → ∀ j u, (roomList S n)[j]? = some u → (w3.alloc (.cells #[] 174)).cell? (ad.add j) = some u) := rooms_cells (HZ.out.below (push bw3 _))
              have bw4 := push bw3 (.cells #[] 174)
              go_upto_region 7 with (first | (at_builtin; refine wpList_append_any _ (by rfl) (.tmp 46) (.tmp 47) 78 (by rfl) w.heap.size 174 j0 (.agg #[.int .i64 0, .int .i64 0, .int .i64 0, .bool false]) 4 32 Try.underlying78 ji jz0 jz1 jz2 rfl (by decide) _ 0 [] (by rfl) ho1 bo n c (roomList S n) (by rfl) HNI.out (roomList_length _ _) HC1.out (roomList_one _ _) (by unfold maxLen; omega) (by omega) (by simp; omega) ?_; intro v4 w4 ho4 hg4))
              have bw5 := bw4.grown hg4 (by simp; omega) (fun j hj => (ho1.lt j hj).1)
              rw [Nat.zero_add, List.nil_append] at ho4
              have hs5 := bw5.size
              clear ho1 HC1 bw4 hg4 bw3
              have HC2 : Hid (∀ ad, (some ⟨w4.heap.size, 0, none⟩ : Option Addr) = some ad → ∀ j u, [Value.int .i64 x, .int .i64 (k : Int), .int .i64 q, .bool false][j]? = some u → (w4.alloc (.cells #[.int .i64 x, .int .i64 (k : Int), .int .i64 q, .bool false] 174)).cell? (ad.add j) = some u) := by
                intro ad e
                cases e
                exact World.news_of_block (heap_alloc_new w4 _)
              go_wp2_with (first | (at_builtin; refine wpList_append_any _ (by rfl) (.tmp 49) (.tmp 54) 78 (by rfl) w.heap.size 174 j0 (.agg #[.int .i64 0, .int .i64 0, .int .i64 0, .bool false]) 4 32 Try.underlying78 ji jz0 jz1 jz2 rfl (by decide) _ n (roomList S n) (by rfl) (ho4.alloc _) (some ⟨w4.heap.size, 0, none⟩) 1 1 [.int .i64 x, .int .i64 (k : Int), .int .i64 q, .bool false] (by rfl) (fun h => (by cases h)) (by rfl) HC2.out (by intro u hu; simp at hu; rcases hu with rfl | rfl | rfl | rfl <;> rfl) (by unfold maxLen; omega) (by omega) (by simp; omega) ?_; intro v6 w6 ho6 hg6))
              have bw6 := (push bw5 _).grown hg6 (by simp; omega) (fun j hj => (ho4.lt j hj).1)
              exact bodyPost_ret (v := .tuple #[v6, .int .i64 (k : Int), .bool true]) (by simp [results, Try.results42, go_sem]) rfl ⟨berthRes_yes HG.out HFL.out (by
                rw [roomList_cat, roomList_succ, show roomList (fun _ => (⟨x, (k : Int), q, false⟩ : Room)) 0 = [] from rfl, List.nil_append]
                exact ho6), bw6⟩
            · have HNO : Hid (n = 60 ∨ ∀ k, ¬ FirstOf p.n (BerthP p n S cl q) k) := hno
              clear hno
              go_wp2
              exact bodyPost_ret (v := .tuple #[.slice none 0 0, .int .i64 0, .bool false]) (by simp [results, Try.results42, go_sem]) rfl ⟨berthRes_no (fun k h => by
                rcases HNO.out with h0 | h0
                · exact h.1.1.2.1 h0
                · exact h0 k h.2), bw3⟩
          · have e3 : decide (In q 1 4) = false := decide_eq_false g3
            have H3 : Hid (¬ In q 1 4) := g3
            clear g3
            go_wp2_with (first | (go_at_call 105; refine (l4By_is _ _).mono ?_; rintro e w' ⟨rfl, hw'⟩; have hw' := hw'.symm; subst hw') | (go_at_call 90; refine (l1In_is _ _ _ _).mono ?_; rintro e w' ⟨rfl, hw'⟩; have hw' := hw'.symm; subst hw'))
            exact bodyPost_ret (v := .tuple #[.slice none 0 0, .int .i64 0, .bool false]) (by simp [results, Try.results42, go_sem]) rfl ⟨berthRes_no (fun k h => H3.out h.1.2.2), bw2⟩
        · have e2 : decide (In cl 1 3) = false := decide_eq_false g2
          have H2 : Hid (¬ In cl 1 3) := g2
          clear g2
          go_wp2_with (first | (go_at_call 105; refine (l4By_is _ _).mono ?_; rintro e w' ⟨rfl, hw'⟩; have hw' := hw'.symm; subst hw') | (go_at_call 90; refine (l1In_is _ _ _ _).mono ?_; rintro e w' ⟨rfl, hw'⟩; have hw' := hw'.symm; subst hw'))
          exact bodyPost_ret (v := .tuple #[.slice none 0 0, .int .i64 0, .bool false]) (by simp [results, Try.results42, go_sem]) rfl ⟨berthRes_no (fun k h => H2.out h.1.2.1), bw2⟩
    · have e1 : decide (In x 1 9999) = false := decide_eq_false g1
      have H1 : Hid (¬ In x 1 9999) := g1
      clear g1
      go_wp2_with (first | (go_at_call 105; refine (l4By_is _ _).mono ?_; rintro e w' ⟨rfl, hw'⟩; have hw' := hw'.symm; subst hw') | (go_at_call 90; refine (l1In_is _ _ _ _).mono ?_; rintro e w' ⟨rfl, hw'⟩; have hw' := hw'.symm; subst hw'))
      exact bodyPost_ret (v := .tuple #[.slice none 0 0, .int .i64 0, .bool false]) (by simp [results, Try.results42, go_sem]) rfl ⟨berthRes_no (fun k h => H1.out h.1.1.2.2.2), hb1⟩

end Go.Proofs.Ytaalhmaacaahhaa
