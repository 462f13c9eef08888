/-
  OWN TEXT: ImplCab, ImplS2, ImplS3.
-/
import Derived.Test.YtcioofnmhfehaaaGreatB13
namespace Go.Proofs.YtcioofnmhfehaaaGreat
open Go.RowKit

set_option maxHeartbeats 800000 in
set_option maxRecDepth 100000 in
theorem goodCabins_any (ao : Option Addr) (n c : Nat) (p : Pairs) (w : World) (hl : p.n = n) (hn : n ≤ 1048576) (hz : PairsAt w ao p) :
    Calls Tryz.prog 102 #[.slice ao n c] w fun e w' => SaysIf (GoodPairs p 6 1 3 1 4) e ∧ Below w.heap.size w w' := by
  have HL : Hid (p.n = n) := hl
  clear hl
  by_cases h0 : n ≤ 6
  · have d0 : decide (6 < n) = false := by simp; omega
    go_enter Tryz.func102, Tryz.ntmps102
    go_wp2
    go_loopw [4, 10] (fun _ i wr => ∃ k : Nat, k ≤ n ∧ i = .int .i64 k ∧ (∀ j, j < k → In (p.A j) 1 3 ∧ In (p.B j) 1 4) ∧ Below w.heap.size w wr) (fun _ i _ => n - (intOf i).toNat)
    case atStart => exact ⟨0, Nat.zero_le _, rfl, fun j hj => by omega, Below.refl _ _⟩
    case round =>
      obtain ⟨k, hk, rfl, hall, hbel⟩ := hrel
      have HA : Hid (∀ j, j < k → In (p.A j) 1 3 ∧ In (p.B j) 1 4) := hall
      clear hall d0
      by_cases hlt : k < n
      · obtain ⟨b, off, rfl, h1, h2⟩ := hz k (by rw [HL.out]; omega)
        have hb := World.block_lt_of_cell? w _ h1
        have c1 := (hbel.cell (p := ⟨b, off + k * 2, none⟩) hb).trans h1
        have c2 := (hbel.cell (p := ⟨b, off + k * 2 + 1, none⟩) hb).trans h2
        clear h1 h2
        by_cases g1 : In (p.A k) 1 3
        · have e1 : decide (In (p.A k) 1 3) = true := decide_eq_true g1
          by_cases g2 : In (p.B k) 1 4
          · have e2 : decide (In (p.B k) 1 4) = true := decide_eq_true g2
            have HK : Hid (In (p.A k) 1 3 ∧ In (p.B k) 1 4) := ⟨g1, g2⟩
            clear g1 g2
            go_wp2_with (first | (go_at_call 115; refine (class_is _ _).mono ?_; rintro e w' ⟨rfl, hw'⟩; have hw' := hw'.symm; subst hw') | (go_at_call 116; refine (berths_is _ _).mono ?_; rintro e w' ⟨rfl, hw'⟩; have hw' := hw'.symm; subst hw'))
            go_roundw
            case rel => exact ⟨k + 1, by omega, by go_num, fun j hj => by
              by_cases e : j = k
              · subst e; exact HK.out
              · exact HA.out j (by omega), push hbel _⟩
            case measure => simp [intOf]; omega
          · have e2 : decide (In (p.B k) 1 4) = false := decide_eq_false g2
            have HK : Hid (¬ In (p.B k) 1 4) := g2
            clear g1 g2
            go_wp2_with (first | (go_at_call 115; refine (class_is _ _).mono ?_; rintro e w' ⟨rfl, hw'⟩; have hw' := hw'.symm; subst hw') | (go_at_call 116; refine (berths_is _ _).mono ?_; rintro e w' ⟨rfl, hw'⟩; have hw' := hw'.symm; subst hw'))
            go_ret
            exact ⟨says_no (fun h => HK.out (h.2 k (by rw [HL.out]; exact hlt)).2), push hbel _⟩
        · have e1 : decide (In (p.A k) 1 3) = false := decide_eq_false g1
          have HK : Hid (¬ In (p.A k) 1 3) := g1
          clear g1
          go_wp2_with (first | (go_at_call 115; refine (class_is _ _).mono ?_; rintro e w' ⟨rfl, hw'⟩; have hw' := hw'.symm; subst hw') | (go_at_call 116; refine (berths_is _ _).mono ?_; rintro e w' ⟨rfl, hw'⟩; have hw' := hw'.symm; subst hw'))
          go_ret
          exact ⟨says_no (fun h => HK.out (h.2 k (by rw [HL.out]; exact hlt)).1), push hbel _⟩
      · obtain rfl : k = n := by omega
        go_wp2
        go_ret
        exact ⟨says_yes ⟨by rw [HL.out]; exact h0, fun j hj => HA.out j (by rw [HL.out] at hj; exact hj)⟩, hbel⟩
  · have d0 : decide (6 < n) = true := by simp; omega
    go_enter Tryz.func102, Tryz.ntmps102
    go_wp2
    go_ret
    exact ⟨says_no (fun h => by have := h.1; rw [HL.out] at this; exact h0 this), Below.refl _ _⟩

end Go.Proofs.YtcioofnmhfehaaaGreat

namespace Go.Proofs.YtcioofnmhfehaaaGreat
open Go.RowKit

end Go.Proofs.YtcioofnmhfehaaaGreat

namespace Go.Proofs.YtcioofnmhfehaaaGreat
open Go.RowKit

set_option maxHeartbeats 1600000 in
set_option maxRecDepth 100000 in
theorem implSailing_any (x d a mo : Int) (fr tt : ByteArray) (lo co : Option Addr) (n m c1 c2 : Nat) (l1 l2 : Pairs) (w : World) (e1 : l1.n = n) (e2 : l2.n = m) (hfr : fr.size ≤ 1000000000000000) (hto : tt.size ≤ 1000000000000000) (hn : n ≤ 1048576) (hm : m ≤ 1048576) (hx : PairsAt w lo l1) (hy : PairsAt w co l2) :
    Calls Tryz.prog 70 #[.agg #[.int .i64 x, .string fr, .string tt, .int .i64 d, .int .i64 a, .slice lo n c1, .slice co m c2, .int .i64 mo]] w fun e w' => SaysIf (GoodSail ⟨x, fr, tt, d, a, l1, l2, mo⟩) e ∧ Below w.heap.size w w' := by
  have hb0 : Below w.heap.size w (w.alloc (.cells #[.int .i64 x, .string fr, .string tt, .int .i64 d, .int .i64 a, .slice lo n c1, .slice co m c2, .int .i64 mo] 50)) := push (Below.refl _ _) _
  have A0 := heap_alloc_new w (.cells #[.int .i64 x, .string fr, .string tt, .int .i64 d, .int .i64 a, .slice lo n c1, .slice co m c2, .int .i64 mo] 50)
  have E1 : Hid (l1.n = n) := e1
  have E2 : Hid (l2.n = m) := e2
  clear e1 e2
  by_cases g1 : In x 1 99
  case neg =>
    have fg1 : decide (In x 1 99) = false := by exact decide_eq_false g1
    have HN : Hid (¬ GoodSail ⟨x, fr, tt, d, a, l1, l2, mo⟩) := fun h => g1 h.1
    clear g1
    go_enter Tryz.func70, Tryz.ntmps70
    go_wp2_with (first | (go_at_call 76; refine (sailingId_is _ _).mono ?_; rintro e w' ⟨rfl, hw'⟩; have hw' := hw'.symm; subst hw') | (go_at_call 100; refine (unlikeNames_is _ _ _ hfr hto).mono ?_; rintro e w' ⟨rfl, hw'⟩; have hw' := hw'.symm; subst hw') | (go_at_call 77; refine (within_is _ _ _ _).mono ?_; rintro e w' ⟨rfl, hw'⟩; have hw' := hw'.symm; subst hw'))
    go_ret
    exact ⟨says_no HN.out, hb0⟩
  have fg1 : decide (In x 1 99) = true := by exact decide_eq_true g1
  by_cases g2 : Unlike fr tt
  case neg =>
    have fg2 : decide (Unlike fr tt) = false := by exact decide_eq_false g2
    have HN : Hid (¬ GoodSail ⟨x, fr, tt, d, a, l1, l2, mo⟩) := fun h => g2 ⟨h.2.1, h.2.2.1, h.2.2.2.1⟩
    clear g1 g2
    go_enter Tryz.func70, Tryz.ntmps70
    go_wp2_with (first | (go_at_call 76; refine (sailingId_is _ _).mono ?_; rintro e w' ⟨rfl, hw'⟩; have hw' := hw'.symm; subst hw') | (go_at_call 100; refine (unlikeNames_is _ _ _ hfr hto).mono ?_; rintro e w' ⟨rfl, hw'⟩; have hw' := hw'.symm; subst hw') | (go_at_call 77; refine (within_is _ _ _ _).mono ?_; rintro e w' ⟨rfl, hw'⟩; have hw' := hw'.symm; subst hw'))
    go_ret
    exact ⟨says_no HN.out, hb0⟩
  have fg2 : decide (Unlike fr tt) = true := by exact decide_eq_true g2
  by_cases g3 : 0 ≤ d
  case neg =>
    have fg3 : decide (0 ≤ d) = false := by simpa using g3
    have HN : Hid (¬ GoodSail ⟨x, fr, tt, d, a, l1, l2, mo⟩) := fun h => g3 h.2.2.2.2.1
    clear g1 g2 g3
    go_enter Tryz.func70, Tryz.ntmps70
    go_wp2_with (first | (go_at_call 76; refine (sailingId_is _ _).mono ?_; rintro e w' ⟨rfl, hw'⟩; have hw' := hw'.symm; subst hw') | (go_at_call 100; refine (unlikeNames_is _ _ _ hfr hto).mono ?_; rintro e w' ⟨rfl, hw'⟩; have hw' := hw'.symm; subst hw') | (go_at_call 77; refine (within_is _ _ _ _).mono ?_; rintro e w' ⟨rfl, hw'⟩; have hw' := hw'.symm; subst hw'))
    go_ret
    exact ⟨says_no HN.out, hb0⟩
  have fg3 : decide (0 ≤ d) = true := by simpa using g3
  by_cases g4 : d < a
  case neg =>
    have fg4 : decide (d < a) = false := by simpa using g4
    have HN : Hid (¬ GoodSail ⟨x, fr, tt, d, a, l1, l2, mo⟩) := fun h => g4 h.2.2.2.2.2.1
    clear g1 g2 g3 g4
    go_enter Tryz.func70, Tryz.ntmps70
    go_wp2_with (first | (go_at_call 76; refine (sailingId_is _ _).mono ?_; rintro e w' ⟨rfl, hw'⟩; have hw' := hw'.symm; subst hw') | (go_at_call 100; refine (unlikeNames_is _ _ _ hfr hto).mono ?_; rintro e w' ⟨rfl, hw'⟩; have hw' := hw'.symm; subst hw') | (go_at_call 77; refine (within_is _ _ _ _).mono ?_; rintro e w' ⟨rfl, hw'⟩; have hw' := hw'.symm; subst hw'))
    go_ret
    exact ⟨says_no HN.out, hb0⟩
  have fg4 : decide (d < a) = true := by simpa using g4
  by_cases g5 : a ≤ 10000
  case neg =>
    have fg5 : decide (a ≤ 10000) = false := by simpa using g5
    have HN : Hid (¬ GoodSail ⟨x, fr, tt, d, a, l1, l2, mo⟩) := fun h => g5 h.2.2.2.2.2.2.1
    clear g1 g2 g3 g4 g5
    go_enter Tryz.func70, Tryz.ntmps70
    go_wp2_with (first | (go_at_call 76; refine (sailingId_is _ _).mono ?_; rintro e w' ⟨rfl, hw'⟩; have hw' := hw'.symm; subst hw') | (go_at_call 100; refine (unlikeNames_is _ _ _ hfr hto).mono ?_; rintro e w' ⟨rfl, hw'⟩; have hw' := hw'.symm; subst hw') | (go_at_call 77; refine (within_is _ _ _ _).mono ?_; rintro e w' ⟨rfl, hw'⟩; have hw' := hw'.symm; subst hw'))
    go_ret
    exact ⟨says_no HN.out, hb0⟩
  have fg5 : decide (a ≤ 10000) = true := by simpa using g5
  have HG : Hid (In x 1 99 ∧ Unlike fr tt ∧ 0 ≤ d ∧ d < a ∧ a ≤ 10000) := ⟨g1, g2, g3, g4, g5⟩
  clear g1 g2 g3 g4 g5
  go_enter Tryz.func70, Tryz.ntmps70
  go_wp2_with (first | (go_at_call 76; refine (sailingId_is _ _).mono ?_; rintro e w' ⟨rfl, hw'⟩; have hw' := hw'.symm; subst hw') | (go_at_call 100; refine (unlikeNames_is _ _ _ hfr hto).mono ?_; rintro e w' ⟨rfl, hw'⟩; have hw' := hw'.symm; subst hw') | (go_at_call 77; refine (within_is _ _ _ _).mono ?_; rintro e w' ⟨rfl, hw'⟩; have hw' := hw'.symm; subst hw'))
  refine (goodLanes_any lo n c1 l1 _ E1.out hn (hx.below hb0)).mono ?_
  rintro e w1 ⟨⟨b1, rfl, i1⟩, hb1⟩
  have A1 := blk_below A0 hb1
  have hb2 := after hb0 hb1
  have I1 : Hid (b1 = true ↔ GoodPairs l1 4 1 5000 100 500) := i1
  clear i1 A0 hb0 hb1
  cases b1 with
  | false =>
    go_wp2
    go_ret
    exact ⟨says_no (fun h => by have := I1.out.2 h.2.2.2.2.2.2.2.1; cases this), hb2⟩
  | true =>
    have q6 := blk_cell A1 6 _ rfl
    go_wp2_with fail
    refine (goodCabins_any co m c2 l2 _ E2.out hm (hy.below hb2)).mono ?_
    rintro e w2 ⟨⟨b2, rfl, i2⟩, hb3⟩
    have A2 := blk_below A1 hb3
    have hb4 := after hb2 hb3
    have I2 : Hid (b2 = true ↔ GoodPairs l2 6 1 3 1 4) := i2
    clear i2 A1 hb2 hb3 q6
    cases b2 with
    | false =>
      go_wp2
      go_ret
      exact ⟨says_no (fun h => by have := I2.out.2 h.2.2.2.2.2.2.2.2.1; cases this), hb4⟩
    | true =>
      have q7 := blk_cell A2 7 _ rfl
      by_cases g8 : In mo 0 500
      · have f8 : decide (In mo 0 500) = true := decide_eq_true g8
        have H8 : Hid (In mo 0 500) := g8
        clear g8
        go_wp2_with (first | (go_at_call 76; refine (sailingId_is _ _).mono ?_; rintro e w' ⟨rfl, hw'⟩; have hw' := hw'.symm; subst hw') | (go_at_call 100; refine (unlikeNames_is _ _ _ hfr hto).mono ?_; rintro e w' ⟨rfl, hw'⟩; have hw' := hw'.symm; subst hw') | (go_at_call 77; refine (within_is _ _ _ _).mono ?_; rintro e w' ⟨rfl, hw'⟩; have hw' := hw'.symm; subst hw'))
        go_ret
        exact ⟨says_yes ⟨HG.out.1, HG.out.2.1.1, HG.out.2.1.2.1, HG.out.2.1.2.2, HG.out.2.2.1, HG.out.2.2.2.1, HG.out.2.2.2.2, I1.out.1 (by simp), I2.out.1 (by simp), H8.out⟩, hb4⟩
      · have f8 : decide (In mo 0 500) = false := decide_eq_false g8
        have H8 : Hid (¬ In mo 0 500) := g8
        clear g8
        go_wp2_with (first | (go_at_call 76; refine (sailingId_is _ _).mono ?_; rintro e w' ⟨rfl, hw'⟩; have hw' := hw'.symm; subst hw') | (go_at_call 100; refine (unlikeNames_is _ _ _ hfr hto).mono ?_; rintro e w' ⟨rfl, hw'⟩; have hw' := hw'.symm; subst hw') | (go_at_call 77; refine (within_is _ _ _ _).mono ?_; rintro e w' ⟨rfl, hw'⟩; have hw' := hw'.symm; subst hw'))
        go_ret
        exact ⟨says_no (fun h => H8.out h.2.2.2.2.2.2.2.2.2), hb4⟩

end Go.Proofs.YtcioofnmhfehaaaGreat
