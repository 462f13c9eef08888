/-
  OWN TEXT: ImplCab, ImplS2, ImplS3, ImplT.
-/
import Derived.Test.YtlelckbeoclhbaaGreatB18
import Derived.Test.YtlelckbeoclhbaaGreatB09
import Derived.Test.YtlelckbeoclhbaaGreatB07
set_option maxHeartbeats 12800000
set_option maxRecDepth 100000
namespace Go.Proofs.YtlelckbeoclhbaaGreat
open Go.RowKit
theorem goodCabins_any (ao : Option Addr) (n c : Nat) (p : Pairs) (w : World) (hl : p.n = n) (hn : n ≤ 1048576) (hz : PairsAt w ao p) :
    Calls Tryz.prog 142 #[.slice ao n c] w fun e w' => SaysIf (GoodPairs p 6 1 3 1 4) e ∧ Below w.heap.size w w' := by
  have HL : Hid (p.n = n) := hl
  clear hl
  by_cases h0 : n ≤ 6
  · have d0 : decide (6 < n) = false := by simp; omega
    go_enter Tryz.func142, Tryz.ntmps142
    go_wp2
    go_loopw [4, 10] (fun _ i wr => ∃ k : Nat, k ≤ n ∧ i = .int .i64 k ∧ (∀ j, j < k → In (p.A j) 1 3 ∧ In (p.B j) 1 4) ∧ Below w.heap.size w wr) (fun _ i _ => n - (intOf i).toNat)
    case atStart => exact ⟨0, Nat.zero_le _, rfl, fun j hj => by omega, Below.refl _ _⟩
    case round =>
      obtain ⟨k, hk, rfl, hall, hbel⟩ := hrel
      have HA : Hid (∀ j, j < k → In (p.A j) 1 3 ∧ In (p.B j) 1 4) := hall
      clear hall d0
      by_cases hlt : k < n
      · obtain ⟨b, off, rfl, h1, h2⟩ := hz k (by rw [HL.out]; omega)
        have hb := World.block_lt_of_cell? w _ h1
        have c1 := (hbel.cell (p := ⟨b, off + k * 2, none⟩) hb).trans h1
        have c2 := (hbel.cell (p := ⟨b, off + k * 2 + 1, none⟩) hb).trans h2
        clear h1 h2
        by_cases g1 : In (p.A k) 1 3
        · have e1 : decide (In (p.A k) 1 3) = true := decide_eq_true g1
          by_cases g2 : In (p.B k) 1 4
          · have e2 : decide (In (p.B k) 1 4) = true := decide_eq_true g2
            have HK : Hid (In (p.A k) 1 3 ∧ In (p.B k) 1 4) := ⟨g1, g2⟩
            clear g1 g2
            go_wp2_with (first | (go_at_call 165; refine (class_is _ _).mono ?_; rintro e w' ⟨rfl, hw'⟩; have hw' := hw'.symm; subst hw') | (go_at_call 166; refine (berths_is _ _).mono ?_; rintro e w' ⟨rfl, hw'⟩; have hw' := hw'.symm; subst hw'))
            go_roundw
            case rel => exact ⟨k + 1, by omega, by go_num, fun j hj => by
              by_cases e : j = k
              · subst e; exact HK.out
              · exact HA.out j (by omega), push hbel _⟩
            case measure => simp [intOf]; omega
          · have e2 : decide (In (p.B k) 1 4) = false := decide_eq_false g2
            have HK : Hid (¬ In (p.B k) 1 4) := g2
            clear g1 g2
            go_wp2_with (first | (go_at_call 165; refine (class_is _ _).mono ?_; rintro e w' ⟨rfl, hw'⟩; have hw' := hw'.symm; subst hw') | (go_at_call 166; refine (berths_is _ _).mono ?_; rintro e w' ⟨rfl, hw'⟩; have hw' := hw'.symm; subst hw'))
            go_ret
            exact ⟨says_no (fun h => HK.out (h.2 k (by rw [HL.out]; exact hlt)).2), push hbel _⟩
        · have e1 : decide (In (p.A k) 1 3) = false := decide_eq_false g1
          have HK : Hid (¬ In (p.A k) 1 3) := g1
          clear g1
          go_wp2_with (first | (go_at_call 165; refine (class_is _ _).mono ?_; rintro e w' ⟨rfl, hw'⟩; have hw' := hw'.symm; subst hw') | (go_at_call 166; refine (berths_is _ _).mono ?_; rintro e w' ⟨rfl, hw'⟩; have hw' := hw'.symm; subst hw'))
          go_ret
          exact ⟨says_no (fun h => HK.out (h.2 k (by rw [HL.out]; exact hlt)).1), push hbel _⟩
      · obtain rfl : k = n := by omega
        go_wp2
        go_ret
        exact ⟨says_yes ⟨by rw [HL.out]; exact h0, fun j hj => HA.out j (by rw [HL.out] at hj; exact hj)⟩, hbel⟩
  · have d0 : decide (6 < n) = true := by simp; omega
    go_enter Tryz.func142, Tryz.ntmps142
    go_wp2
    go_ret
    exact ⟨says_no (fun h => by have := h.1; rw [HL.out] at this; exact h0 this), Below.refl _ _⟩
end Go.Proofs.YtlelckbeoclhbaaGreat

namespace Go.Proofs.YtlelckbeoclhbaaGreat
open Go.RowKit
end Go.Proofs.YtlelckbeoclhbaaGreat

namespace Go.Proofs.YtlelckbeoclhbaaGreat
open Go.RowKit
theorem implSailing_any (x d a mo : Int) (fr tt : ByteArray) (lo co : Option Addr) (n m c1 c2 : Nat) (l1 l2 : Pairs) (w : World) (e1 : l1.n = n) (e2 : l2.n = m) (hfr : fr.size ≤ 1000000000000000) (hto : tt.size ≤ 1000000000000000) (hn : n ≤ 1048576) (hm : m ≤ 1048576) (hx : PairsAt w lo l1) (hy : PairsAt w co l2) :
    Calls Tryz.prog 106 #[.agg #[.int .i64 x, .string fr, .string tt, .int .i64 d, .int .i64 a, .slice lo n c1, .slice co m c2, .int .i64 mo]] w fun e w' => SaysIf (GoodSail ⟨x, fr, tt, d, a, l1, l2, mo⟩) e ∧ Below w.heap.size w w' := by
  have hb0 : Below w.heap.size w (w.alloc (.cells #[.int .i64 x, .string fr, .string tt, .int .i64 d, .int .i64 a, .slice lo n c1, .slice co m c2, .int .i64 mo] 54)) := push (Below.refl _ _) _
  have A0 := heap_alloc_new w (.cells #[.int .i64 x, .string fr, .string tt, .int .i64 d, .int .i64 a, .slice lo n c1, .slice co m c2, .int .i64 mo] 54)
  have E1 : Hid (l1.n = n) := e1
  have E2 : Hid (l2.n = m) := e2
  clear e1 e2
  by_cases g1 : In x 1 99
  case neg =>
    have fg1 : decide (In x 1 99) = false := by exact decide_eq_false g1
    have HN : Hid (¬ GoodSail ⟨x, fr, tt, d, a, l1, l2, mo⟩) := fun h => g1 h.1
    clear g1
    go_enter Tryz.func106, Tryz.ntmps106
    go_wp2_with (first | (go_at_call 139; refine (sailingId_is _ _).mono ?_; rintro e w' ⟨rfl, hw'⟩; have hw' := hw'.symm; subst hw') | (go_at_call 140; refine (unlikeNames_is _ _ _ hfr hto).mono ?_; rintro e w' ⟨rfl, hw'⟩; have hw' := hw'.symm; subst hw') | (go_at_call 143; refine (within_is _ _ _ _).mono ?_; rintro e w' ⟨rfl, hw'⟩; have hw' := hw'.symm; subst hw'))
    go_ret
    exact ⟨says_no HN.out, hb0⟩
  have fg1 : decide (In x 1 99) = true := by exact decide_eq_true g1
  by_cases g2 : Unlike fr tt
  case neg =>
    have fg2 : decide (Unlike fr tt) = false := by exact decide_eq_false g2
    have HN : Hid (¬ GoodSail ⟨x, fr, tt, d, a, l1, l2, mo⟩) := fun h => g2 ⟨h.2.1, h.2.2.1, h.2.2.2.1⟩
    clear g1 g2
    go_enter Tryz.func106, Tryz.ntmps106
    go_wp2_with (first | (go_at_call 139; refine (sailingId_is _ _).mono ?_; rintro e w' ⟨rfl, hw'⟩; have hw' := hw'.symm; subst hw') | (go_at_call 140; refine (unlikeNames_is _ _ _ hfr hto).mono ?_; rintro e w' ⟨rfl, hw'⟩; have hw' := hw'.symm; subst hw') | (go_at_call 143; refine (within_is _ _ _ _).mono ?_; rintro e w' ⟨rfl, hw'⟩; have hw' := hw'.symm; subst hw'))
    go_ret
    exact ⟨says_no HN.out, hb0⟩
  have fg2 : decide (Unlike fr tt) = true := by exact decide_eq_true g2
  by_cases g3 : 0 ≤ d
  case neg =>
    have fg3 : decide (0 ≤ d) = false := by simpa using g3
    have HN : Hid (¬ GoodSail ⟨x, fr, tt, d, a, l1, l2, mo⟩) := fun h => g3 h.2.2.2.2.1
    clear g1 g2 g3
    go_enter Tryz.func106, Tryz.ntmps106
    go_wp2_with (first | (go_at_call 139; refine (sailingId_is _ _).mono ?_; rintro e w' ⟨rfl, hw'⟩; have hw' := hw'.symm; subst hw') | (go_at_call 140; refine (unlikeNames_is _ _ _ hfr hto).mono ?_; rintro e w' ⟨rfl, hw'⟩; have hw' := hw'.symm; subst hw') | (go_at_call 143; refine (within_is _ _ _ _).mono ?_; rintro e w' ⟨rfl, hw'⟩; have hw' := hw'.symm; subst hw'))
    go_ret
    exact ⟨says_no HN.out, hb0⟩
  have fg3 : decide (0 ≤ d) = true := by simpa using g3
  by_cases g4 : d < a
  case neg =>
    have fg4 : decide (d < a) = false := by simpa using g4
    have HN : Hid (¬ GoodSail ⟨x, fr, tt, d, a, l1, l2, mo⟩) := fun h => g4 h.2.2.2.2.2.1
    clear g1 g2 g3 g4
    go_enter Tryz.func106, Tryz.ntmps106
    go_wp2_with (first | (go_at_call 139; refine (sailingId_is _ _).mono ?_; rintro e w' ⟨rfl, hw'⟩; have hw' := hw'.symm; subst hw') | (go_at_call 140; refine (unlikeNames_is _ _ _ hfr hto).mono ?_; rintro e w' ⟨rfl, hw'⟩; have hw' := hw'.symm; subst hw') | (go_at_call 143; refine (within_is _ _ _ _).mono ?_; rintro e w' ⟨rfl, hw'⟩; have hw' := hw'.symm; subst hw'))
    go_ret
    exact ⟨says_no HN.out, hb0⟩
  have fg4 : decide (d < a) = true := by simpa using g4
  by_cases g5 : a ≤ 10000
  case neg =>
    have fg5 : decide (a ≤ 10000) = false := by simpa using g5
    have HN : Hid (¬ GoodSail ⟨x, fr, tt, d, a, l1, l2, mo⟩) := fun h => g5 h.2.2.2.2.2.2.1
    clear g1 g2 g3 g4 g5
    go_enter Tryz.func106, Tryz.ntmps106
    go_wp2_with (first | (go_at_call 139; refine (sailingId_is _ _).mono ?_; rintro e w' ⟨rfl, hw'⟩; have hw' := hw'.symm; subst hw') | (go_at_call 140; refine (unlikeNames_is _ _ _ hfr hto).mono ?_; rintro e w' ⟨rfl, hw'⟩; have hw' := hw'.symm; subst hw') | (go_at_call 143; refine (within_is _ _ _ _).mono ?_; rintro e w' ⟨rfl, hw'⟩; have hw' := hw'.symm; subst hw'))
    go_ret
    exact ⟨says_no HN.out, hb0⟩
  have fg5 : decide (a ≤ 10000) = true := by simpa using g5
  have HG : Hid (In x 1 99 ∧ Unlike fr tt ∧ 0 ≤ d ∧ d < a ∧ a ≤ 10000) := ⟨g1, g2, g3, g4, g5⟩
  clear g1 g2 g3 g4 g5
  go_enter Tryz.func106, Tryz.ntmps106
  go_wp2_with (first | (go_at_call 139; refine (sailingId_is _ _).mono ?_; rintro e w' ⟨rfl, hw'⟩; have hw' := hw'.symm; subst hw') | (go_at_call 140; refine (unlikeNames_is _ _ _ hfr hto).mono ?_; rintro e w' ⟨rfl, hw'⟩; have hw' := hw'.symm; subst hw') | (go_at_call 143; refine (within_is _ _ _ _).mono ?_; rintro e w' ⟨rfl, hw'⟩; have hw' := hw'.symm; subst hw'))
  refine (goodLanes_any lo n c1 l1 _ E1.out hn (hx.below hb0)).mono ?_
  rintro e w1 ⟨⟨b1, rfl, i1⟩, hb1⟩
  have A1 := blk_below A0 hb1
  have hb2 := after hb0 hb1
  have I1 : Hid (b1 = true ↔ GoodPairs l1 4 1 5000 100 500) := i1
  clear i1 A0 hb0 hb1
  cases b1 with
  | false =>
    go_wp2
    go_ret
    exact ⟨says_no (fun h => by have := I1.out.2 h.2.2.2.2.2.2.2.1; cases this), hb2⟩
  | true =>
    have q6 := blk_cell A1 6 _ rfl
    go_wp2_with fail
    refine (goodCabins_any co m c2 l2 _ E2.out hm (hy.below hb2)).mono ?_
    rintro e w2 ⟨⟨b2, rfl, i2⟩, hb3⟩
    have A2 := blk_below A1 hb3
    have hb4 := after hb2 hb3
    have I2 : Hid (b2 = true ↔ GoodPairs l2 6 1 3 1 4) := i2
    clear i2 A1 hb2 hb3 q6
    cases b2 with
    | false =>
      go_wp2
      go_ret
      exact ⟨says_no (fun h => by have := I2.out.2 h.2.2.2.2.2.2.2.2.1; cases this), hb4⟩
    | true =>
      have q7 := blk_cell A2 7 _ rfl
      by_cases g8 : In mo 0 500
      · have f8 : decide (In mo 0 500) = true := decide_eq_true g8
        have H8 : Hid (In mo 0 500) := g8
        clear g8
        go_wp2_with (first | (go_at_call 139; refine (sailingId_is _ _).mono ?_; rintro e w' ⟨rfl, hw'⟩; have hw' := hw'.symm; subst hw') | (go_at_call 140; refine (unlikeNames_is _ _ _ hfr hto).mono ?_; rintro e w' ⟨rfl, hw'⟩; have hw' := hw'.symm; subst hw') | (go_at_call 143; refine (within_is _ _ _ _).mono ?_; rintro e w' ⟨rfl, hw'⟩; have hw' := hw'.symm; subst hw'))
        go_ret
        exact ⟨says_yes ⟨HG.out.1, HG.out.2.1.1, HG.out.2.1.2.1, HG.out.2.1.2.2, HG.out.2.2.1, HG.out.2.2.2.1, HG.out.2.2.2.2, I1.out.1 (by simp), I2.out.1 (by simp), H8.out⟩, hb4⟩
      · have f8 : decide (In mo 0 500) = false := decide_eq_false g8
        have H8 : Hid (¬ In mo 0 500) := g8
        clear g8
        go_wp2_with (first | (go_at_call 139; refine (sailingId_is _ _).mono ?_; rintro e w' ⟨rfl, hw'⟩; have hw' := hw'.symm; subst hw') | (go_at_call 140; refine (unlikeNames_is _ _ _ hfr hto).mono ?_; rintro e w' ⟨rfl, hw'⟩; have hw' := hw'.symm; subst hw') | (go_at_call 143; refine (within_is _ _ _ _).mono ?_; rintro e w' ⟨rfl, hw'⟩; have hw' := hw'.symm; subst hw'))
        go_ret
        exact ⟨says_no (fun h => H8.out h.2.2.2.2.2.2.2.2.2), hb4⟩
end Go.Proofs.YtlelckbeoclhbaaGreat

namespace Go.Proofs.YtlelckbeoclhbaaGreat
open Go.RowKit
theorem implTab_any (ao : Option Addr) (N c : Nat) (S : Nat → Sail) (w : World) (hN : N ≤ 1048576) (hs : ShortAll N S 1048576) (hx : SailsAt w ao N S) :
    Calls Tryz.prog 61 #[.slice ao N c] w fun e w' => SaysIf (GoodTab N S) e ∧ Below w.heap.size w w' := by
  have HS : Hid (ShortAll N S 1048576) := hs
  clear hs
  by_cases h6 : N ≤ 6
  · have d6 : decide (6 < N) = false := by simp; omega
    go_enter Tryz.func61, Tryz.ntmps61
    go_wp2
    go_loopw [3, 4, 10] (fun _ _ i wr => ∃ k : Nat, k ≤ N ∧ i = .int .i64 k ∧ (∀ j, j < k → GoodSail (S j) ∧ (0 < j → (S (j - 1)).id < (S j).id)) ∧ Below w.heap.size w wr) (fun _ _ i _ => N - (intOf i).toNat)
    case atStart => exact ⟨0, Nat.zero_le _, rfl, fun j hj => by omega, Below.refl _ _⟩
    case round =>
      obtain ⟨k, hk, rfl, hall, hbel⟩ := hrel
      have HA : Hid (∀ j, j < k → GoodSail (S j) ∧ (0 < j → (S (j - 1)).id < (S j).id)) := hall
      clear hall d6
      by_cases hlt : k < N
      · have HP : Hid (0 < k → ∀ b off, ao = some ⟨b, off, none⟩ → w.cell? ⟨b, off + (k - 1) * 8, none⟩ = some (.int .i64 (S (k - 1)).id)) := by
          intro h b off e
          obtain ⟨b', off', _, _, _, _, e', g, _⟩ := hx (k - 1) (by omega)
          rw [e] at e'
          simp only [Option.some.injEq, Addr.mk.injEq, and_true] at e'
          obtain ⟨rfl, rfl⟩ := e'
          exact g
        obtain ⟨b, off, la, lc, ca, cc, rfl, h0, h1, h2, h3, h4, h5, h6', h7, h8, h9, _, _⟩ := hx k hlt
        have HP2 : Hid (0 < k → w.cell? ⟨b, off + (k - 1) * 8, none⟩ = some (.int .i64 (S (k - 1)).id)) := fun h => HP.out h b off rfl
        clear HP
        have hb := World.block_lt_of_cell? w _ h1
        have c0 := (hbel.cell (p := ⟨b, off + k * 8, none⟩) hb).trans h0
        have c1 := (hbel.cell (p := ⟨b, off + k * 8 + 1, none⟩) hb).trans h1
        have c2 := (hbel.cell (p := ⟨b, off + k * 8 + 2, none⟩) hb).trans h2
        have c3 := (hbel.cell (p := ⟨b, off + k * 8 + 3, none⟩) hb).trans h3
        have c4 := (hbel.cell (p := ⟨b, off + k * 8 + 4, none⟩) hb).trans h4
        have c5 := (hbel.cell (p := ⟨b, off + k * 8 + 5, none⟩) hb).trans h5
        have c6 := (hbel.cell (p := ⟨b, off + k * 8 + 6, none⟩) hb).trans h6'
        have c7 := (hbel.cell (p := ⟨b, off + k * 8 + 7, none⟩) hb).trans h7
        obtain ⟨s1, s2, s3, s4⟩ := HS.out k hlt
        have s1' : (S k).fr.size ≤ 1000000000000000 := by omega
        have s2' : (S k).dst.size ≤ 1000000000000000 := by omega
        clear s1 s2
        have hbx := push hbel (.cells #[.int .i64 (S k).id, .string (S k).fr, .string (S k).dst, .int .i64 (S k).dep, .int .i64 (S k).arr, .slice la (S k).la.n lc, .slice ca (S k).ca.n cc, .int .i64 (S k).most] 54)
        have hbox := heap_alloc_new wr (.cells #[.int .i64 (S k).id, .string (S k).fr, .string (S k).dst, .int .i64 (S k).dep, .int .i64 (S k).arr, .slice la (S k).la.n lc, .slice ca (S k).ca.n cc, .int .i64 (S k).most] 54)
        clear h0 h1 h2 h3 h4 h5 h6' h7
        go_upto_region 6 with fail
        generalize hW : wr.alloc (.cells #[.int .i64 (S k).id, .string (S k).fr, .string (S k).dst, .int .i64 (S k).dep, .int .i64 (S k).arr, .slice la (S k).la.n lc, .slice ca (S k).ca.n cc, .int .i64 (S k).most] 54) = W at hbx hbox ⊢
        clear hW
        have hrW : wr.heap.size < W.heap.size := blk_lt hbox
        have z0 : ∀ g : Grown W, g.val.cell? ⟨wr.heap.size, 0, none⟩ = _ := fun g => (g.bel.cell hrW).trans (blk_cell hbox 0 _ rfl)
        have z1 : ∀ g : Grown W, g.val.cell? ⟨wr.heap.size, 1, none⟩ = _ := fun g => (g.bel.cell hrW).trans (blk_cell hbox 1 _ rfl)
        have z2 : ∀ g : Grown W, g.val.cell? ⟨wr.heap.size, 2, none⟩ = _ := fun g => (g.bel.cell hrW).trans (blk_cell hbox 2 _ rfl)
        have z3 : ∀ g : Grown W, g.val.cell? ⟨wr.heap.size, 3, none⟩ = _ := fun g => (g.bel.cell hrW).trans (blk_cell hbox 3 _ rfl)
        have z4 : ∀ g : Grown W, g.val.cell? ⟨wr.heap.size, 4, none⟩ = _ := fun g => (g.bel.cell hrW).trans (blk_cell hbox 4 _ rfl)
        have z5 : ∀ g : Grown W, g.val.cell? ⟨wr.heap.size, 5, none⟩ = _ := fun g => (g.bel.cell hrW).trans (blk_cell hbox 5 _ rfl)
        have z6 : ∀ g : Grown W, g.val.cell? ⟨wr.heap.size, 6, none⟩ = _ := fun g => (g.bel.cell hrW).trans (blk_cell hbox 6 _ rfl)
        have z7 : ∀ g : Grown W, g.val.cell? ⟨wr.heap.size, 7, none⟩ = _ := fun g => (g.bel.cell hrW).trans (blk_cell hbox 7 _ rfl)
        have hbW : b < W.heap.size := Nat.lt_of_lt_of_le hb hbx.size
        clear c0 c1 c2 c3 c4 c5 c6 c7 hbox
        go_cut [10, 32] (fun i c wx => i = .int .i64 k ∧ Tells (GoodSail (S k) ∧ (0 < k → (S (k - 1)).id < (S k).id)) c ∧ Below w.heap.size w wx)
        case first =>
          by_cases hg : GoodSail (S k)
          · have HG : Hid (GoodSail (S k)) := hg
            clear hg
            by_cases k0 : k = 0
            · subst k0
              refine wp_region_grow (by kernel_rfl) (by kernel_rfl) ?_
              repeat (first | go_big_quiet_skip | (go_big_quiet_want; go_big_quiet_op; first | go_big_quiet_on | (apply Exists.intro; refine ⟨fun g => ?_, ?_⟩; (focus (go_at_call 106; refine grown_call (v := .bool true) ((implSailing_any _ _ _ _ _ _ _ _ _ _ _ _ (S 0).la (S 0).ca _ rfl rfl s1' s2' s3 s4 (h8.below (after hbx g.bel)) (h9.below (after hbx g.bel))).mono ?_); rintro e w2 ⟨⟨bb, rfl, hi⟩, hbb⟩; obtain rfl := hi.2 HG.out; exact ⟨rfl, hbb⟩)); go_big_quiet_on)))
              refine wpQuiet_nil ?_
              rintro _ ⟨g, rfl⟩
              go_wp2
              go_meet
              exact ⟨rfl, tells_good ⟨HG.out, fun h => by omega⟩, after hbx g.bel⟩
            · have d0 : decide (0 < k) = true := by simp; omega
              have hk2 : ((k : Int) - 1).toNat = k - 1 := by omega
              have hk3 : (k : Int) - 1 < (N : Int) := by omega
              have hk4 : (0 : Int) ≤ (k : Int) - 1 := by omega
              have hk5 : IntKind.i64.wrap ((k : Int) - 1) = (k : Int) - 1 := by rw [IntKind.wrap_i64]; omega
              have y0 : ∀ g : Grown W, g.val.cell? ⟨b, off + (k - 1) * 8, none⟩ = _ := fun g => ((after hbx g.bel).cell (p := ⟨b, off + (k - 1) * 8, none⟩) hb).trans (HP2.out (by omega))
              by_cases hle : (S k).id ≤ (S (k - 1)).id
              · have e2 : decide ((S k).id ≤ (S (k - 1)).id) = true := by simpa using hle
                refine wp_region_grow (by kernel_rfl) (by kernel_rfl) ?_
                repeat (first | go_big_quiet_skip | (go_big_quiet_want; go_big_quiet_op; first | go_big_quiet_on | (apply Exists.intro; refine ⟨fun g => ?_, ?_⟩; (focus (go_at_call 106; refine grown_call (v := .bool true) ((implSailing_any _ _ _ _ _ _ _ _ _ _ _ _ (S k).la (S k).ca _ rfl rfl s1' s2' s3 s4 (h8.below (after hbx g.bel)) (h9.below (after hbx g.bel))).mono ?_); rintro e w2 ⟨⟨bb, rfl, hi⟩, hbb⟩; obtain rfl := hi.2 HG.out; exact ⟨rfl, hbb⟩)); go_big_quiet_on)))
                refine wpQuiet_nil ?_
                rintro _ ⟨g, rfl⟩
                go_wp2
                go_meet
                exact ⟨rfl, tells_bad (fun h => by have := h.2 (by omega); omega), after hbx g.bel⟩
              · have e2 : decide ((S k).id ≤ (S (k - 1)).id) = false := by simpa using hle
                refine wp_region_grow (by kernel_rfl) (by kernel_rfl) ?_
                repeat (first | go_big_quiet_skip | (go_big_quiet_want; go_big_quiet_op; first | go_big_quiet_on | (apply Exists.intro; refine ⟨fun g => ?_, ?_⟩; (focus (go_at_call 106; refine grown_call (v := .bool true) ((implSailing_any _ _ _ _ _ _ _ _ _ _ _ _ (S k).la (S k).ca _ rfl rfl s1' s2' s3 s4 (h8.below (after hbx g.bel)) (h9.below (after hbx g.bel))).mono ?_); rintro e w2 ⟨⟨bb, rfl, hi⟩, hbb⟩; obtain rfl := hi.2 HG.out; exact ⟨rfl, hbb⟩)); go_big_quiet_on)))
                refine wpQuiet_nil ?_
                rintro _ ⟨g, rfl⟩
                go_wp2
                go_meet
                exact ⟨rfl, tells_good ⟨HG.out, fun _ => by omega⟩, after hbx g.bel⟩
          · have HG : Hid (¬ GoodSail (S k)) := hg
            clear hg
            refine wp_region_grow (by kernel_rfl) (by kernel_rfl) ?_
            repeat (first | go_big_quiet_skip | (go_big_quiet_want; go_big_quiet_op; first | go_big_quiet_on | (apply Exists.intro; refine ⟨fun g => ?_, ?_⟩; (focus (go_at_call 106; refine grown_call (v := .bool false) ((implSailing_any _ _ _ _ _ _ _ _ _ _ _ _ (S k).la (S k).ca _ rfl rfl s1' s2' s3 s4 (h8.below (after hbx g.bel)) (h9.below (after hbx g.bel))).mono ?_); rintro e w2 ⟨⟨bb, rfl, hi⟩, hbb⟩; obtain rfl := Bool.eq_false_iff.2 (fun e => HG.out (hi.1 e)); exact ⟨rfl, hbb⟩)); go_big_quiet_on)))
            refine wpQuiet_nil ?_
            rintro _ ⟨g, rfl⟩
            go_wp2
            go_meet
            exact ⟨rfl, tells_bad (fun h => HG.out h.1), after hbx g.bel⟩
        case rest =>
          obtain ⟨rfl, ⟨t, rfl, ht⟩, hbx2⟩ := hcut
          have HT : Hid (t = false ↔ GoodSail (S k) ∧ (0 < k → (S (k - 1)).id < (S k).id)) := ht
          clear ht z0 z1 z2 z3 z4 z5 z6 z7
          cases t with
          | true =>
            go_wp2
            go_ret
            exact ⟨says_no (fun h => by have := HT.out.2 (h.2 k hlt); cases this), hbx2⟩
          | false =>
            have HK := HT.out.1 rfl
            have HK : Hid _ := HK
            clear HT
            go_wp2
            go_roundw
            case rel => exact ⟨k + 1, by omega, by go_num, fun j hj => by
              by_cases e : j = k
              · subst e; exact HK.out
              · exact HA.out j (by omega), hbx2⟩
            case measure => simp [intOf]; omega
      · obtain rfl : k = N := by omega
        go_wp2
        go_ret
        exact ⟨says_yes ⟨h6, HA.out⟩, hbel⟩
  · have d6 : decide (6 < N) = true := by simp; omega
    go_enter Tryz.func61, Tryz.ntmps61
    go_wp2
    go_ret
    exact ⟨says_no (fun h => h6 h.1), Below.refl _ _⟩
end Go.Proofs.YtlelckbeoclhbaaGreat
