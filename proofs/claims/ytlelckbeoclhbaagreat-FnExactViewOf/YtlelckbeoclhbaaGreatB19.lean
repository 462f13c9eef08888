/-
  OWN TEXT: ImplS3, ImplT, ConcatI, RouteI.
-/
import Derived.Deep.LoopGhost
import Derived.Lib.AppendZeros
import Derived.Deep.RegionHeld3
import Derived.Deep.DeepCutAuto
import Derived.Test.YtlelckbeoclhbaaGreatB18
import Derived.Test.YtlelckbeoclhbaaGreatB09
import Derived.Test.YtlelckbeoclhbaaGreatB07
import Derived.Test.YtlelckbeoclhbaaGreatB02
import Derived.Test.YtlelckbeoclhbaaGreatB10
set_option maxHeartbeats 12800000
set_option maxRecDepth 100000
namespace Go.Proofs.YtlelckbeoclhbaaGreat
open Go.RowKit
theorem implSailing_any (x d a mo : Int) (fr tt : ByteArray) (lo co : Option Addr) (n m c1 c2 : Nat) (l1 l2 : Pairs) (w : World) (e1 : l1.n = n) (e2 : l2.n = m) (hfr : fr.size ≤ 1000000000000000) (hto : tt.size ≤ 1000000000000000) (hn : n ≤ 1048576) (hm : m ≤ 1048576) (hx : PairsAt w lo l1) (hy : PairsAt w co l2) :
    Calls Tryz.prog 106 #[.agg #[.int .i64 x, .string fr, .string tt, .int .i64 d, .int .i64 a, .slice lo n c1, .slice co m c2, .int .i64 mo]] w fun e w' => SaysIf (GoodSail ⟨x, fr, tt, d, a, l1, l2, mo⟩) e ∧ Below w.heap.size w w' := by
  have hb0 : Below w.heap.size w (w.alloc (.cells #[.int .i64 x, .string fr, .string tt, .int .i64 d, .int .i64 a, .slice lo n c1, .slice co m c2, .int .i64 mo] 54)) := push (Below.refl _ _) _
  have A0 := heap_alloc_new w (.cells #[.int .i64 x, .string fr, .string tt, .int .i64 d, .int .i64 a, .slice lo n c1, .slice co m c2, .int .i64 mo] 54)
  have E1 : Hid (l1.n = n) := e1
  have E2 : Hid (l2.n = m) := e2
  clear e1 e2
  by_cases g1 : In x 1 99
  case neg =>
    have fg1 : decide (In x 1 99) = false := by exact decide_eq_false g1
    have HN : Hid (¬ GoodSail ⟨x, fr, tt, d, a, l1, l2, mo⟩) := fun h => g1 h.1
    clear g1
    go_enter Tryz.func106, Tryz.ntmps106
    go_wp2_with (first | (go_at_call 139; refine (sailingId_is _ _).mono ?_; rintro e w' ⟨rfl, hw'⟩; have hw' := hw'.symm; subst hw') | (go_at_call 140; refine (unlikeNames_is _ _ _ hfr hto).mono ?_; rintro e w' ⟨rfl, hw'⟩; have hw' := hw'.symm; subst hw') | (go_at_call 143; refine (within_is _ _ _ _).mono ?_; rintro e w' ⟨rfl, hw'⟩; have hw' := hw'.symm; subst hw'))
    go_ret
    exact ⟨says_no HN.out, hb0⟩
  have fg1 : decide (In x 1 99) = true := by exact decide_eq_true g1
  by_cases g2 : Unlike fr tt
  case neg =>
    have fg2 : decide (Unlike fr tt) = false := by exact decide_eq_false g2
    have HN : Hid (¬ GoodSail ⟨x, fr, tt, d, a, l1, l2, mo⟩) := fun h => g2 ⟨h.2.1, h.2.2.1, h.2.2.2.1⟩
    clear g1 g2
    go_enter Tryz.func106, Tryz.ntmps106
    go_wp2_with (first | (go_at_call 139; refine (sailingId_is _ _).mono ?_; rintro e w' ⟨rfl, hw'⟩; have hw' := hw'.symm; subst hw') | (go_at_call 140; refine (unlikeNames_is _ _ _ hfr hto).mono ?_; rintro e w' ⟨rfl, hw'⟩; have hw' := hw'.symm; subst hw') | (go_at_call 143; refine (within_is _ _ _ _).mono ?_; rintro e w' ⟨rfl, hw'⟩; have hw' := hw'.symm; subst hw'))
    go_ret
    exact ⟨says_no HN.out, hb0⟩
  have fg2 : decide (Unlike fr tt) = true := by exact decide_eq_true g2
  by_cases g3 : 0 ≤ d
  case neg =>
    have fg3 : decide (0 ≤ d) = false := by simpa using g3
    have HN : Hid (¬ GoodSail ⟨x, fr, tt, d, a, l1, l2, mo⟩) := fun h => g3 h.2.2.2.2.1
    clear g1 g2 g3
    go_enter Tryz.func106, Tryz.ntmps106
    go_wp2_with (first | (go_at_call 139; refine (sailingId_is _ _).mono ?_; rintro e w' ⟨rfl, hw'⟩; have hw' := hw'.symm; subst hw') | (go_at_call 140; refine (unlikeNames_is _ _ _ hfr hto).mono ?_; rintro e w' ⟨rfl, hw'⟩; have hw' := hw'.symm; subst hw') | (go_at_call 143; refine (within_is _ _ _ _).mono ?_; rintro e w' ⟨rfl, hw'⟩; have hw' := hw'.symm; subst hw'))
    go_ret
    exact ⟨says_no HN.out, hb0⟩
  have fg3 : decide (0 ≤ d) = true := by simpa using g3
  by_cases g4 : d < a
  case neg =>
    have fg4 : decide (d < a) = false := by simpa using g4
    have HN : Hid (¬ GoodSail ⟨x, fr, tt, d, a, l1, l2, mo⟩) := fun h => g4 h.2.2.2.2.2.1
    clear g1 g2 g3 g4
    go_enter Tryz.func106, Tryz.ntmps106
    go_wp2_with (first | (go_at_call 139; refine (sailingId_is _ _).mono ?_; rintro e w' ⟨rfl, hw'⟩; have hw' := hw'.symm; subst hw') | (go_at_call 140; refine (unlikeNames_is _ _ _ hfr hto).mono ?_; rintro e w' ⟨rfl, hw'⟩; have hw' := hw'.symm; subst hw') | (go_at_call 143; refine (within_is _ _ _ _).mono ?_; rintro e w' ⟨rfl, hw'⟩; have hw' := hw'.symm; subst hw'))
    go_ret
    exact ⟨says_no HN.out, hb0⟩
  have fg4 : decide (d < a) = true := by simpa using g4
  by_cases g5 : a ≤ 10000
  case neg =>
    have fg5 : decide (a ≤ 10000) = false := by simpa using g5
    have HN : Hid (¬ GoodSail ⟨x, fr, tt, d, a, l1, l2, mo⟩) := fun h => g5 h.2.2.2.2.2.2.1
    clear g1 g2 g3 g4 g5
    go_enter Tryz.func106, Tryz.ntmps106
    go_wp2_with (first | (go_at_call 139; refine (sailingId_is _ _).mono ?_; rintro e w' ⟨rfl, hw'⟩; have hw' := hw'.symm; subst hw') | (go_at_call 140; refine (unlikeNames_is _ _ _ hfr hto).mono ?_; rintro e w' ⟨rfl, hw'⟩; have hw' := hw'.symm; subst hw') | (go_at_call 143; refine (within_is _ _ _ _).mono ?_; rintro e w' ⟨rfl, hw'⟩; have hw' := hw'.symm; subst hw'))
    go_ret
    exact ⟨says_no HN.out, hb0⟩
  have fg5 : decide (a ≤ 10000) = true := by simpa using g5
  have HG : Hid (In x 1 99 ∧ Unlike fr tt ∧ 0 ≤ d ∧ d < a ∧ a ≤ 10000) := ⟨g1, g2, g3, g4, g5⟩
  clear g1 g2 g3 g4 g5
  go_enter Tryz.func106, Tryz.ntmps106
  go_wp2_with (first | (go_at_call 139; refine (sailingId_is _ _).mono ?_; rintro e w' ⟨rfl, hw'⟩; have hw' := hw'.symm; subst hw') | (go_at_call 140; refine (unlikeNames_is _ _ _ hfr hto).mono ?_; rintro e w' ⟨rfl, hw'⟩; have hw' := hw'.symm; subst hw') | (go_at_call 143; refine (within_is _ _ _ _).mono ?_; rintro e w' ⟨rfl, hw'⟩; have hw' := hw'.symm; subst hw'))
  refine (goodLanes_any lo n c1 l1 _ E1.out hn (hx.below hb0)).mono ?_
  rintro e w1 ⟨⟨b1, rfl, i1⟩, hb1⟩
  have A1 := blk_below A0 hb1
  have hb2 := after hb0 hb1
  have I1 : Hid (b1 = true ↔ GoodPairs l1 4 1 5000 100 500) := i1
  clear i1 A0 hb0 hb1
  cases b1 with
  | false =>
    go_wp2
    go_ret
    exact ⟨says_no (fun h => by have := I1.out.2 h.2.2.2.2.2.2.2.1; cases this), hb2⟩
  | true =>
    have q6 := blk_cell A1 6 _ rfl
    go_wp2_with fail
    refine (goodCabins_any co m c2 l2 _ E2.out hm (hy.below hb2)).mono ?_
    rintro e w2 ⟨⟨b2, rfl, i2⟩, hb3⟩
    have A2 := blk_below A1 hb3
    have hb4 := after hb2 hb3
    have I2 : Hid (b2 = true ↔ GoodPairs l2 6 1 3 1 4) := i2
    clear i2 A1 hb2 hb3 q6
    cases b2 with
    | false =>
      go_wp2
      go_ret
      exact ⟨says_no (fun h => by have := I2.out.2 h.2.2.2.2.2.2.2.2.1; cases this), hb4⟩
    | true =>
      have q7 := blk_cell A2 7 _ rfl
      by_cases g8 : In mo 0 500
      · have f8 : decide (In mo 0 500) = true := decide_eq_true g8
        have H8 : Hid (In mo 0 500) := g8
        clear g8
        go_wp2_with (first | (go_at_call 139; refine (sailingId_is _ _).mono ?_; rintro e w' ⟨rfl, hw'⟩; have hw' := hw'.symm; subst hw') | (go_at_call 140; refine (unlikeNames_is _ _ _ hfr hto).mono ?_; rintro e w' ⟨rfl, hw'⟩; have hw' := hw'.symm; subst hw') | (go_at_call 143; refine (within_is _ _ _ _).mono ?_; rintro e w' ⟨rfl, hw'⟩; have hw' := hw'.symm; subst hw'))
        go_ret
        exact ⟨says_yes ⟨HG.out.1, HG.out.2.1.1, HG.out.2.1.2.1, HG.out.2.1.2.2, HG.out.2.2.1, HG.out.2.2.2.1, HG.out.2.2.2.2, I1.out.1 (by simp), I2.out.1 (by simp), H8.out⟩, hb4⟩
      · have f8 : decide (In mo 0 500) = false := decide_eq_false g8
        have H8 : Hid (¬ In mo 0 500) := g8
        clear g8
        go_wp2_with (first | (go_at_call 139; refine (sailingId_is _ _).mono ?_; rintro e w' ⟨rfl, hw'⟩; have hw' := hw'.symm; subst hw') | (go_at_call 140; refine (unlikeNames_is _ _ _ hfr hto).mono ?_; rintro e w' ⟨rfl, hw'⟩; have hw' := hw'.symm; subst hw') | (go_at_call 143; refine (within_is _ _ _ _).mono ?_; rintro e w' ⟨rfl, hw'⟩; have hw' := hw'.symm; subst hw'))
        go_ret
        exact ⟨says_no (fun h => H8.out h.2.2.2.2.2.2.2.2.2), hb4⟩
end Go.Proofs.YtlelckbeoclhbaaGreat

namespace Go.Proofs.YtlelckbeoclhbaaGreat
open Go.RowKit
theorem implTab_any (ao : Option Addr) (N c : Nat) (S : Nat → Sail) (w : World) (hN : N ≤ 1048576) (hs : ShortAll N S 1048576) (hx : SailsAt w ao N S) :
    Calls Tryz.prog 61 #[.slice ao N c] w fun e w' => SaysIf (GoodTab N S) e ∧ Below w.heap.size w w' := by
  have HS : Hid (ShortAll N S 1048576) := hs
  clear hs
  by_cases h6 : N ≤ 6
  · have d6 : decide (6 < N) = false := by simp; omega
    go_enter Tryz.func61, Tryz.ntmps61
    go_wp2
    go_loopw [3, 4, 10] (fun _ _ i wr => ∃ k : Nat, k ≤ N ∧ i = .int .i64 k ∧ (∀ j, j < k → GoodSail (S j) ∧ (0 < j → (S (j - 1)).id < (S j).id)) ∧ Below w.heap.size w wr) (fun _ _ i _ => N - (intOf i).toNat)
    case atStart => exact ⟨0, Nat.zero_le _, rfl, fun j hj => by omega, Below.refl _ _⟩
    case round =>
      obtain ⟨k, hk, rfl, hall, hbel⟩ := hrel
      have HA : Hid (∀ j, j < k → GoodSail (S j) ∧ (0 < j → (S (j - 1)).id < (S j).id)) := hall
      clear hall d6
      by_cases hlt : k < N
      · have HP : Hid (0 < k → ∀ b off, ao = some ⟨b, off, none⟩ → w.cell? ⟨b, off + (k - 1) * 8, none⟩ = some (.int .i64 (S (k - 1)).id)) := by
          intro h b off e
          obtain ⟨b', off', _, _, _, _, e', g, _⟩ := hx (k - 1) (by omega)
          rw [e] at e'
          simp only [Option.some.injEq, Addr.mk.injEq, and_true] at e'
          obtain ⟨rfl, rfl⟩ := e'
          exact g
        obtain ⟨b, off, la, lc, ca, cc, rfl, h0, h1, h2, h3, h4, h5, h6', h7, h8, h9, _, _⟩ := hx k hlt
        have HP2 : Hid (0 < k → w.cell? ⟨b, off + (k - 1) * 8, none⟩ = some (.int .i64 (S (k - 1)).id)) := fun h => HP.out h b off rfl
        clear HP
        have hb := World.block_lt_of_cell? w _ h1
        have c0 := (hbel.cell (p := ⟨b, off + k * 8, none⟩) hb).trans h0
        have c1 := (hbel.cell (p := ⟨b, off + k * 8 + 1, none⟩) hb).trans h1
        have c2 := (hbel.cell (p := ⟨b, off + k * 8 + 2, none⟩) hb).trans h2
        have c3 := (hbel.cell (p := ⟨b, off + k * 8 + 3, none⟩) hb).trans h3
        have c4 := (hbel.cell (p := ⟨b, off + k * 8 + 4, none⟩) hb).trans h4
        have c5 := (hbel.cell (p := ⟨b, off + k * 8 + 5, none⟩) hb).trans h5
        have c6 := (hbel.cell (p := ⟨b, off + k * 8 + 6, none⟩) hb).trans h6'
        have c7 := (hbel.cell (p := ⟨b, off + k * 8 + 7, none⟩) hb).trans h7
        obtain ⟨s1, s2, s3, s4⟩ := HS.out k hlt
        have s1' : (S k).fr.size ≤ 1000000000000000 := by omega
        have s2' : (S k).dst.size ≤ 1000000000000000 := by omega
        clear s1 s2
        have hbx := push hbel (.cells #[.int .i64 (S k).id, .string (S k).fr, .string (S k).dst, .int .i64 (S k).dep, .int .i64 (S k).arr, .slice la (S k).la.n lc, .slice ca (S k).ca.n cc, .int .i64 (S k).most] 54)
        have hbox := heap_alloc_new wr (.cells #[.int .i64 (S k).id, .string (S k).fr, .string (S k).dst, .int .i64 (S k).dep, .int .i64 (S k).arr, .slice la (S k).la.n lc, .slice ca (S k).ca.n cc, .int .i64 (S k).most] 54)
        clear h0 h1 h2 h3 h4 h5 h6' h7
        go_upto_region 6 with fail
        generalize hW : wr.alloc (.cells #[.int .i64 (S k).id, .string (S k).fr, .string (S k).dst, .int .i64 (S k).dep, .int .i64 (S k).arr, .slice la (S k).la.n lc, .slice ca (S k).ca.n cc, .int .i64 (S k).most] 54) = W at hbx hbox ⊢
        clear hW
        have hrW : wr.heap.size < W.heap.size := blk_lt hbox
        have z0 : ∀ g : Grown W, g.val.cell? ⟨wr.heap.size, 0, none⟩ = _ := fun g => (g.bel.cell hrW).trans (blk_cell hbox 0 _ rfl)
        have z1 : ∀ g : Grown W, g.val.cell? ⟨wr.heap.size, 1, none⟩ = _ := fun g => (g.bel.cell hrW).trans (blk_cell hbox 1 _ rfl)
        have z2 : ∀ g : Grown W, g.val.cell? ⟨wr.heap.size, 2, none⟩ = _ := fun g => (g.bel.cell hrW).trans (blk_cell hbox 2 _ rfl)
        have z3 : ∀ g : Grown W, g.val.cell? ⟨wr.heap.size, 3, none⟩ = _ := fun g => (g.bel.cell hrW).trans (blk_cell hbox 3 _ rfl)
        have z4 : ∀ g : Grown W, g.val.cell? ⟨wr.heap.size, 4, none⟩ = _ := fun g => (g.bel.cell hrW).trans (blk_cell hbox 4 _ rfl)
        have z5 : ∀ g : Grown W, g.val.cell? ⟨wr.heap.size, 5, none⟩ = _ := fun g => (g.bel.cell hrW).trans (blk_cell hbox 5 _ rfl)
        have z6 : ∀ g : Grown W, g.val.cell? ⟨wr.heap.size, 6, none⟩ = _ := fun g => (g.bel.cell hrW).trans (blk_cell hbox 6 _ rfl)
        have z7 : ∀ g : Grown W, g.val.cell? ⟨wr.heap.size, 7, none⟩ = _ := fun g => (g.bel.cell hrW).trans (blk_cell hbox 7 _ rfl)
        have hbW : b < W.heap.size := Nat.lt_of_lt_of_le hb hbx.size
        clear c0 c1 c2 c3 c4 c5 c6 c7 hbox
        go_cut [10, 32] (fun i c wx => i = .int .i64 k ∧ Tells (GoodSail (S k) ∧ (0 < k → (S (k - 1)).id < (S k).id)) c ∧ Below w.heap.size w wx)
        case first =>
          by_cases hg : GoodSail (S k)
          · have HG : Hid (GoodSail (S k)) := hg
            clear hg
            by_cases k0 : k = 0
            · subst k0
              refine wp_region_grow (by kernel_rfl) (by kernel_rfl) ?_
              repeat (first | go_big_quiet_skip | (go_big_quiet_want; go_big_quiet_op; first | go_big_quiet_on | (apply Exists.intro; refine ⟨fun g => ?_, ?_⟩; (focus (go_at_call 106; refine grown_call (v := .bool true) ((implSailing_any _ _ _ _ _ _ _ _ _ _ _ _ (S 0).la (S 0).ca _ rfl rfl s1' s2' s3 s4 (h8.below (after hbx g.bel)) (h9.below (after hbx g.bel))).mono ?_); rintro e w2 ⟨⟨bb, rfl, hi⟩, hbb⟩; obtain rfl := hi.2 HG.out; exact ⟨rfl, hbb⟩)); go_big_quiet_on)))
              refine wpQuiet_nil ?_
              rintro _ ⟨g, rfl⟩
              go_wp2
              go_meet
              exact ⟨rfl, tells_good ⟨HG.out, fun h => by omega⟩, after hbx g.bel⟩
            · have d0 : decide (0 < k) = true := by simp; omega
              have hk2 : ((k : Int) - 1).toNat = k - 1 := by omega
              have hk3 : (k : Int) - 1 < (N : Int) := by omega
              have hk4 : (0 : Int) ≤ (k : Int) - 1 := by omega
              have hk5 : IntKind.i64.wrap ((k : Int) - 1) = (k : Int) - 1 := by rw [IntKind.wrap_i64]; omega
              have y0 : ∀ g : Grown W, g.val.cell? ⟨b, off + (k - 1) * 8, none⟩ = _ := fun g => ((after hbx g.bel).cell (p := ⟨b, off + (k - 1) * 8, none⟩) hb).trans (HP2.out (by omega))
              by_cases hle : (S k).id ≤ (S (k - 1)).id
              · have e2 : decide ((S k).id ≤ (S (k - 1)).id) = true := by simpa using hle
                refine wp_region_grow (by kernel_rfl) (by kernel_rfl) ?_
                repeat (first | go_big_quiet_skip | (go_big_quiet_want; go_big_quiet_op; first | go_big_quiet_on | (apply Exists.intro; refine ⟨fun g => ?_, ?_⟩; (focus (go_at_call 106; refine grown_call (v := .bool true) ((implSailing_any _ _ _ _ _ _ _ _ _ _ _ _ (S k).la (S k).ca _ rfl rfl s1' s2' s3 s4 (h8.below (after hbx g.bel)) (h9.below (after hbx g.bel))).mono ?_); rintro e w2 ⟨⟨bb, rfl, hi⟩, hbb⟩; obtain rfl := hi.2 HG.out; exact ⟨rfl, hbb⟩)); go_big_quiet_on)))
                refine wpQuiet_nil ?_
                rintro _ ⟨g, rfl⟩
                go_wp2
                go_meet
                exact ⟨rfl, tells_bad (fun h => by have := h.2 (by omega); omega), after hbx g.bel⟩
              · have e2 : decide ((S k).id ≤ (S (k - 1)).id) = false := by simpa using hle
                refine wp_region_grow (by kernel_rfl) (by kernel_rfl) ?_
                repeat (first | go_big_quiet_skip | (go_big_quiet_want; go_big_quiet_op; first | go_big_quiet_on | (apply Exists.intro; refine ⟨fun g => ?_, ?_⟩; (focus (go_at_call 106; refine grown_call (v := .bool true) ((implSailing_any _ _ _ _ _ _ _ _ _ _ _ _ (S k).la (S k).ca _ rfl rfl s1' s2' s3 s4 (h8.below (after hbx g.bel)) (h9.below (after hbx g.bel))).mono ?_); rintro e w2 ⟨⟨bb, rfl, hi⟩, hbb⟩; obtain rfl := hi.2 HG.out; exact ⟨rfl, hbb⟩)); go_big_quiet_on)))
                refine wpQuiet_nil ?_
                rintro _ ⟨g, rfl⟩
                go_wp2
                go_meet
                exact ⟨rfl, tells_good ⟨HG.out, fun _ => by omega⟩, after hbx g.bel⟩
          · have HG : Hid (¬ GoodSail (S k)) := hg
            clear hg
            refine wp_region_grow (by kernel_rfl) (by kernel_rfl) ?_
            repeat (first | go_big_quiet_skip | (go_big_quiet_want; go_big_quiet_op; first | go_big_quiet_on | (apply Exists.intro; refine ⟨fun g => ?_, ?_⟩; (focus (go_at_call 106; refine grown_call (v := .bool false) ((implSailing_any _ _ _ _ _ _ _ _ _ _ _ _ (S k).la (S k).ca _ rfl rfl s1' s2' s3 s4 (h8.below (after hbx g.bel)) (h9.below (after hbx g.bel))).mono ?_); rintro e w2 ⟨⟨bb, rfl, hi⟩, hbb⟩; obtain rfl := Bool.eq_false_iff.2 (fun e => HG.out (hi.1 e)); exact ⟨rfl, hbb⟩)); go_big_quiet_on)))
            refine wpQuiet_nil ?_
            rintro _ ⟨g, rfl⟩
            go_wp2
            go_meet
            exact ⟨rfl, tells_bad (fun h => HG.out h.1), after hbx g.bel⟩
        case rest =>
          obtain ⟨rfl, ⟨t, rfl, ht⟩, hbx2⟩ := hcut
          have HT : Hid (t = false ↔ GoodSail (S k) ∧ (0 < k → (S (k - 1)).id < (S k).id)) := ht
          clear ht z0 z1 z2 z3 z4 z5 z6 z7
          cases t with
          | true =>
            go_wp2
            go_ret
            exact ⟨says_no (fun h => by have := HT.out.2 (h.2 k hlt); cases this), hbx2⟩
          | false =>
            have HK := HT.out.1 rfl
            have HK : Hid _ := HK
            clear HT
            go_wp2
            go_roundw
            case rel => exact ⟨k + 1, by omega, by go_num, fun j hj => by
              by_cases e : j = k
              · subst e; exact HK.out
              · exact HA.out j (by omega), hbx2⟩
            case measure => simp [intOf]; omega
      · obtain rfl : k = N := by omega
        go_wp2
        go_ret
        exact ⟨says_yes ⟨h6, HA.out⟩, hbel⟩
  · have d6 : decide (6 < N) = true := by simp; omega
    go_enter Tryz.func61, Tryz.ntmps61
    go_wp2
    go_ret
    exact ⟨says_no (fun h => h6 h.1), Below.refl _ _⟩
end Go.Proofs.YtlelckbeoclhbaaGreat

namespace Go.Proofs.YtlelckbeoclhbaaGreat
open Go.RowKit
theorem growI_nil (k : Nat) (w : World) (h0 : 0 < k) (hk : k ≤ 4194304) :
    Calls Tryz.prog 180 #[.slice none 0 0, .int .i64 k] w fun e w' => (∃ v, e = .returned v ∧ w'.ownsRow w.heap.size 3 1 v 0 []) ∧ Below w.heap.size w w' := by
  obtain ⟨j0, ji, jz0, jz1, jz2⟩ := info_parts Tryz.infoInt
  have hrun := Lib.run_append_nil_zeros (P := Tryz.prog) w 31 3 31 3 j0 (.int .i64 0) .i64 .i64 Tryz.underlying31 Tryz.underlying3 ji jz0 k h0 (by omega) (by omega) (by rw [jz2]; omega)
  have d0 : decide ((k : Int) < 0) = false := by simp
  have d1 : decide (0 < k) = true := by simpa using h0
  go_enter Tryz.func180, Tryz.ntmps180
  go_wp2_with (first | (at_builtin; refine Lib.wpList_append_run _ rfl _ _ _ _ rfl _ _ rfl rfl _ _ hrun ?_))
  go_ret
  have hge := grownCap_ge w k 0 3
  refine ⟨⟨_, rfl, rfl, .inr ⟨w.heap.size, _, _, rfl, Nat.le_refl _, heap_alloc_new w _, Nat.zero_le _, grownCap_le_maxLen w k 0 _ (by unfold maxLen; omega), ?_, rfl⟩⟩, (push (Below.refl _ w) _).drew⟩
  rw [Array.size_append, size_zeroCells, size_zeroCells]
  show k * 1 + (_ - k) * 1 = _ * 1
  omega
def cumI (n r : Nat) : Nat := if r = 0 then 0 else if r = 1 then n else n + 1
def partI (ls : List Int) (x : Int) (r : Nat) : List Int := if r = 0 then [] else if r = 1 then ls else ls ++ [x]
theorem concat_legs (lb qb : Nat) (ha : Option Addr) (n hc : Nat) (ls : List Int) (x : Int) (w : World) (e1 : ls.length = n) (hn : n ≤ 1048576)
    (hlb : w.heap[lb]? = some (.cells #[.slice ha n hc, .slice (some ⟨qb, 0, none⟩) 1 1] 31 (0, 0))) (hx : IntsAt w ha n (getI ls)) (hy : w.cell? ⟨qb, 0, none⟩ = some (.int .i64 x)) (hna : ha = none → n = 0 ∧ hc = 0) :
    Calls Tryz.prog 179 #[.slice (some ⟨lb, 0, none⟩) 2 2] w fun e w' => (∃ ao' c', e = .returned (.slice ao' (n + 1) c') ∧ w'.ownsRow w.heap.size 3 1 (.slice ao' (n + 1) c') (n + 1) (cellsI (ls ++ [x]))) ∧ Below w.heap.size w w' := by
  obtain ⟨j0, ji, jz0, jz1, jz2⟩ := info_parts Tryz.infoInt
  have E1 : Hid (ls.length = n) := e1
  have hqb := World.block_lt_of_cell? w _ hy
  have HX : Hid (IntsAt w ha ls.length (getI ls)) := by rw [Hid, e1]; exact hx
  clear e1 hx
  have p0 : w.cell? ⟨lb, 0, none⟩ = some (.slice ha n hc) := blk_cell hlb 0 _ rfl
  have p1 : w.cell? ⟨lb, 1, none⟩ = some (.slice (some ⟨qb, 0, none⟩) 1 1) := blk_cell hlb 1 _ rfl
  have c0 : cumI n 0 = 0 := rfl
  have c1 : cumI n 1 = n := rfl
  have c2 : cumI n 2 = n + 1 := rfl
  go_enter Tryz.func179, Tryz.ntmps179
  go_wp2
  go_loopg [3, 5, 11] 2 (fun g s _ i wr => ∃ r : Nat, r ≤ 2 ∧ g = 2 - r ∧ i = .int .i64 r ∧ s = .int .i64 (cumI n r) ∧ wr = w)
  case atStart => exact ⟨0, by omega, rfl, rfl, rfl, rfl⟩
  case round =>
    obtain ⟨r, hr, rfl, rfl, rfl, hwr⟩ := hrel
    have hwr' := hwr.symm
    subst hwr'
    clear hwr
    have hc3 : r = 0 ∨ r = 1 ∨ r = 2 := by omega
    rcases hc3 with rfl | rfl | rfl
    · go_wp2
      go_roundg 1
      case measure => omega
      case rel => exact ⟨1, by omega, rfl, by go_num, by rw [c1], rfl⟩
    · have hd : decide ((n : Int) + 1 < 0) = false := by simp; omega
      go_wp2
      go_roundg 0
      case measure => omega
      case rel => exact ⟨2, by omega, rfl, by go_num, by rw [c2]; go_num, rfl⟩
    · go_wp2_with fail
      refine (growI_nil (n + 1) _ (by omega) (by omega)).mono ?_
      rintro e w1 ⟨⟨v, rfl, ho1⟩, hb1⟩
      clear p0 p1
      go_wp2
      go_loopg [6, 8, 27] 2 (fun g u _ i wr => ∃ r : Nat, r ≤ 2 ∧ g = 2 - r ∧ i = .int .i64 r ∧ wr.ownsRow w.heap.size 3 1 u (cumI n r) (cellsI (partI ls x r)) ∧ Below w.heap.size w wr)
      case atStart => exact ⟨0, by omega, rfl, rfl, ho1, hb1⟩
      case round =>
        obtain ⟨r, hr, rfl, rfl, ho, hbel⟩ := hrel
        obtain ⟨w2, ew2⟩ : ∃ x, x = wr := ⟨_, rfl⟩
        subst ew2
        have hsz := hbel.size
        have hlb2 := blk_below hlb hbel
        have p0 : w2.cell? ⟨lb, 0, none⟩ = some (.slice ha n hc) := blk_cell hlb2 0 _ rfl
        have p1 : w2.cell? ⟨lb, 1, none⟩ = some (.slice (some ⟨qb, 0, none⟩) 1 1) := blk_cell hlb2 1 _ rfl
        have hc3 : r = 0 ∨ r = 1 ∨ r = 2 := by omega
        rcases hc3 with rfl | rfl | rfl
        · have HC : Hid (∀ ad, ha = some ad → ∀ j u, (cellsI ls)[j]? = some u → w2.cell? (ad.add j) = some u) := ints_cells (HX.out.below hbel)
          go_wp2_with (first | (at_builtin; refine wpList_append_any _ (by rfl) (.tmp 31) (.tmp 32) 31 (by rfl) w.heap.size 3 j0 (.int .i64 0) 1 8 Tryz.underlying31 ji jz0 jz1 jz2 rfl (by decide) _ 0 [] (by rfl) ho ha n hc (cellsI ls) (by rfl) hna (by rw [cellsI_length, E1.out, Nat.mul_one]) HC.out (cellsI_one ls) (by unfold maxLen; omega) (by omega) hsz ?_; intro v' w3 ho3 hg3))
          go_roundg 1
          case measure => omega
          case rel => exact ⟨1, by omega, rfl, by go_num, by
            rw [c1]; rw [Nat.zero_add, List.nil_append] at ho3; exact ho3, hbel.grown hg3 hsz (fun j hj => (ho.lt j hj).1)⟩
        · have HC : Hid (∀ ad, (some ⟨qb, 0, none⟩ : Option Addr) = some ad → ∀ j u, (cellsI [x])[j]? = some u → w2.cell? (ad.add j) = some u) := by
            intro ad e j u hu
            cases e
            obtain ⟨hj, rfl⟩ := intList_get _ _ _ _ hu
            obtain rfl : j = 0 := by simpa using hj
            exact (hbel.cell (p := ⟨qb, 0, none⟩) hqb).trans hy
          have ho' : w2.ownsRow w.heap.size 3 1 u6 n (cellsI ls) := ho
          clear ho
          go_wp2_with (first | (at_builtin; refine wpList_append_any _ (by rfl) (.tmp 31) (.tmp 32) 31 (by rfl) w.heap.size 3 j0 (.int .i64 0) 1 8 Tryz.underlying31 ji jz0 jz1 jz2 rfl (by decide) _ n (cellsI ls) (by rfl) ho' (some ⟨qb, 0, none⟩) 1 1 (cellsI [x]) (by rfl) (fun h => (by cases h)) (by rw [cellsI_length]; rfl) HC.out (cellsI_one _) (by unfold maxLen; omega) (by omega) hsz ?_; intro v' w3 ho3 hg3))
          go_roundg 0
          case measure => omega
          case rel => exact ⟨2, by omega, rfl, by go_num, by
            rw [c2]
            have : cellsI (partI ls x 2) = cellsI ls ++ cellsI [x] := cellsI_append _ _
            rw [this]; exact ho3, hbel.grown hg3 hsz (fun j hj => (ho'.lt j hj).1)⟩
        · rw [c2] at ho
          have ho' : w2.ownsRow w.heap.size 3 1 u6 (n + 1) (cellsI (ls ++ [x])) := ho
          clear ho
          obtain ⟨ao', c', rfl, _⟩ := own_form ho'
          go_wp2
          go_ret
          exact ⟨⟨ao', c', rfl, ho'⟩, hbel⟩
end Go.Proofs.YtlelckbeoclhbaaGreat

namespace Go.Proofs.YtlelckbeoclhbaaGreat
open Go.RowKit
def catchB (pl : ByteArray) (t : Int) (fr : ByteArray) (d : Int) : Bool := (fr.toList == pl.toList) && decide (t ≤ d)
theorem catchB_iff {pl fr : ByteArray} {t d : Int} : catchB pl t fr d = true ↔ fr = pl ∧ t ≤ d := by
  unfold catchB
  rw [Bool.and_eq_true, bytes_eq, decide_eq_true_iff]
theorem catches_is (la : Option Addr) (n lc : Nat) (pl : ByteArray) (t x d a mo : Int) (fr tt : ByteArray) (lo co : Option Addr) (m1 m2 c1 c2 : Nat) (w : World) :
    Calls Tryz.prog 172 #[.agg #[.slice la n lc, .string pl, .int .i64 t], .agg #[.int .i64 x, .string fr, .string tt, .int .i64 d, .int .i64 a, .slice lo m1 c1, .slice co m2 c2, .int .i64 mo]] w fun e w' => e = .returned (.bool (catchB pl t fr d)) ∧ Below w.heap.size w w' := by
  obtain ⟨q, hq⟩ : ∃ q, q = catchB pl t fr d := ⟨_, rfl⟩
  rw [← hq]
  have HC : Hid (q = catchB pl t fr d) := hq
  clear hq
  by_cases h1 : fr = pl
  · have e1 : (fr.toList == pl.toList) = true := bytes_eq.2 h1
    have H1 : Hid (fr = pl) := h1
    clear h1
    by_cases h2 : t ≤ d
    · have e2 : decide (t ≤ d) = true := by simpa using h2
      go_enter Tryz.func172, Tryz.ntmps172
      go_wp2
      go_ret
      exact ⟨by rw [HC.out, catchB_iff.2 ⟨H1.out, h2⟩]; rfl, push (push (Below.refl _ _) _) _⟩
    · have e2 : decide (t ≤ d) = false := by simpa using h2
      go_enter Tryz.func172, Tryz.ntmps172
      go_wp2
      go_ret
      exact ⟨by rw [HC.out, show catchB pl t fr d = false from Bool.eq_false_iff.2 (fun h => by have := (catchB_iff.1 h).2; omega)]; rfl, push (push (Below.refl _ _) _) _⟩
  · have e1 : (fr.toList == pl.toList) = false := bytes_ne.2 h1
    have H1 : Hid (¬ fr = pl) := h1
    clear h1
    go_enter Tryz.func172, Tryz.ntmps172
    go_wp2
    go_ret
    exact ⟨by rw [HC.out, Bool.eq_false_iff.2 (fun h => H1.out (catchB_iff.1 h).1)]; rfl, push (push (Below.refl _ _) _) _⟩
theorem with_any (la : Option Addr) (n lc : Nat) (ls : List Int) (pl : ByteArray) (t x d a mo : Int) (fr tt : ByteArray) (lo co : Option Addr) (m1 m2 c1 c2 : Nat) (w : World) (hl : ls.length = n) (hn : n ≤ 1048576) (hx : IntsAt w la n (getI ls)) (hna : la = none → n = 0 ∧ lc = 0) :
    Calls Tryz.prog 173 #[.agg #[.slice la n lc, .string pl, .int .i64 t], .agg #[.int .i64 x, .string fr, .string tt, .int .i64 d, .int .i64 a, .slice lo m1 c1, .slice co m2 c2, .int .i64 mo]] w fun e w' => ∃ ao c, e = .returned (.agg #[.slice ao (n + 1) c, .string tt, .int .i64 a]) ∧ w'.ownsRow w.heap.size 3 1 (.slice ao (n + 1) c) (n + 1) (cellsI (ls ++ [x])) ∧ Below w.heap.size w w' := by
  have HL : Hid (ls.length = n) := hl
  clear hl
  go_enter Tryz.func173, Tryz.ntmps173
  go_upto_region 1 with fail
  have hr0 : (((w.alloc (.cells #[.slice la n lc, .string pl, .int .i64 t] 227)).alloc (.cells #[.int .i64 x, .string fr, .string tt, .int .i64 d, .int .i64 a, .slice lo m1 c1, .slice co m2 c2, .int .i64 mo] 54)).alloc (.cells #[.slice none 0 0, .string ⟨#[]⟩, .int .i64 0] 227)).heap[w.heap.size]? = some (.cells #[.slice la n lc, .string pl, .int .i64 t] 227 (0, 0)) := blk_alloc (blk_alloc (heap_alloc_new w _) _) _
  have hs0 : (((w.alloc (.cells #[.slice la n lc, .string pl, .int .i64 t] 227)).alloc (.cells #[.int .i64 x, .string fr, .string tt, .int .i64 d, .int .i64 a, .slice lo m1 c1, .slice co m2 c2, .int .i64 mo] 54)).alloc (.cells #[.slice none 0 0, .string ⟨#[]⟩, .int .i64 0] 227)).heap[w.heap.size + 1]? = some (.cells #[.int .i64 x, .string fr, .string tt, .int .i64 d, .int .i64 a, .slice lo m1 c1, .slice co m2 c2, .int .i64 mo] 54 (0, 0)) := blk_alloc (by simpa using heap_alloc_new (w.alloc _) _) _
  have hz0 : (((w.alloc (.cells #[.slice la n lc, .string pl, .int .i64 t] 227)).alloc (.cells #[.int .i64 x, .string fr, .string tt, .int .i64 d, .int .i64 a, .slice lo m1 c1, .slice co m2 c2, .int .i64 mo] 54)).alloc (.cells #[.slice none 0 0, .string ⟨#[]⟩, .int .i64 0] 227)).heap[w.heap.size + 1 + 1]? = some (.cells #[.slice none 0 0, .string ⟨#[]⟩, .int .i64 0] 227 (0, 0)) := by simpa using heap_alloc_new ((w.alloc _).alloc _) _
  have hb0 : Below w.heap.size w (((w.alloc (.cells #[.slice la n lc, .string pl, .int .i64 t] 227)).alloc (.cells #[.int .i64 x, .string fr, .string tt, .int .i64 d, .int .i64 a, .slice lo m1 c1, .slice co m2 c2, .int .i64 mo] 54)).alloc (.cells #[.slice none 0 0, .string ⟨#[]⟩, .int .i64 0] 227)) := push (push (push (Below.refl _ _) _) _) _
  have hsz0 : (((w.alloc (.cells #[.slice la n lc, .string pl, .int .i64 t] 227)).alloc (.cells #[.int .i64 x, .string fr, .string tt, .int .i64 d, .int .i64 a, .slice lo m1 c1, .slice co m2 c2, .int .i64 mo] 54)).alloc (.cells #[.slice none 0 0, .string ⟨#[]⟩, .int .i64 0] 227)).heap.size = w.heap.size + 1 + 1 + 1 := by simp
  generalize hW : ((w.alloc (.cells #[.slice la n lc, .string pl, .int .i64 t] 227)).alloc (.cells #[.int .i64 x, .string fr, .string tt, .int .i64 d, .int .i64 a, .slice lo m1 c1, .slice co m2 c2, .int .i64 mo] 54)).alloc (.cells #[.slice none 0 0, .string ⟨#[]⟩, .int .i64 0] 227) = W at hr0 hs0 hz0 hb0 hsz0 ⊢
  clear hW
  have HSZ : Hid (W.heap.size = w.heap.size + 1 + 1 + 1) := hsz0
  clear hsz0
  have hb1 : Below W.heap.size W (((W.alloc (.cells #[.int .i64 x] 3)).alloc (.cells #[.slice la n lc, .slice (some ⟨W.heap.size, 0, none⟩) 1 1] 31)).drew) := (push (push (Below.refl _ W) _) _).drew
  have hl1 : (((W.alloc (.cells #[.int .i64 x] 3)).alloc (.cells #[.slice la n lc, .slice (some ⟨W.heap.size, 0, none⟩) 1 1] 31)).drew).heap[W.heap.size + 1]? = some (.cells #[.slice la n lc, .slice (some ⟨W.heap.size, 0, none⟩) 1 1] 31 (0, 0)) := blk_drew (by simpa using heap_alloc_new (W.alloc _) _)
  have hl2 : (((W.alloc (.cells #[.int .i64 x] 3)).alloc (.cells #[.slice la n lc, .slice (some ⟨W.heap.size, 0, none⟩) 1 1] 31)).drew).heap[W.heap.size]? = some (.cells #[.int .i64 x] 3 (0, 0)) := blk_drew (blk_alloc (heap_alloc_new W _) _)
  have cc := concat_legs (W.heap.size + 1) W.heap.size la n lc ls x (((W.alloc (.cells #[.int .i64 x] 3)).alloc (.cells #[.slice la n lc, .slice (some ⟨W.heap.size, 0, none⟩) 1 1] 31)).drew) HL.out hn hl1 (hx.below (after hb0 hb1)) (blk_cell hl2 0 _ rfl) hna
  have CC : Hid _ := cc
  have keepS : Hid (∀ w', Kept W w' (fun b => b = w.heap.size + 1 + 1) → w'.cell? ⟨w.heap.size, 0, none⟩ = some (.slice la n lc) ∧ w'.cell? ⟨w.heap.size + 1, 0, none⟩ = some (.int .i64 x) ∧ w'.cell? ⟨w.heap.size + 1, 2, none⟩ = some (.string tt) ∧ w'.cell? ⟨w.heap.size + 1, 4, none⟩ = some (.int .i64 a)) :=
    fun w' hk => ⟨blk_cell (hk.blk hr0 (by omega)) 0 _ rfl, blk_cell (hk.blk hs0 (by omega)) 0 _ rfl, blk_cell (hk.blk hs0 (by omega)) 2 _ rfl, blk_cell (hk.blk hs0 (by omega)) 4 _ rfl⟩
  have KD : Hid (Kept W W.drew (fun b => b = w.heap.size + 1 + 1)) := Kept.of_below (Below.refl _ _).drew
  have KP : Hid (∀ o, Kept W (W.alloc o) (fun b => b = w.heap.size + 1 + 1)) := fun o => Kept.of_below (push (Below.refl _ _) _)
  have KPD : Hid (∀ o, Kept W (W.alloc o).drew (fun b => b = w.heap.size + 1 + 1)) := fun o => Kept.of_below (push (Below.refl _ _) _).drew
  have KPP : Hid (∀ o p, Kept W ((W.alloc o).alloc p) (fun b => b = w.heap.size + 1 + 1)) := fun o p => Kept.of_below (push (push (Below.refl _ _) _) _)
  have KPPD : Hid (∀ o p, Kept W ((W.alloc o).alloc p).drew (fun b => b = w.heap.size + 1 + 1)) := fun o p => Kept.of_below (push (push (Below.refl _ _) _) _).drew
  have KS : Hid (∀ w', Kept W w' (fun b => b = w.heap.size + 1 + 1) → ∀ u1 u2 u3, Kept W (((w'.setCell ⟨w.heap.size + 1 + 1, 0, none⟩ u1).setCell ⟨w.heap.size + 1 + 1, 1, none⟩ u2).setCell ⟨w.heap.size + 1 + 1, 2, none⟩ u3) (fun b => b = w.heap.size + 1 + 1)) := fun w' hk u1 u2 u3 => ((hk.set (a := ⟨w.heap.size + 1 + 1, 0, none⟩) rfl _).set (a := ⟨w.heap.size + 1 + 1, 1, none⟩) rfl _).set (a := ⟨w.heap.size + 1 + 1, 2, none⟩) rfl _
  have q0 := blk_cell hr0 0 _ rfl
  have q1 := blk_cell hs0 0 _ rfl
  have q2 := blk_cell hs0 2 _ rfl
  have q3 := blk_cell hs0 4 _ rfl
  have HB1 : Hid (Below W.heap.size W (((W.alloc (.cells #[.int .i64 x] 3)).alloc (.cells #[.slice la n lc, .slice (some ⟨W.heap.size, 0, none⟩) 1 1] 31)).drew)) := hb1
  have HZ : Hid (W.heap[w.heap.size + 1 + 1]? = some (.cells #[.slice none 0 0, .string ⟨#[]⟩, .int .i64 0] 227 (0, 0))) := hz0
  have HB0 : Hid (Below w.heap.size w W) := hb0
  clear cc hl1 hl2 hb1 hr0 hs0 hz0 hb0 hx
  go_region_held3 (fun w' => w'.cell? ⟨w.heap.size, 0, none⟩ = some (.slice la n lc) ∧ w'.cell? ⟨w.heap.size + 1, 0, none⟩ = some (.int .i64 x) ∧ w'.cell? ⟨w.heap.size + 1, 2, none⟩ = some (.string tt) ∧ w'.cell? ⟨w.heap.size + 1, 4, none⟩ = some (.int .i64 a))
    (first | with_reducible exact ⟨q0, q1, q2, q3⟩ | with_reducible exact keepS.out _ KD.out | with_reducible exact keepS.out _ (KP.out _) | with_reducible exact keepS.out _ (KPD.out _) | with_reducible exact keepS.out _ (KPP.out _ _) | with_reducible exact keepS.out _ (KPPD.out _ _) | with_reducible exact keepS.out _ (Kept.of_below (after HB1.out hb3)) | with_reducible exact keepS.out _ (KS.out _ (Kept.of_below (after HB1.out hb3)) _ _ _))
    (first | (go_at_call 179; refine Calls.mono CC.out ?_; rintro e w3 ⟨⟨aC, cC, rfl, ho⟩, hb3⟩; have z3 := blk_below HZ.out (after HB1.out hb3); have o0 := blk_cell z3 0 _ rfl; have o1 := blk_cell z3 1 _ rfl; have o2 := blk_cell z3 2 _ rfl; have f0 := blk_free z3 0; have f1 := blk_free z3 1; have f2 := blk_free z3 2))
  go_wp2
  clear q0 q1 q2 q3 o0 o1 o2 f0 f1 f2
  have hBs : w.heap.size + 1 + 1 < (((W.alloc (.cells #[.int .i64 x] 3)).alloc (.cells #[.slice la n lc, .slice (some ⟨W.heap.size, 0, none⟩) 1 1] 31)).drew).heap.size := by
    have h1 := HB1.out.size
    have h2 := HSZ.out
    omega
  have rF := blk_set (blk_set (blk_set z3 0 (.slice aC (n + 1) cC)) 1 (.string tt)) 2 (.int .i64 a)
  have y0 := blk_cell rF 0 _ rfl
  have y1 := blk_cell rF 1 _ rfl
  have y2 := blk_cell rF 2 _ rfl
  refine bodyPost_ret (v := .agg #[.slice aC (n + 1) cC, .string tt, .int .i64 a]) (by simp [results, Tryz.results173, go_sem, y0, y1, y2]) rfl ⟨aC, cC, rfl, ?_, ?_⟩
  · exact own_base (own_set (own_set (own_set ho (by show w.heap.size + 1 + 1 < _; exact hBs) _) (by show w.heap.size + 1 + 1 < _; exact hBs) _) (by show w.heap.size + 1 + 1 < _; exact hBs) _) (by omega)
  · have hb := after HB0.out (after HB1.out hb3)
    exact ((hb.setCell (by show w.heap.size ≤ w.heap.size + 1 + 1; omega) _).setCell (by show w.heap.size ≤ w.heap.size + 1 + 1; omega) _).setCell (by show w.heap.size ≤ w.heap.size + 1 + 1; omega) _
theorem findSailing_any (ao : Option Addr) (N c : Nat) (S : Nat → Sail) (x : Int) (w : World) (hN : N ≤ 1048576) (hx : SailsAt w ao N S) :
    Calls Tryz.prog 171 #[.slice ao N c, .int .i64 x] w fun e w' => ((findIx S x N < N ∧ e = .returned (.tuple #[.int .i64 (findIx S x N), .bool true])) ∨ (findIx S x N = N ∧ e = .returned (.tuple #[.int .i64 0, .bool false]))) ∧ Below w.heap.size w w' := by
  go_enter Tryz.func171, Tryz.ntmps171
  go_wp2
  go_loopw [6, 7, 10] (fun _ _ i wr => ∃ k : Nat, k ≤ N ∧ i = .int .i64 k ∧ (∀ j, j < k → (S j).id ≠ x) ∧ Below w.heap.size w wr) (fun _ _ i _ => N - (intOf i).toNat)
  case atStart => exact ⟨0, Nat.zero_le _, rfl, fun j hj => by omega, Below.refl _ _⟩
  case round =>
    obtain ⟨k, hk, rfl, hall, hbel⟩ := hrel
    have HA : Hid (∀ j, j < k → (S j).id ≠ x) := hall
    clear hall
    by_cases hlt : k < N
    · obtain ⟨b, off, la, lc, ca, cc, rfl, h0, h1, h2, h3, h4, h5, h6, h7, _, _, _, _⟩ := hx k hlt
      have hb := World.block_lt_of_cell? w _ h1
      have c0 := (hbel.cell (p := ⟨b, off + k * 8, none⟩) hb).trans h0
      have c1 := (hbel.cell (p := ⟨b, off + k * 8 + 1, none⟩) hb).trans h1
      have c2 := (hbel.cell (p := ⟨b, off + k * 8 + 2, none⟩) hb).trans h2
      have c3 := (hbel.cell (p := ⟨b, off + k * 8 + 3, none⟩) hb).trans h3
      have c4 := (hbel.cell (p := ⟨b, off + k * 8 + 4, none⟩) hb).trans h4
      have c5 := (hbel.cell (p := ⟨b, off + k * 8 + 5, none⟩) hb).trans h5
      have c6 := (hbel.cell (p := ⟨b, off + k * 8 + 6, none⟩) hb).trans h6
      have c7 := (hbel.cell (p := ⟨b, off + k * 8 + 7, none⟩) hb).trans h7
      clear h0 h1 h2 h3 h4 h5 h6 h7
      by_cases he : (S k).id = x
      · have e1 : ((S k).id == x) = true := by simpa using he
        have HF : Hid (findIx S x N = k) := findIx_is hlt he HA.out
        clear he
        go_wp2
        exact bodyPost_ret (v := .tuple #[.int .i64 k, .bool true]) (by simp [results, Tryz.results171, go_sem]) rfl ⟨.inl ⟨by rw [HF.out]; exact hlt, by rw [HF.out]⟩, push hbel _⟩
      · have e1 : ((S k).id == x) = false := by simpa using he
        have HE : Hid ((S k).id ≠ x) := he
        clear he
        go_wp2
        go_roundw
        case rel => exact ⟨k + 1, by omega, by go_num, fun j hj => by
          by_cases e : j = k
          · subst e; exact HE.out
          · exact HA.out j (by omega), push hbel _⟩
        case measure => simp [intOf]; omega
    · obtain rfl : k = N := by omega
      have HF : Hid (findIx S x k = k) := findIx_none HA.out
      go_wp2
      exact bodyPost_ret (v := .tuple #[.int .i64 0, .bool false]) (by simp [results, Tryz.results171, go_sem]) rfl ⟨.inr ⟨HF.out, rfl⟩, hbel⟩
end Go.Proofs.YtlelckbeoclhbaaGreat
