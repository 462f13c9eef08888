/-
  OWN TEXT: SpecS, KitG, SpecT, PlainF, PlainH2.
-/
import Derived.Deep.LoopGhost
import Derived.Deep.DeepCutAuto
import Derived.BigQuiet
import Derived.Test.YtfallpinmhbemaaGreatDoorB07
import Derived.Test.YtfallpinmhbemaaGreatDoorB00
import Derived.Test.YtfallpinmhbemaaGreatDoorB02
import Derived.Test.YtfallpinmhbemaaGreatDoorB01
namespace Go.Proofs.YtfallpinmhbemaaGreatDoor
open Go.RowKit

/-- All but the lanes and cabins themselves. -/
def SailHead (x d a mo : Int) (fr tt : ByteArray) (n m : Nat) : Prop :=
  In x 1 99 ∧ IsName fr ∧ IsName tt ∧ fr ≠ tt ∧ In d 0 10000 ∧ In a (d + 1) 10000 ∧ n ≤ 4 ∧ m ≤ 6 ∧ In mo 0 500
theorem good_of_head {x d a mo : Int} {fr tt : ByteArray} {n m : Nat} {l1 l2 : Pairs} (e1 : l1.n = n) (e2 : l2.n = m) : GoodSail ⟨x, fr, tt, d, a, l1, l2, mo⟩ ↔ SailHead x d a mo fr tt n m ∧ (∀ k, k < n → In (l1.A k) 1 5000 ∧ In (l1.B k) 100 500) ∧ (∀ k, k < m → In (l2.A k) 1 3 ∧ In (l2.B k) 1 4) := by
  subst e1 e2
  unfold GoodSail SailHead GoodPairs In
  simp only
  constructor
  · rintro ⟨h1, h2, h3, h4, h5, h6, h7, h8, h9, h10⟩
    exact ⟨⟨h1, h2, h3, h4, ⟨h5, by omega⟩, ⟨by omega, h7⟩, h8.1, h9.1, h10⟩, h8.2, h9.2⟩
  · rintro ⟨⟨h1, h2, h3, h4, h5, h6, h7, h8, h9⟩, h10, h11⟩
    exact ⟨h1, h2, h3, h4, h5.1, by omega, h6.2, ⟨h7, h10⟩, ⟨h8, h11⟩, h9⟩

set_option maxHeartbeats 4000000 in
set_option maxRecDepth 100000 in
theorem specSailing_any (x d a mo : Int) (fr tt : ByteArray) (lo co : Option Addr) (n m c1 c2 : Nat) (l1 l2 : Pairs) (w : World) (e1 : l1.n = n) (e2 : l2.n = m) (hfr : fr.size ≤ 1000000000000000) (hto : tt.size ≤ 1000000000000000) (hn : n ≤ 1048576) (hm : m ≤ 1048576) (hx : PairsAt w lo l1) (hy : PairsAt w co l2) :
    Calls Tryz.prog 26 #[.agg #[.int .i64 x, .string fr, .string tt, .int .i64 d, .int .i64 a, .slice lo n c1, .slice co m c2, .int .i64 mo]] w fun e w' => SaysIf (GoodSail ⟨x, fr, tt, d, a, l1, l2, mo⟩) e ∧ Below w.heap.size w w' := by
  have hb0 : Below w.heap.size w (w.alloc (.cells #[.int .i64 x, .string fr, .string tt, .int .i64 d, .int .i64 a, .slice lo n c1, .slice co m c2, .int .i64 mo] 37)) := push (Below.refl _ _) _
  have A0 := heap_alloc_new w (.cells #[.int .i64 x, .string fr, .string tt, .int .i64 d, .int .i64 a, .slice lo n c1, .slice co m c2, .int .i64 mo] 37)
  have E1 : Hid (l1.n = n) := e1
  have E2 : Hid (l2.n = m) := e2
  have HG0 := good_of_head (x := x) (d := d) (a := a) (mo := mo) (fr := fr) (tt := tt) e1 e2
  have HG : Hid _ := HG0
  clear e1 e2 HG0
  by_cases g1 : In x 1 99
  case neg =>
    have fg1 : decide (In x 1 99) = false := decide_eq_false g1
    have HN : Hid (¬ GoodSail ⟨x, fr, tt, d, a, l1, l2, mo⟩) := fun h => g1 ((fun h => h.1) (HG.out.1 h).1)
    clear g1
    go_enter Tryz.func26, Tryz.ntmps26
    go_wp2_with (first | (go_at_call 19; refine (l1In_is _ _ _ _).mono ?_; rintro e w' ⟨rfl, hw'⟩; have hw' := hw'.symm; subst hw') | (go_at_call 42; refine (l1Name_is _ _ (by first | exact hfr | exact hto)).mono ?_; rintro e w' ⟨rfl, hw'⟩; have hw' := hw'.symm; subst hw'))
    go_ret
    exact ⟨says_no HN.out, hb0⟩
  have fg1 : decide (In x 1 99) = true := decide_eq_true g1
  by_cases g2 : IsName fr
  case neg =>
    have fg2 : decide (IsName fr) = false := decide_eq_false g2
    have HN : Hid (¬ GoodSail ⟨x, fr, tt, d, a, l1, l2, mo⟩) := fun h => g2 ((fun h => h.2.1) (HG.out.1 h).1)
    clear g1 g2
    go_enter Tryz.func26, Tryz.ntmps26
    go_wp2_with (first | (go_at_call 19; refine (l1In_is _ _ _ _).mono ?_; rintro e w' ⟨rfl, hw'⟩; have hw' := hw'.symm; subst hw') | (go_at_call 42; refine (l1Name_is _ _ (by first | exact hfr | exact hto)).mono ?_; rintro e w' ⟨rfl, hw'⟩; have hw' := hw'.symm; subst hw'))
    go_ret
    exact ⟨says_no HN.out, hb0⟩
  have fg2 : decide (IsName fr) = true := decide_eq_true g2
  by_cases g3 : IsName tt
  case neg =>
    have fg3 : decide (IsName tt) = false := decide_eq_false g3
    have HN : Hid (¬ GoodSail ⟨x, fr, tt, d, a, l1, l2, mo⟩) := fun h => g3 ((fun h => h.2.2.1) (HG.out.1 h).1)
    clear g1 g2 g3
    go_enter Tryz.func26, Tryz.ntmps26
    go_wp2_with (first | (go_at_call 19; refine (l1In_is _ _ _ _).mono ?_; rintro e w' ⟨rfl, hw'⟩; have hw' := hw'.symm; subst hw') | (go_at_call 42; refine (l1Name_is _ _ (by first | exact hfr | exact hto)).mono ?_; rintro e w' ⟨rfl, hw'⟩; have hw' := hw'.symm; subst hw'))
    go_ret
    exact ⟨says_no HN.out, hb0⟩
  have fg3 : decide (IsName tt) = true := decide_eq_true g3
  by_cases g4 : fr ≠ tt
  case neg =>
    have fg4 : (fr.toList == tt.toList) = true := bytes_eq.2 (by simpa using g4)
    have HN : Hid (¬ GoodSail ⟨x, fr, tt, d, a, l1, l2, mo⟩) := fun h => g4 ((fun h => h.2.2.2.1) (HG.out.1 h).1)
    clear g1 g2 g3 g4
    go_enter Tryz.func26, Tryz.ntmps26
    go_wp2_with (first | (go_at_call 19; refine (l1In_is _ _ _ _).mono ?_; rintro e w' ⟨rfl, hw'⟩; have hw' := hw'.symm; subst hw') | (go_at_call 42; refine (l1Name_is _ _ (by first | exact hfr | exact hto)).mono ?_; rintro e w' ⟨rfl, hw'⟩; have hw' := hw'.symm; subst hw'))
    go_ret
    exact ⟨says_no HN.out, hb0⟩
  have fg4 : (fr.toList == tt.toList) = false := bytes_ne.2 g4
  by_cases g5 : In d 0 10000
  case neg =>
    have fg5 : decide (In d 0 10000) = false := decide_eq_false g5
    have HN : Hid (¬ GoodSail ⟨x, fr, tt, d, a, l1, l2, mo⟩) := fun h => g5 ((fun h => h.2.2.2.2.1) (HG.out.1 h).1)
    clear g1 g2 g3 g4 g5
    go_enter Tryz.func26, Tryz.ntmps26
    go_wp2_with (first | (go_at_call 19; refine (l1In_is _ _ _ _).mono ?_; rintro e w' ⟨rfl, hw'⟩; have hw' := hw'.symm; subst hw') | (go_at_call 42; refine (l1Name_is _ _ (by first | exact hfr | exact hto)).mono ?_; rintro e w' ⟨rfl, hw'⟩; have hw' := hw'.symm; subst hw'))
    go_ret
    exact ⟨says_no HN.out, hb0⟩
  have fg5 : decide (In d 0 10000) = true := decide_eq_true g5
  have hwr : IntKind.i64.wrap (d + 1) = d + 1 := by have := g5.1; have := g5.2; rw [IntKind.wrap_i64]; omega
  by_cases g6 : In a (d + 1) 10000
  case neg =>
    have fg6 : decide (In a (d + 1) 10000) = false := decide_eq_false g6
    have HN : Hid (¬ GoodSail ⟨x, fr, tt, d, a, l1, l2, mo⟩) := fun h => g6 ((fun h => h.2.2.2.2.2.1) (HG.out.1 h).1)
    clear g1 g2 g3 g4 g5 g6
    go_enter Tryz.func26, Tryz.ntmps26
    go_wp2_with (first | (go_at_call 19; refine (l1In_is _ _ _ _).mono ?_; rintro e w' ⟨rfl, hw'⟩; have hw' := hw'.symm; subst hw') | (go_at_call 42; refine (l1Name_is _ _ (by first | exact hfr | exact hto)).mono ?_; rintro e w' ⟨rfl, hw'⟩; have hw' := hw'.symm; subst hw'))
    go_ret
    exact ⟨says_no HN.out, hb0⟩
  have fg6 : decide (In a (d + 1) 10000) = true := decide_eq_true g6
  by_cases g7 : n ≤ 4
  case neg =>
    have fg7 : decide (4 < n) = true := by simp; omega
    have HN : Hid (¬ GoodSail ⟨x, fr, tt, d, a, l1, l2, mo⟩) := fun h => g7 ((fun h => h.2.2.2.2.2.2.1) (HG.out.1 h).1)
    clear g1 g2 g3 g4 g5 g6
    go_enter Tryz.func26, Tryz.ntmps26
    go_wp2_with (first | (go_at_call 19; refine (l1In_is _ _ _ _).mono ?_; rintro e w' ⟨rfl, hw'⟩; have hw' := hw'.symm; subst hw') | (go_at_call 42; refine (l1Name_is _ _ (by first | exact hfr | exact hto)).mono ?_; rintro e w' ⟨rfl, hw'⟩; have hw' := hw'.symm; subst hw'))
    go_ret
    exact ⟨says_no HN.out, hb0⟩
  have fg7 : decide (4 < n) = false := by simp; omega
  by_cases g8 : m ≤ 6
  case neg =>
    have fg8 : decide (6 < m) = true := by simp; omega
    have HN : Hid (¬ GoodSail ⟨x, fr, tt, d, a, l1, l2, mo⟩) := fun h => g8 ((fun h => h.2.2.2.2.2.2.2.1) (HG.out.1 h).1)
    clear g1 g2 g3 g4 g5 g6
    go_enter Tryz.func26, Tryz.ntmps26
    go_wp2_with (first | (go_at_call 19; refine (l1In_is _ _ _ _).mono ?_; rintro e w' ⟨rfl, hw'⟩; have hw' := hw'.symm; subst hw') | (go_at_call 42; refine (l1Name_is _ _ (by first | exact hfr | exact hto)).mono ?_; rintro e w' ⟨rfl, hw'⟩; have hw' := hw'.symm; subst hw'))
    go_ret
    exact ⟨says_no HN.out, hb0⟩
  have fg8 : decide (6 < m) = false := by simp; omega
  by_cases g9 : In mo 0 500
  case neg =>
    have fg9 : decide (In mo 0 500) = false := decide_eq_false g9
    have HN : Hid (¬ GoodSail ⟨x, fr, tt, d, a, l1, l2, mo⟩) := fun h => g9 ((fun h => h.2.2.2.2.2.2.2.2) (HG.out.1 h).1)
    clear g1 g2 g3 g4 g5 g6 g9
    go_enter Tryz.func26, Tryz.ntmps26
    go_wp2_with (first | (go_at_call 19; refine (l1In_is _ _ _ _).mono ?_; rintro e w' ⟨rfl, hw'⟩; have hw' := hw'.symm; subst hw') | (go_at_call 42; refine (l1Name_is _ _ (by first | exact hfr | exact hto)).mono ?_; rintro e w' ⟨rfl, hw'⟩; have hw' := hw'.symm; subst hw'))
    go_ret
    exact ⟨says_no HN.out, hb0⟩
  have fg9 : decide (In mo 0 500) = true := decide_eq_true g9
  have HH : Hid (SailHead x d a mo fr tt n m) := ⟨g1, g2, g3, g4, g5, g6, g7, g8, g9⟩
  clear g1 g2 g3 g4 g5 g6 g9
  go_enter Tryz.func26, Tryz.ntmps26
  go_wp2_with (first | (go_at_call 19; refine (l1In_is _ _ _ _).mono ?_; rintro e w' ⟨rfl, hw'⟩; have hw' := hw'.symm; subst hw') | (go_at_call 42; refine (l1Name_is _ _ (by first | exact hfr | exact hto)).mono ?_; rintro e w' ⟨rfl, hw'⟩; have hw' := hw'.symm; subst hw'))
  go_loopw [4, 66] (fun _ i wr => ∃ k : Nat, k ≤ n ∧ i = .int .i64 k ∧ (∀ j, j < k → In (l1.A j) 1 5000 ∧ In (l1.B j) 100 500) ∧ Below (w.alloc (.cells #[.int .i64 x, .string fr, .string tt, .int .i64 d, .int .i64 a, .slice lo n c1, .slice co m c2, .int .i64 mo] 37)).heap.size (w.alloc (.cells #[.int .i64 x, .string fr, .string tt, .int .i64 d, .int .i64 a, .slice lo n c1, .slice co m c2, .int .i64 mo] 37)) wr) (fun _ i _ => n - (intOf i).toNat)
  case atStart => exact ⟨0, Nat.zero_le _, rfl, fun j hj => by omega, Below.refl _ _⟩
  case round =>
    obtain ⟨k, hk, rfl, hall, hbel⟩ := hrel
    have HA : Hid (∀ j, j < k → In (l1.A j) 1 5000 ∧ In (l1.B j) 100 500) := hall
    have A1 := blk_below A0 hbel
    have hbel2 := hbel
    have hb1 := after hb0 hbel
    clear hall fg1 fg2 fg3 fg4 fg5 fg6 fg7 fg8 fg9 hwr hb0 A0 hbel
    by_cases hlt : k < n
    · obtain ⟨b, off, rfl, h1, h2⟩ := hx k (by rw [E1.out]; omega)
      have hb := World.block_lt_of_cell? w _ h1
      have c1 := (hb1.cell (p := ⟨b, off + k * 2, none⟩) hb).trans h1
      have c2 := (hb1.cell (p := ⟨b, off + k * 2 + 1, none⟩) hb).trans h2
      clear h1 h2
      by_cases g1 : In (l1.A k) 1 5000
      · have e1 : decide (In (l1.A k) 1 5000) = true := decide_eq_true g1
        by_cases g2 : In (l1.B k) 100 500
        · have e2 : decide (In (l1.B k) 100 500) = true := decide_eq_true g2
          have HK : Hid (In (l1.A k) 1 5000 ∧ In (l1.B k) 100 500) := ⟨g1, g2⟩
          clear g1 g2
          go_wp2_with (first | (go_at_call 19; refine (l1In_is _ _ _ _).mono ?_; rintro e w' ⟨rfl, hw'⟩; have hw' := hw'.symm; subst hw'))
          go_roundw
          case rel => exact ⟨k + 1, by omega, by go_num, fun j hj => by
            by_cases e : j = k
            · subst e; exact HK.out
            · exact HA.out j (by omega), push hbel2 _⟩
          case measure => simp [intOf]; omega
        · have e2 : decide (In (l1.B k) 100 500) = false := decide_eq_false g2
          have HK : Hid (¬ In (l1.B k) 100 500) := g2
          clear g1 g2
          go_wp2_with (first | (go_at_call 19; refine (l1In_is _ _ _ _).mono ?_; rintro e w' ⟨rfl, hw'⟩; have hw' := hw'.symm; subst hw'))
          go_ret
          exact ⟨says_no (fun h => HK.out ((HG.out.1 h).2.1 k hlt).2), push hb1 _⟩
      · have e1 : decide (In (l1.A k) 1 5000) = false := decide_eq_false g1
        have HK : Hid (¬ In (l1.A k) 1 5000) := g1
        clear g1
        go_wp2_with (first | (go_at_call 19; refine (l1In_is _ _ _ _).mono ?_; rintro e w' ⟨rfl, hw'⟩; have hw' := hw'.symm; subst hw'))
        go_ret
        exact ⟨says_no (fun h => HK.out ((HG.out.1 h).2.1 k hlt).1), push hb1 _⟩
    · obtain rfl : k = n := by omega
      have q6 := blk_cell A1 6 _ rfl
      go_wp2
      go_loopw [6, 84] (fun _ i wx => ∃ k : Nat, k ≤ m ∧ i = .int .i64 k ∧ (∀ j, j < k → In (l2.A j) 1 3 ∧ In (l2.B j) 1 4) ∧ Below w.heap.size w wx) (fun _ i _ => m - (intOf i).toNat)
      case atStart => exact ⟨0, Nat.zero_le _, rfl, fun j hj => by omega, hb1⟩
      case round =>
        obtain ⟨q, hq, rfl, hall, hbq⟩ := hrel
        have HB : Hid (∀ j, j < q → In (l2.A j) 1 3 ∧ In (l2.B j) 1 4) := hall
        clear hall q6 A1 hb1
        by_cases hlt2 : q < m
        · obtain ⟨b, off, rfl, h1, h2⟩ := hy q (by rw [E2.out]; omega)
          have hb := World.block_lt_of_cell? w _ h1
          have c1 := (hbq.cell (p := ⟨b, off + q * 2, none⟩) hb).trans h1
          have c2 := (hbq.cell (p := ⟨b, off + q * 2 + 1, none⟩) hb).trans h2
          clear h1 h2
          by_cases g1 : In (l2.A q) 1 3
          · have e1 : decide (In (l2.A q) 1 3) = true := decide_eq_true g1
            by_cases g2 : In (l2.B q) 1 4
            · have e2 : decide (In (l2.B q) 1 4) = true := decide_eq_true g2
              have HK : Hid (In (l2.A q) 1 3 ∧ In (l2.B q) 1 4) := ⟨g1, g2⟩
              clear g1 g2
              go_wp2_with (first | (go_at_call 19; refine (l1In_is _ _ _ _).mono ?_; rintro e w' ⟨rfl, hw'⟩; have hw' := hw'.symm; subst hw'))
              go_roundw
              case rel => exact ⟨q + 1, by omega, by go_num, fun j hj => by
                by_cases e : j = q
                · subst e; exact HK.out
                · exact HB.out j (by omega), push hbq _⟩
              case measure => simp [intOf]; omega
            · have e2 : decide (In (l2.B q) 1 4) = false := decide_eq_false g2
              have HK : Hid (¬ In (l2.B q) 1 4) := g2
              clear g1 g2
              go_wp2_with (first | (go_at_call 19; refine (l1In_is _ _ _ _).mono ?_; rintro e w' ⟨rfl, hw'⟩; have hw' := hw'.symm; subst hw'))
              go_ret
              exact ⟨says_no (fun h => HK.out ((HG.out.1 h).2.2 q hlt2).2), push hbq _⟩
          · have e1 : decide (In (l2.A q) 1 3) = false := decide_eq_false g1
            have HK : Hid (¬ In (l2.A q) 1 3) := g1
            clear g1
            go_wp2_with (first | (go_at_call 19; refine (l1In_is _ _ _ _).mono ?_; rintro e w' ⟨rfl, hw'⟩; have hw' := hw'.symm; subst hw'))
            go_ret
            exact ⟨says_no (fun h => HK.out ((HG.out.1 h).2.2 q hlt2).1), push hbq _⟩
        · obtain rfl : q = m := by omega
          go_wp2
          go_ret
          exact ⟨says_yes (HG.out.2 ⟨HH.out, HA.out, HB.out⟩), hbq⟩

end Go.Proofs.YtfallpinmhbemaaGreatDoor

namespace Go.Proofs.YtfallpinmhbemaaGreatDoor
open Go.RowKit

/-- A world that has grown out of W: nothing that was there is written. -/
structure Grown (W : World) where
  val : World
  bel : Below W.heap.size W val
instance (W : World) : Nonempty (Grown W) := ⟨⟨W, Below.refl _ _⟩⟩

theorem wp_region_grow {P : Program} {id : Nat} {Q : Exit → Act → World → Prop} {a : Act} {w : World} {l : List Oper} (hm : P.follows .mixedOrders = true) (hB : Region.lexB .any l.toArray = true)
    (h : wpQuiet P l.toArray (fun w' => ∃ g : Grown w, w' = g.val) (fun a' => ∀ w', (∃ g : Grown w, w' = g.val) → Q .normal a' w') l a) : (Code.region id l.toArray true).wp P Q a w :=
  wp_region_quiet (C := fun w' => ∃ g : Grown w, w' = g.val) hm hB ⟨⟨_, (Below.refl _ w).drew⟩, rfl⟩ (by simpa using h)

theorem grown_call {P : Program} {f : FuncId} {args : Array Value} {W : World} {g : Grown W} {v : Value}
    (h : Calls P f args g.val fun e w' => e = .returned v ∧ Below g.val.heap.size g.val w') : Calls P f args g.val fun e w'' => e = .returned v ∧ ∃ g' : Grown W, w'' = g'.val :=
  h.mono fun _ w' ⟨he, hb⟩ => ⟨he, ⟨w', after g.bel hb⟩, rfl⟩

end Go.Proofs.YtfallpinmhbemaaGreatDoor

namespace Go.Proofs.YtfallpinmhbemaaGreatDoor
open Go.RowKit

set_option maxHeartbeats 3200000 in
set_option maxRecDepth 100000 in
theorem specTab_any (ao : Option Addr) (N c : Nat) (S : Nat → Sail) (w : World) (hN : N ≤ 1048576) (hs : ShortAll N S 1048576) (hx : SailsAt w ao N S) :
    Calls Tryz.prog 100 #[.slice ao N c] w fun e w' => SaysIf (GoodTab N S) e ∧ Below w.heap.size w w' := by
  have HS : Hid (ShortAll N S 1048576) := hs
  clear hs
  by_cases h6 : N ≤ 6
  · have d6 : decide (6 < N) = false := by simp; omega
    go_enter Tryz.func100, Tryz.ntmps100
    go_wp2
    go_loopw [3, 4, 10] (fun _ _ i wr => ∃ k : Nat, k ≤ N ∧ i = .int .i64 k ∧ (∀ j, j < k → GoodSail (S j) ∧ (0 < j → (S (j - 1)).id < (S j).id)) ∧ Below w.heap.size w wr) (fun _ _ i _ => N - (intOf i).toNat)
    case atStart => exact ⟨0, Nat.zero_le _, rfl, fun j hj => by omega, Below.refl _ _⟩
    case round =>
      obtain ⟨k, hk, rfl, hall, hbel⟩ := hrel
      have HA : Hid (∀ j, j < k → GoodSail (S j) ∧ (0 < j → (S (j - 1)).id < (S j).id)) := hall
      clear hall d6
      by_cases hlt : k < N
      · have HP : Hid (0 < k → ∀ b off, ao = some ⟨b, off, none⟩ → w.cell? ⟨b, off + (k - 1) * 8, none⟩ = some (.int .i64 (S (k - 1)).id)) := by
          intro h b off e
          obtain ⟨b', off', _, _, _, _, e', g, _⟩ := hx (k - 1) (by omega)
          rw [e] at e'
          simp only [Option.some.injEq, Addr.mk.injEq, and_true] at e'
          obtain ⟨rfl, rfl⟩ := e'
          exact g
        obtain ⟨b, off, la, lc, ca, cc, rfl, h0, h1, h2, h3, h4, h5, h6', h7, h8, h9, _, _⟩ := hx k hlt
        have HP2 : Hid (0 < k → w.cell? ⟨b, off + (k - 1) * 8, none⟩ = some (.int .i64 (S (k - 1)).id)) := fun h => HP.out h b off rfl
        clear HP
        have hb := World.block_lt_of_cell? w _ h1
        have c0 := (hbel.cell (p := ⟨b, off + k * 8, none⟩) hb).trans h0
        have c1 := (hbel.cell (p := ⟨b, off + k * 8 + 1, none⟩) hb).trans h1
        have c2 := (hbel.cell (p := ⟨b, off + k * 8 + 2, none⟩) hb).trans h2
        have c3 := (hbel.cell (p := ⟨b, off + k * 8 + 3, none⟩) hb).trans h3
        have c4 := (hbel.cell (p := ⟨b, off + k * 8 + 4, none⟩) hb).trans h4
        have c5 := (hbel.cell (p := ⟨b, off + k * 8 + 5, none⟩) hb).trans h5
        have c6 := (hbel.cell (p := ⟨b, off + k * 8 + 6, none⟩) hb).trans h6'
        have c7 := (hbel.cell (p := ⟨b, off + k * 8 + 7, none⟩) hb).trans h7
        obtain ⟨s1, s2, s3, s4⟩ := HS.out k hlt
        have s1' : (S k).fr.size ≤ 1000000000000000 := by omega
        have s2' : (S k).dst.size ≤ 1000000000000000 := by omega
        clear s1 s2
        have hbx := push hbel (.cells #[.int .i64 (S k).id, .string (S k).fr, .string (S k).dst, .int .i64 (S k).dep, .int .i64 (S k).arr, .slice la (S k).la.n lc, .slice ca (S k).ca.n cc, .int .i64 (S k).most] 37)
        have hbox := heap_alloc_new wr (.cells #[.int .i64 (S k).id, .string (S k).fr, .string (S k).dst, .int .i64 (S k).dep, .int .i64 (S k).arr, .slice la (S k).la.n lc, .slice ca (S k).ca.n cc, .int .i64 (S k).most] 37)
        clear h0 h1 h2 h3 h4 h5 h6' h7
        go_upto_region 6 with fail
        generalize hW : wr.alloc (.cells #[.int .i64 (S k).id, .string (S k).fr, .string (S k).dst, .int .i64 (S k).dep, .int .i64 (S k).arr, .slice la (S k).la.n lc, .slice ca (S k).ca.n cc, .int .i64 (S k).most] 37) = W at hbx hbox ⊢
        clear hW
        have hrW : wr.heap.size < W.heap.size := blk_lt hbox
        have z0 : ∀ g : Grown W, g.val.cell? ⟨wr.heap.size, 0, none⟩ = _ := fun g => (g.bel.cell hrW).trans (blk_cell hbox 0 _ rfl)
        have z1 : ∀ g : Grown W, g.val.cell? ⟨wr.heap.size, 1, none⟩ = _ := fun g => (g.bel.cell hrW).trans (blk_cell hbox 1 _ rfl)
        have z2 : ∀ g : Grown W, g.val.cell? ⟨wr.heap.size, 2, none⟩ = _ := fun g => (g.bel.cell hrW).trans (blk_cell hbox 2 _ rfl)
        have z3 : ∀ g : Grown W, g.val.cell? ⟨wr.heap.size, 3, none⟩ = _ := fun g => (g.bel.cell hrW).trans (blk_cell hbox 3 _ rfl)
        have z4 : ∀ g : Grown W, g.val.cell? ⟨wr.heap.size, 4, none⟩ = _ := fun g => (g.bel.cell hrW).trans (blk_cell hbox 4 _ rfl)
        have z5 : ∀ g : Grown W, g.val.cell? ⟨wr.heap.size, 5, none⟩ = _ := fun g => (g.bel.cell hrW).trans (blk_cell hbox 5 _ rfl)
        have z6 : ∀ g : Grown W, g.val.cell? ⟨wr.heap.size, 6, none⟩ = _ := fun g => (g.bel.cell hrW).trans (blk_cell hbox 6 _ rfl)
        have z7 : ∀ g : Grown W, g.val.cell? ⟨wr.heap.size, 7, none⟩ = _ := fun g => (g.bel.cell hrW).trans (blk_cell hbox 7 _ rfl)
        have hbW : b < W.heap.size := Nat.lt_of_lt_of_le hb hbx.size
        clear c0 c1 c2 c3 c4 c5 c6 c7 hbox
        go_cut [10, 32] (fun i c wx => i = .int .i64 k ∧ Tells (GoodSail (S k) ∧ (0 < k → (S (k - 1)).id < (S k).id)) c ∧ Below w.heap.size w wx)
        case first =>
          by_cases hg : GoodSail (S k)
          · have HG : Hid (GoodSail (S k)) := hg
            clear hg
            by_cases k0 : k = 0
            · subst k0
              refine wp_region_grow (by kernel_rfl) (by kernel_rfl) ?_
              repeat (first | go_big_quiet_skip | (go_big_quiet_want; go_big_quiet_op; first | go_big_quiet_on | (apply Exists.intro; refine ⟨fun g => ?_, ?_⟩; (focus (go_at_call 26; refine grown_call (v := .bool true) ((specSailing_any _ _ _ _ _ _ _ _ _ _ _ _ (S 0).la (S 0).ca _ rfl rfl s1' s2' s3 s4 (h8.below (after hbx g.bel)) (h9.below (after hbx g.bel))).mono ?_); rintro e w2 ⟨⟨bb, rfl, hi⟩, hbb⟩; obtain rfl := hi.2 HG.out; exact ⟨rfl, hbb⟩)); go_big_quiet_on)))
              refine wpQuiet_nil ?_
              rintro _ ⟨g, rfl⟩
              go_wp2
              go_meet
              exact ⟨rfl, tells_good ⟨HG.out, fun h => by omega⟩, after hbx g.bel⟩
            · have d0 : decide (0 < k) = true := by simp; omega
              have hk2 : ((k : Int) - 1).toNat = k - 1 := by omega
              have hk3 : (k : Int) - 1 < (N : Int) := by omega
              have hk4 : (0 : Int) ≤ (k : Int) - 1 := by omega
              have hk5 : IntKind.i64.wrap ((k : Int) - 1) = (k : Int) - 1 := by rw [IntKind.wrap_i64]; omega
              have y0 : ∀ g : Grown W, g.val.cell? ⟨b, off + (k - 1) * 8, none⟩ = _ := fun g => ((after hbx g.bel).cell (p := ⟨b, off + (k - 1) * 8, none⟩) hb).trans (HP2.out (by omega))
              by_cases hle : (S k).id ≤ (S (k - 1)).id
              · have e2 : decide ((S k).id ≤ (S (k - 1)).id) = true := by simpa using hle
                refine wp_region_grow (by kernel_rfl) (by kernel_rfl) ?_
                repeat (first | go_big_quiet_skip | (go_big_quiet_want; go_big_quiet_op; first | go_big_quiet_on | (apply Exists.intro; refine ⟨fun g => ?_, ?_⟩; (focus (go_at_call 26; refine grown_call (v := .bool true) ((specSailing_any _ _ _ _ _ _ _ _ _ _ _ _ (S k).la (S k).ca _ rfl rfl s1' s2' s3 s4 (h8.below (after hbx g.bel)) (h9.below (after hbx g.bel))).mono ?_); rintro e w2 ⟨⟨bb, rfl, hi⟩, hbb⟩; obtain rfl := hi.2 HG.out; exact ⟨rfl, hbb⟩)); go_big_quiet_on)))
                refine wpQuiet_nil ?_
                rintro _ ⟨g, rfl⟩
                go_wp2
                go_meet
                exact ⟨rfl, tells_bad (fun h => by have := h.2 (by omega); omega), after hbx g.bel⟩
              · have e2 : decide ((S k).id ≤ (S (k - 1)).id) = false := by simpa using hle
                refine wp_region_grow (by kernel_rfl) (by kernel_rfl) ?_
                repeat (first | go_big_quiet_skip | (go_big_quiet_want; go_big_quiet_op; first | go_big_quiet_on | (apply Exists.intro; refine ⟨fun g => ?_, ?_⟩; (focus (go_at_call 26; refine grown_call (v := .bool true) ((specSailing_any _ _ _ _ _ _ _ _ _ _ _ _ (S k).la (S k).ca _ rfl rfl s1' s2' s3 s4 (h8.below (after hbx g.bel)) (h9.below (after hbx g.bel))).mono ?_); rintro e w2 ⟨⟨bb, rfl, hi⟩, hbb⟩; obtain rfl := hi.2 HG.out; exact ⟨rfl, hbb⟩)); go_big_quiet_on)))
                refine wpQuiet_nil ?_
                rintro _ ⟨g, rfl⟩
                go_wp2
                go_meet
                exact ⟨rfl, tells_good ⟨HG.out, fun _ => by omega⟩, after hbx g.bel⟩
          · have HG : Hid (¬ GoodSail (S k)) := hg
            clear hg
            refine wp_region_grow (by kernel_rfl) (by kernel_rfl) ?_
            repeat (first | go_big_quiet_skip | (go_big_quiet_want; go_big_quiet_op; first | go_big_quiet_on | (apply Exists.intro; refine ⟨fun g => ?_, ?_⟩; (focus (go_at_call 26; refine grown_call (v := .bool false) ((specSailing_any _ _ _ _ _ _ _ _ _ _ _ _ (S k).la (S k).ca _ rfl rfl s1' s2' s3 s4 (h8.below (after hbx g.bel)) (h9.below (after hbx g.bel))).mono ?_); rintro e w2 ⟨⟨bb, rfl, hi⟩, hbb⟩; obtain rfl := Bool.eq_false_iff.2 (fun e => HG.out (hi.1 e)); exact ⟨rfl, hbb⟩)); go_big_quiet_on)))
            refine wpQuiet_nil ?_
            rintro _ ⟨g, rfl⟩
            go_wp2
            go_meet
            exact ⟨rfl, tells_bad (fun h => HG.out h.1), after hbx g.bel⟩
        case rest =>
          obtain ⟨rfl, ⟨t, rfl, ht⟩, hbx2⟩ := hcut
          have HT : Hid (t = false ↔ GoodSail (S k) ∧ (0 < k → (S (k - 1)).id < (S k).id)) := ht
          clear ht z0 z1 z2 z3 z4 z5 z6 z7
          cases t with
          | true =>
            go_wp2
            go_ret
            exact ⟨says_no (fun h => by have := HT.out.2 (h.2 k hlt); cases this), hbx2⟩
          | false =>
            have HK := HT.out.1 rfl
            have HK : Hid _ := HK
            clear HT
            go_wp2
            go_roundw
            case rel => exact ⟨k + 1, by omega, by go_num, fun j hj => by
              by_cases e : j = k
              · subst e; exact HK.out
              · exact HA.out j (by omega), hbx2⟩
            case measure => simp [intOf]; omega
      · obtain rfl : k = N := by omega
        go_wp2
        go_ret
        exact ⟨says_yes ⟨h6, HA.out⟩, hbel⟩
  · have d6 : decide (6 < N) = true := by simp; omega
    go_enter Tryz.func100, Tryz.ntmps100
    go_wp2
    go_ret
    exact ⟨says_no (fun h => h6 h.1), Below.refl _ _⟩

end Go.Proofs.YtfallpinmhbemaaGreatDoor

namespace Go.Proofs.YtfallpinmhbemaaGreatDoor
open Go.RowKit

/-- Where the first sailing with the Id x stands among the first n, n where there is none. -/
def findIx (S : Nat → Sail) (x : Int) : Nat → Nat
  | 0 => 0
  | n + 1 => if findIx S x n < n then findIx S x n else if (S n).id = x then n else n + 1
theorem findIx_le (S : Nat → Sail) (x : Int) (n : Nat) : findIx S x n ≤ n := by
  induction n with
  | zero => exact Nat.le_refl _
  | succ n ih => unfold findIx; split <;> (try split) <;> omega
theorem findIx_before (S : Nat → Sail) (x : Int) (n : Nat) : ∀ j, j < findIx S x n → (S j).id ≠ x := by
  induction n with
  | zero => intro j hj; unfold findIx at hj; omega
  | succ n ih =>
    intro j hj
    unfold findIx at hj
    have hl := findIx_le S x n
    split at hj
    · exact ih j hj
    · rename_i h
      split at hj
      · exact ih j (by omega)
      · rename_i h2
        by_cases e : j = n
        · subst e; exact h2
        · exact ih j (by omega)
theorem findIx_at (S : Nat → Sail) (x : Int) (n : Nat) (h : findIx S x n < n) : (S (findIx S x n)).id = x := by
  induction n with
  | zero => omega
  | succ n ih =>
    unfold findIx at h ⊢
    split
    · rename_i h1; exact ih h1
    · rename_i h1
      rw [if_neg h1] at h
      split
      · rename_i h2; exact h2
      · rename_i h2; rw [if_neg h2] at h; omega
/-- The one that is met first is it. -/
theorem findIx_is {S : Nat → Sail} {x : Int} {n r : Nat} (hr : r < n) (he : (S r).id = x) (hb : ∀ j, j < r → (S j).id ≠ x) : findIx S x n = r := by
  have h1 := findIx_before S x n
  by_cases c : findIx S x n < r
  · exact absurd (findIx_at S x n (by omega)) (hb _ c)
  · by_cases c2 : r < findIx S x n
    · exact absurd he (h1 r c2)
    · omega
theorem findIx_none {S : Nat → Sail} {x : Int} {n : Nat} (hb : ∀ j, j < n → (S j).id ≠ x) : findIx S x n = n := by
  have h1 := findIx_le S x n
  by_cases c : findIx S x n < n
  · exact absurd (findIx_at S x n c) (hb _ c)
  · omega

/-- Leg i of the legs G can be taken behind the one ahead. -/
def LegOk (N : Nat) (S : Nat → Sail) (G : Nat → Int) (i : Nat) : Prop :=
  findIx S (G i) N < N ∧ (0 < i → (S (findIx S (G (i - 1)) N)).dst = (S (findIx S (G i) N)).fr ∧ (S (findIx S (G (i - 1)) N)).arr ≤ (S (findIx S (G i) N)).dep)
/-- n legs fit. -/
def LegsOk (N : Nat) (S : Nat → Sail) (n : Nat) (G : Nat → Int) : Prop := 1 ≤ n ∧ n ≤ 3 ∧ ∀ i, i < n → LegOk N S G i

end Go.Proofs.YtfallpinmhbemaaGreatDoor

namespace Go.Proofs.YtfallpinmhbemaaGreatDoor
open Go.RowKit

/-- One of the first n is x. -/
def Has (F : Nat → Int) (n : Nat) (x : Int) : Prop := ∃ j, j < n ∧ F j = x
/-- The first place of x among the first n; n where it isn't there. -/
def ixOf (F : Nat → Int) (x : Int) : Nat → Nat
  | 0 => 0
  | n + 1 => if ixOf F x n < n then ixOf F x n else if F n = x then n else n + 1
theorem ixOf_le (F : Nat → Int) (x : Int) (n : Nat) : ixOf F x n ≤ n := by
  induction n with
  | zero => exact Nat.le_refl _
  | succ n ih => unfold ixOf; split <;> (try split) <;> omega
theorem ixOf_before (F : Nat → Int) (x : Int) (n : Nat) : ∀ j, j < ixOf F x n → F j ≠ x := by
  induction n with
  | zero => intro j hj; unfold ixOf at hj; omega
  | succ n ih =>
    intro j hj
    unfold ixOf at hj
    have hl := ixOf_le F x n
    by_cases h1 : ixOf F x n < n
    · rw [if_pos h1] at hj; exact ih j hj
    · rw [if_neg h1] at hj
      have he : ixOf F x n = n := by omega
      by_cases h2 : F n = x
      · rw [if_pos h2] at hj; exact ih j (by omega)
      · rw [if_neg h2] at hj
        by_cases e : j = n
        · subst e; exact h2
        · exact ih j (by omega)
theorem ixOf_at (F : Nat → Int) (x : Int) (n : Nat) (h : ixOf F x n < n) : F (ixOf F x n) = x := by
  induction n with
  | zero => omega
  | succ n ih =>
    unfold ixOf at h ⊢
    by_cases h1 : ixOf F x n < n
    · rw [if_pos h1]; exact ih h1
    · rw [if_neg h1] at h ⊢
      by_cases h2 : F n = x
      · rw [if_pos h2]; exact h2
      · rw [if_neg h2] at h; omega
theorem ixOf_is {F : Nat → Int} {x : Int} {n r : Nat} (hr : r < n) (he : F r = x) (hb : ∀ j, j < r → F j ≠ x) : ixOf F x n = r := by
  have h1 := ixOf_before F x n
  by_cases c : ixOf F x n < r
  · exact absurd (ixOf_at F x n (by omega)) (hb _ c)
  · by_cases c2 : r < ixOf F x n
    · exact absurd he (h1 r c2)
    · omega
theorem ixOf_none {F : Nat → Int} {x : Int} {n : Nat} (hb : ∀ j, j < n → F j ≠ x) : ixOf F x n = n := by
  have h1 := ixOf_le F x n
  by_cases c : ixOf F x n < n
  · exact absurd (ixOf_at F x n c) (hb _ c)
  · omega
theorem has_iff (F : Nat → Int) (n : Nat) (x : Int) : Has F n x ↔ ixOf F x n < n := by
  constructor
  · rintro ⟨j, hj, e⟩
    by_cases c : ixOf F x n < n
    · exact c
    · have := ixOf_le F x n
      exact absurd e (ixOf_before F x n j (by omega))
  · intro h
    exact ⟨_, h, ixOf_at F x n h⟩
theorem not_has {F : Nat → Int} {n : Nat} {x : Int} (h : ∀ j, j < n → F j ≠ x) : ¬ Has F n x := fun ⟨j, hj, e⟩ => h j hj e

/-- The first place of x, -1 where it isn't there. -/
def ixAns (F : Nat → Int) (x : Int) (n : Nat) : Int := if ixOf F x n < n then (ixOf F x n : Int) else -1
theorem ixAns_has (F : Nat → Int) (x : Int) (n : Nat) : 0 ≤ ixAns F x n ↔ Has F n x := by
  rw [has_iff]
  unfold ixAns
  split <;> omega
theorem ixAns_yes {F : Nat → Int} {x : Int} {n : Nat} (h : Has F n x) : ixAns F x n = (ixOf F x n : Int) ∧ ixOf F x n < n := by
  have := (has_iff F n x).1 h
  exact ⟨if_pos this, this⟩
theorem ixAns_no {F : Nat → Int} {x : Int} {n : Nat} (h : ¬ Has F n x) : ixAns F x n = -1 := if_neg (fun c => h ((has_iff F n x).2 c))

end Go.Proofs.YtfallpinmhbemaaGreatDoor
