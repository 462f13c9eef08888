/-
  OWN TEXT: SpecIn2, SpecName, SpecS, SpecT.
-/
import Derived.Deep.LoopGhost
import Derived.Deep.DeepCutAuto
import Derived.Test.YtlelckbeoclhbaaGreatB12
import Derived.Test.YtlelckbeoclhbaaGreatB09
import Derived.Test.YtlelckbeoclhbaaGreatB07
set_option maxHeartbeats 12800000
set_option maxRecDepth 100000
namespace Go.Proofs.YtlelckbeoclhbaaGreat
open Go.RowKit
theorem l4By_is (x : Int) (w : World) :
    Calls Tryz.prog 90 #[.int .i64 x] w fun e w' => e = .returned (.bool (decide (In x 1 9999))) ∧ w' = w := by
  go_enter Tryz.func90, Tryz.ntmps90
  go_wp2_with (first | (go_at_call 91; refine (l1In_is _ _ _ _).mono ?_; rintro e w' ⟨rfl, rfl⟩))
  go_ret
  exact ⟨rfl, rfl⟩
end Go.Proofs.YtlelckbeoclhbaaGreat

namespace Go.Proofs.YtlelckbeoclhbaaGreat
open Go.RowKit
theorem l1Name_any (s : ByteArray) (w : World) (hs : s.size ≤ 1000000000000000) :
    Calls Tryz.prog 96 #[.string s] w fun e w' => SaysIf (IsName s) e ∧ w' = w := by
  by_cases h0 : In (s.size : Int) 1 12
  · have HI : Hid (In (s.size : Int) 1 12) := h0
    have d0 : decide (In (s.size : Int) 1 12) = true := decide_eq_true h0
    have hs2 : s.size ≤ 12 := by have := h0.2; omega
    clear h0
    go_enter Tryz.func96, Tryz.ntmps96
    go_wp2_with (first | (go_at_call 91; refine (l1In_is _ _ _ _).mono ?_; rintro e w' ⟨rfl, hw'⟩; have hw' := hw'.symm; subst hw'))
    go_loop [3, 4] (fun i _ => ∃ k : Nat, k ≤ s.size ∧ i = .int .i64 k ∧ ∀ j, j < k → Letter (byteAt s j)) (fun i _ => s.size - (intOf i).toNat)
    case atStart => exact ⟨0, Nat.zero_le _, rfl, fun j hj => by omega⟩
    case round =>
      obtain ⟨k, hk, rfl, hall⟩ := hrel
      have HA : Hid (∀ j, j < k → Letter (byteAt s j)) := hall
      clear hall
      by_cases hlt : k < s.size
      · have hby := byteAt_is s k hlt
        obtain ⟨y, hy⟩ : ∃ y, y = byteAt s k := ⟨_, rfl⟩
        rw [← hy] at hby
        have HY : Hid (y = byteAt s k) := hy
        clear hy
        have yes : Letter y → (∃ k', k' ≤ s.size ∧ Value.int .i64 ((k : Int) + 1) = Value.int .i64 (k' : Int) ∧ ∀ j, j < k' → Letter (byteAt s j)) := fun hL => ⟨k + 1, by omega, by simp, fun j hj => by
          by_cases e : j = k
          · subst e; rw [← HY.out]; exact hL
          · exact HA.out j (by omega)⟩
        have YES : Hid (Letter y → (∃ k', k' ≤ s.size ∧ Value.int .i64 ((k : Int) + 1) = Value.int .i64 (k' : Int) ∧ ∀ j, j < k' → Letter (byteAt s j))) := yes
        have NO : Hid (¬ Letter y → ¬ IsName s) := fun hL h => hL (by rw [HY.out]; exact h.2.2 k hlt)
        clear yes
        by_cases h1 : 97 ≤ y
        · have e1 : decide (97 ≤ y) = true := by simpa using h1
          by_cases h2 : y ≤ 122
          · have e2 : decide (y ≤ 122) = true := by simpa using h2
            go_wp2
            go_round
            case rel => exact YES.out (.inl ⟨h1, h2⟩)
            case measure => simp [intOf]; omega
          · have e2 : decide (y ≤ 122) = false := by simpa using h2
            have e3 : decide (65 ≤ y) = true := by simp; omega
            have e4 : decide (y ≤ 90) = false := by simp; omega
            go_wp2
            go_ret
            exact ⟨says_no (NO.out (by rintro (h | h) <;> omega)), rfl⟩
        · have e1 : decide (97 ≤ y) = false := by simpa using h1
          by_cases h3 : 65 ≤ y
          · have e3 : decide (65 ≤ y) = true := by simpa using h3
            by_cases h4 : y ≤ 90
            · have e4 : decide (y ≤ 90) = true := by simpa using h4
              go_wp2
              go_round
              case rel => exact YES.out (.inr ⟨h3, h4⟩)
              case measure => simp [intOf]; omega
            · have e4 : decide (y ≤ 90) = false := by simpa using h4
              go_wp2
              go_ret
              exact ⟨says_no (NO.out (by rintro (h | h) <;> omega)), rfl⟩
          · have e3 : decide (65 ≤ y) = false := by simpa using h3
            go_wp2
            go_ret
            exact ⟨says_no (NO.out (by rintro (h | h) <;> omega)), rfl⟩
      · obtain rfl : k = s.size := by omega
        go_wp2
        go_ret
        exact ⟨says_yes ⟨by have := HI.out.1; omega, by have := HI.out.2; omega, HA.out⟩, rfl⟩
  · have HI : Hid (¬ In (s.size : Int) 1 12) := h0
    have d0 : decide (In (s.size : Int) 1 12) = false := decide_eq_false h0
    clear h0
    go_enter Tryz.func96, Tryz.ntmps96
    go_wp2_with (first | (go_at_call 91; refine (l1In_is _ _ _ _).mono ?_; rintro e w' ⟨rfl, hw'⟩; have hw' := hw'.symm; subst hw'))
    go_ret
    exact ⟨says_no (fun h => HI.out ⟨by have := h.1; omega, by have := h.2.1; omega⟩), rfl⟩
theorem l1Name_is (s : ByteArray) (w : World) (hs : s.size ≤ 1000000000000000) :
    Calls Tryz.prog 96 #[.string s] w fun e w' => e = .returned (.bool (decide (IsName s))) ∧ w' = w := by
  refine (l1Name_any s w hs).mono ?_
  rintro e w' ⟨⟨b', rfl, h⟩, rfl⟩
  rw [bool_eq h (decide_eq_true_iff (p := IsName s))]
  exact ⟨rfl, rfl⟩
end Go.Proofs.YtlelckbeoclhbaaGreat

namespace Go.Proofs.YtlelckbeoclhbaaGreat
open Go.RowKit
def SailHead (x d a mo : Int) (fr tt : ByteArray) (n m : Nat) : Prop :=
  In x 1 99 ∧ IsName fr ∧ IsName tt ∧ fr ≠ tt ∧ In d 0 10000 ∧ In a (d + 1) 10000 ∧ n ≤ 4 ∧ m ≤ 6 ∧ In mo 0 500
theorem good_of_head {x d a mo : Int} {fr tt : ByteArray} {n m : Nat} {l1 l2 : Pairs} (e1 : l1.n = n) (e2 : l2.n = m) : GoodSail ⟨x, fr, tt, d, a, l1, l2, mo⟩ ↔ SailHead x d a mo fr tt n m ∧ (∀ k, k < n → In (l1.A k) 1 5000 ∧ In (l1.B k) 100 500) ∧ (∀ k, k < m → In (l2.A k) 1 3 ∧ In (l2.B k) 1 4) := by
  subst e1 e2
  unfold GoodSail SailHead GoodPairs In
  simp only
  constructor
  · rintro ⟨h1, h2, h3, h4, h5, h6, h7, h8, h9, h10⟩
    exact ⟨⟨h1, h2, h3, h4, ⟨h5, by omega⟩, ⟨by omega, h7⟩, h8.1, h9.1, h10⟩, h8.2, h9.2⟩
  · rintro ⟨⟨h1, h2, h3, h4, h5, h6, h7, h8, h9⟩, h10, h11⟩
    exact ⟨h1, h2, h3, h4, h5.1, by omega, h6.2, ⟨h7, h10⟩, ⟨h8, h11⟩, h9⟩
theorem specSailing_any (x d a mo : Int) (fr tt : ByteArray) (lo co : Option Addr) (n m c1 c2 : Nat) (l1 l2 : Pairs) (w : World) (e1 : l1.n = n) (e2 : l2.n = m) (hfr : fr.size ≤ 1000000000000000) (hto : tt.size ≤ 1000000000000000) (hn : n ≤ 1048576) (hm : m ≤ 1048576) (hx : PairsAt w lo l1) (hy : PairsAt w co l2) :
    Calls Tryz.prog 88 #[.agg #[.int .i64 x, .string fr, .string tt, .int .i64 d, .int .i64 a, .slice lo n c1, .slice co m c2, .int .i64 mo]] w fun e w' => SaysIf (GoodSail ⟨x, fr, tt, d, a, l1, l2, mo⟩) e ∧ Below w.heap.size w w' := by
  have hb0 : Below w.heap.size w (w.alloc (.cells #[.int .i64 x, .string fr, .string tt, .int .i64 d, .int .i64 a, .slice lo n c1, .slice co m c2, .int .i64 mo] 54)) := push (Below.refl _ _) _
  have A0 := heap_alloc_new w (.cells #[.int .i64 x, .string fr, .string tt, .int .i64 d, .int .i64 a, .slice lo n c1, .slice co m c2, .int .i64 mo] 54)
  have E1 : Hid (l1.n = n) := e1
  have E2 : Hid (l2.n = m) := e2
  have HG0 := good_of_head (x := x) (d := d) (a := a) (mo := mo) (fr := fr) (tt := tt) e1 e2
  have HG : Hid _ := HG0
  clear e1 e2 HG0
  by_cases g1 : In x 1 99
  case neg =>
    have fg1 : decide (In x 1 99) = false := decide_eq_false g1
    have HN : Hid (¬ GoodSail ⟨x, fr, tt, d, a, l1, l2, mo⟩) := fun h => g1 ((fun h => h.1) (HG.out.1 h).1)
    clear g1
    go_enter Tryz.func88, Tryz.ntmps88
    go_wp2_with (first | (go_at_call 91; refine (l1In_is _ _ _ _).mono ?_; rintro e w' ⟨rfl, hw'⟩; have hw' := hw'.symm; subst hw') | (go_at_call 96; refine (l1Name_is _ _ (by first | exact hfr | exact hto)).mono ?_; rintro e w' ⟨rfl, hw'⟩; have hw' := hw'.symm; subst hw'))
    go_ret
    exact ⟨says_no HN.out, hb0⟩
  have fg1 : decide (In x 1 99) = true := decide_eq_true g1
  by_cases g2 : IsName fr
  case neg =>
    have fg2 : decide (IsName fr) = false := decide_eq_false g2
    have HN : Hid (¬ GoodSail ⟨x, fr, tt, d, a, l1, l2, mo⟩) := fun h => g2 ((fun h => h.2.1) (HG.out.1 h).1)
    clear g1 g2
    go_enter Tryz.func88, Tryz.ntmps88
    go_wp2_with (first | (go_at_call 91; refine (l1In_is _ _ _ _).mono ?_; rintro e w' ⟨rfl, hw'⟩; have hw' := hw'.symm; subst hw') | (go_at_call 96; refine (l1Name_is _ _ (by first | exact hfr | exact hto)).mono ?_; rintro e w' ⟨rfl, hw'⟩; have hw' := hw'.symm; subst hw'))
    go_ret
    exact ⟨says_no HN.out, hb0⟩
  have fg2 : decide (IsName fr) = true := decide_eq_true g2
  by_cases g3 : IsName tt
  case neg =>
    have fg3 : decide (IsName tt) = false := decide_eq_false g3
    have HN : Hid (¬ GoodSail ⟨x, fr, tt, d, a, l1, l2, mo⟩) := fun h => g3 ((fun h => h.2.2.1) (HG.out.1 h).1)
    clear g1 g2 g3
    go_enter Tryz.func88, Tryz.ntmps88
    go_wp2_with (first | (go_at_call 91; refine (l1In_is _ _ _ _).mono ?_; rintro e w' ⟨rfl, hw'⟩; have hw' := hw'.symm; subst hw') | (go_at_call 96; refine (l1Name_is _ _ (by first | exact hfr | exact hto)).mono ?_; rintro e w' ⟨rfl, hw'⟩; have hw' := hw'.symm; subst hw'))
    go_ret
    exact ⟨says_no HN.out, hb0⟩
  have fg3 : decide (IsName tt) = true := decide_eq_true g3
  by_cases g4 : fr ≠ tt
  case neg =>
    have fg4 : (fr.toList == tt.toList) = true := bytes_eq.2 (by simpa using g4)
    have HN : Hid (¬ GoodSail ⟨x, fr, tt, d, a, l1, l2, mo⟩) := fun h => g4 ((fun h => h.2.2.2.1) (HG.out.1 h).1)
    clear g1 g2 g3 g4
    go_enter Tryz.func88, Tryz.ntmps88
    go_wp2_with (first | (go_at_call 91; refine (l1In_is _ _ _ _).mono ?_; rintro e w' ⟨rfl, hw'⟩; have hw' := hw'.symm; subst hw') | (go_at_call 96; refine (l1Name_is _ _ (by first | exact hfr | exact hto)).mono ?_; rintro e w' ⟨rfl, hw'⟩; have hw' := hw'.symm; subst hw'))
    go_ret
    exact ⟨says_no HN.out, hb0⟩
  have fg4 : (fr.toList == tt.toList) = false := bytes_ne.2 g4
  by_cases g5 : In d 0 10000
  case neg =>
    have fg5 : decide (In d 0 10000) = false := decide_eq_false g5
    have HN : Hid (¬ GoodSail ⟨x, fr, tt, d, a, l1, l2, mo⟩) := fun h => g5 ((fun h => h.2.2.2.2.1) (HG.out.1 h).1)
    clear g1 g2 g3 g4 g5
    go_enter Tryz.func88, Tryz.ntmps88
    go_wp2_with (first | (go_at_call 91; refine (l1In_is _ _ _ _).mono ?_; rintro e w' ⟨rfl, hw'⟩; have hw' := hw'.symm; subst hw') | (go_at_call 96; refine (l1Name_is _ _ (by first | exact hfr | exact hto)).mono ?_; rintro e w' ⟨rfl, hw'⟩; have hw' := hw'.symm; subst hw'))
    go_ret
    exact ⟨says_no HN.out, hb0⟩
  have fg5 : decide (In d 0 10000) = true := decide_eq_true g5
  have hwr : IntKind.i64.wrap (d + 1) = d + 1 := by have := g5.1; have := g5.2; rw [IntKind.wrap_i64]; omega
  by_cases g6 : In a (d + 1) 10000
  case neg =>
    have fg6 : decide (In a (d + 1) 10000) = false := decide_eq_false g6
    have HN : Hid (¬ GoodSail ⟨x, fr, tt, d, a, l1, l2, mo⟩) := fun h => g6 ((fun h => h.2.2.2.2.2.1) (HG.out.1 h).1)
    clear g1 g2 g3 g4 g5 g6
    go_enter Tryz.func88, Tryz.ntmps88
    go_wp2_with (first | (go_at_call 91; refine (l1In_is _ _ _ _).mono ?_; rintro e w' ⟨rfl, hw'⟩; have hw' := hw'.symm; subst hw') | (go_at_call 96; refine (l1Name_is _ _ (by first | exact hfr | exact hto)).mono ?_; rintro e w' ⟨rfl, hw'⟩; have hw' := hw'.symm; subst hw'))
    go_ret
    exact ⟨says_no HN.out, hb0⟩
  have fg6 : decide (In a (d + 1) 10000) = true := decide_eq_true g6
  by_cases g7 : n ≤ 4
  case neg =>
    have fg7 : decide (4 < n) = true := by simp; omega
    have HN : Hid (¬ GoodSail ⟨x, fr, tt, d, a, l1, l2, mo⟩) := fun h => g7 ((fun h => h.2.2.2.2.2.2.1) (HG.out.1 h).1)
    clear g1 g2 g3 g4 g5 g6
    go_enter Tryz.func88, Tryz.ntmps88
    go_wp2_with (first | (go_at_call 91; refine (l1In_is _ _ _ _).mono ?_; rintro e w' ⟨rfl, hw'⟩; have hw' := hw'.symm; subst hw') | (go_at_call 96; refine (l1Name_is _ _ (by first | exact hfr | exact hto)).mono ?_; rintro e w' ⟨rfl, hw'⟩; have hw' := hw'.symm; subst hw'))
    go_ret
    exact ⟨says_no HN.out, hb0⟩
  have fg7 : decide (4 < n) = false := by simp; omega
  by_cases g8 : m ≤ 6
  case neg =>
    have fg8 : decide (6 < m) = true := by simp; omega
    have HN : Hid (¬ GoodSail ⟨x, fr, tt, d, a, l1, l2, mo⟩) := fun h => g8 ((fun h => h.2.2.2.2.2.2.2.1) (HG.out.1 h).1)
    clear g1 g2 g3 g4 g5 g6
    go_enter Tryz.func88, Tryz.ntmps88
    go_wp2_with (first | (go_at_call 91; refine (l1In_is _ _ _ _).mono ?_; rintro e w' ⟨rfl, hw'⟩; have hw' := hw'.symm; subst hw') | (go_at_call 96; refine (l1Name_is _ _ (by first | exact hfr | exact hto)).mono ?_; rintro e w' ⟨rfl, hw'⟩; have hw' := hw'.symm; subst hw'))
    go_ret
    exact ⟨says_no HN.out, hb0⟩
  have fg8 : decide (6 < m) = false := by simp; omega
  by_cases g9 : In mo 0 500
  case neg =>
    have fg9 : decide (In mo 0 500) = false := decide_eq_false g9
    have HN : Hid (¬ GoodSail ⟨x, fr, tt, d, a, l1, l2, mo⟩) := fun h => g9 ((fun h => h.2.2.2.2.2.2.2.2) (HG.out.1 h).1)
    clear g1 g2 g3 g4 g5 g6 g9
    go_enter Tryz.func88, Tryz.ntmps88
    go_wp2_with (first | (go_at_call 91; refine (l1In_is _ _ _ _).mono ?_; rintro e w' ⟨rfl, hw'⟩; have hw' := hw'.symm; subst hw') | (go_at_call 96; refine (l1Name_is _ _ (by first | exact hfr | exact hto)).mono ?_; rintro e w' ⟨rfl, hw'⟩; have hw' := hw'.symm; subst hw'))
    go_ret
    exact ⟨says_no HN.out, hb0⟩
  have fg9 : decide (In mo 0 500) = true := decide_eq_true g9
  have HH : Hid (SailHead x d a mo fr tt n m) := ⟨g1, g2, g3, g4, g5, g6, g7, g8, g9⟩
  clear g1 g2 g3 g4 g5 g6 g9
  go_enter Tryz.func88, Tryz.ntmps88
  go_wp2_with (first | (go_at_call 91; refine (l1In_is _ _ _ _).mono ?_; rintro e w' ⟨rfl, hw'⟩; have hw' := hw'.symm; subst hw') | (go_at_call 96; refine (l1Name_is _ _ (by first | exact hfr | exact hto)).mono ?_; rintro e w' ⟨rfl, hw'⟩; have hw' := hw'.symm; subst hw'))
  go_loopw [4, 66] (fun _ i wr => ∃ k : Nat, k ≤ n ∧ i = .int .i64 k ∧ (∀ j, j < k → In (l1.A j) 1 5000 ∧ In (l1.B j) 100 500) ∧ Below (w.alloc (.cells #[.int .i64 x, .string fr, .string tt, .int .i64 d, .int .i64 a, .slice lo n c1, .slice co m c2, .int .i64 mo] 54)).heap.size (w.alloc (.cells #[.int .i64 x, .string fr, .string tt, .int .i64 d, .int .i64 a, .slice lo n c1, .slice co m c2, .int .i64 mo] 54)) wr) (fun _ i _ => n - (intOf i).toNat)
  case atStart => exact ⟨0, Nat.zero_le _, rfl, fun j hj => by omega, Below.refl _ _⟩
  case round =>
    obtain ⟨k, hk, rfl, hall, hbel⟩ := hrel
    have HA : Hid (∀ j, j < k → In (l1.A j) 1 5000 ∧ In (l1.B j) 100 500) := hall
    have A1 := blk_below A0 hbel
    have hbel2 := hbel
    have hb1 := after hb0 hbel
    clear hall fg1 fg2 fg3 fg4 fg5 fg6 fg7 fg8 fg9 hwr hb0 A0 hbel
    by_cases hlt : k < n
    · obtain ⟨b, off, rfl, h1, h2⟩ := hx k (by rw [E1.out]; omega)
      have hb := World.block_lt_of_cell? w _ h1
      have c1 := (hb1.cell (p := ⟨b, off + k * 2, none⟩) hb).trans h1
      have c2 := (hb1.cell (p := ⟨b, off + k * 2 + 1, none⟩) hb).trans h2
      clear h1 h2
      by_cases g1 : In (l1.A k) 1 5000
      · have e1 : decide (In (l1.A k) 1 5000) = true := decide_eq_true g1
        by_cases g2 : In (l1.B k) 100 500
        · have e2 : decide (In (l1.B k) 100 500) = true := decide_eq_true g2
          have HK : Hid (In (l1.A k) 1 5000 ∧ In (l1.B k) 100 500) := ⟨g1, g2⟩
          clear g1 g2
          go_wp2_with (first | (go_at_call 91; refine (l1In_is _ _ _ _).mono ?_; rintro e w' ⟨rfl, hw'⟩; have hw' := hw'.symm; subst hw'))
          go_roundw
          case rel => exact ⟨k + 1, by omega, by go_num, fun j hj => by
            by_cases e : j = k
            · subst e; exact HK.out
            · exact HA.out j (by omega), push hbel2 _⟩
          case measure => simp [intOf]; omega
        · have e2 : decide (In (l1.B k) 100 500) = false := decide_eq_false g2
          have HK : Hid (¬ In (l1.B k) 100 500) := g2
          clear g1 g2
          go_wp2_with (first | (go_at_call 91; refine (l1In_is _ _ _ _).mono ?_; rintro e w' ⟨rfl, hw'⟩; have hw' := hw'.symm; subst hw'))
          go_ret
          exact ⟨says_no (fun h => HK.out ((HG.out.1 h).2.1 k hlt).2), push hb1 _⟩
      · have e1 : decide (In (l1.A k) 1 5000) = false := decide_eq_false g1
        have HK : Hid (¬ In (l1.A k) 1 5000) := g1
        clear g1
        go_wp2_with (first | (go_at_call 91; refine (l1In_is _ _ _ _).mono ?_; rintro e w' ⟨rfl, hw'⟩; have hw' := hw'.symm; subst hw'))
        go_ret
        exact ⟨says_no (fun h => HK.out ((HG.out.1 h).2.1 k hlt).1), push hb1 _⟩
    · obtain rfl : k = n := by omega
      have q6 := blk_cell A1 6 _ rfl
      go_wp2
      go_loopw [6, 84] (fun _ i wx => ∃ k : Nat, k ≤ m ∧ i = .int .i64 k ∧ (∀ j, j < k → In (l2.A j) 1 3 ∧ In (l2.B j) 1 4) ∧ Below w.heap.size w wx) (fun _ i _ => m - (intOf i).toNat)
      case atStart => exact ⟨0, Nat.zero_le _, rfl, fun j hj => by omega, hb1⟩
      case round =>
        obtain ⟨q, hq, rfl, hall, hbq⟩ := hrel
        have HB : Hid (∀ j, j < q → In (l2.A j) 1 3 ∧ In (l2.B j) 1 4) := hall
        clear hall q6 A1 hb1
        by_cases hlt2 : q < m
        · obtain ⟨b, off, rfl, h1, h2⟩ := hy q (by rw [E2.out]; omega)
          have hb := World.block_lt_of_cell? w _ h1
          have c1 := (hbq.cell (p := ⟨b, off + q * 2, none⟩) hb).trans h1
          have c2 := (hbq.cell (p := ⟨b, off + q * 2 + 1, none⟩) hb).trans h2
          clear h1 h2
          by_cases g1 : In (l2.A q) 1 3
          · have e1 : decide (In (l2.A q) 1 3) = true := decide_eq_true g1
            by_cases g2 : In (l2.B q) 1 4
            · have e2 : decide (In (l2.B q) 1 4) = true := decide_eq_true g2
              have HK : Hid (In (l2.A q) 1 3 ∧ In (l2.B q) 1 4) := ⟨g1, g2⟩
              clear g1 g2
              go_wp2_with (first | (go_at_call 91; refine (l1In_is _ _ _ _).mono ?_; rintro e w' ⟨rfl, hw'⟩; have hw' := hw'.symm; subst hw'))
              go_roundw
              case rel => exact ⟨q + 1, by omega, by go_num, fun j hj => by
                by_cases e : j = q
                · subst e; exact HK.out
                · exact HB.out j (by omega), push hbq _⟩
              case measure => simp [intOf]; omega
            · have e2 : decide (In (l2.B q) 1 4) = false := decide_eq_false g2
              have HK : Hid (¬ In (l2.B q) 1 4) := g2
              clear g1 g2
              go_wp2_with (first | (go_at_call 91; refine (l1In_is _ _ _ _).mono ?_; rintro e w' ⟨rfl, hw'⟩; have hw' := hw'.symm; subst hw'))
              go_ret
              exact ⟨says_no (fun h => HK.out ((HG.out.1 h).2.2 q hlt2).2), push hbq _⟩
          · have e1 : decide (In (l2.A q) 1 3) = false := decide_eq_false g1
            have HK : Hid (¬ In (l2.A q) 1 3) := g1
            clear g1
            go_wp2_with (first | (go_at_call 91; refine (l1In_is _ _ _ _).mono ?_; rintro e w' ⟨rfl, hw'⟩; have hw' := hw'.symm; subst hw'))
            go_ret
            exact ⟨says_no (fun h => HK.out ((HG.out.1 h).2.2 q hlt2).1), push hbq _⟩
        · obtain rfl : q = m := by omega
          go_wp2
          go_ret
          exact ⟨says_yes (HG.out.2 ⟨HH.out, HA.out, HB.out⟩), hbq⟩
end Go.Proofs.YtlelckbeoclhbaaGreat

namespace Go.Proofs.YtlelckbeoclhbaaGreat
open Go.RowKit
theorem specTab_any (ao : Option Addr) (N c : Nat) (S : Nat → Sail) (w : World) (hN : N ≤ 1048576) (hs : ShortAll N S 1048576) (hx : SailsAt w ao N S) :
    Calls Tryz.prog 48 #[.slice ao N c] w fun e w' => SaysIf (GoodTab N S) e ∧ Below w.heap.size w w' := by
  have HS : Hid (ShortAll N S 1048576) := hs
  clear hs
  by_cases h6 : N ≤ 6
  · have d6 : decide (6 < N) = false := by simp; omega
    go_enter Tryz.func48, Tryz.ntmps48
    go_wp2
    go_loopw [3, 4, 10] (fun _ _ i wr => ∃ k : Nat, k ≤ N ∧ i = .int .i64 k ∧ (∀ j, j < k → GoodSail (S j) ∧ (0 < j → (S (j - 1)).id < (S j).id)) ∧ Below w.heap.size w wr) (fun _ _ i _ => N - (intOf i).toNat)
    case atStart => exact ⟨0, Nat.zero_le _, rfl, fun j hj => by omega, Below.refl _ _⟩
    case round =>
      obtain ⟨k, hk, rfl, hall, hbel⟩ := hrel
      have HA : Hid (∀ j, j < k → GoodSail (S j) ∧ (0 < j → (S (j - 1)).id < (S j).id)) := hall
      clear hall d6
      by_cases hlt : k < N
      · have HP : Hid (0 < k → ∀ b off, ao = some ⟨b, off, none⟩ → w.cell? ⟨b, off + (k - 1) * 8, none⟩ = some (.int .i64 (S (k - 1)).id)) := by
          intro h b off e
          obtain ⟨b', off', _, _, _, _, e', g, _⟩ := hx (k - 1) (by omega)
          rw [e] at e'
          simp only [Option.some.injEq, Addr.mk.injEq, and_true] at e'
          obtain ⟨rfl, rfl⟩ := e'
          exact g
        obtain ⟨b, off, la, lc, ca, cc, rfl, h0, h1, h2, h3, h4, h5, h6', h7, h8, h9, _, _⟩ := hx k hlt
        have HP2 : Hid (0 < k → w.cell? ⟨b, off + (k - 1) * 8, none⟩ = some (.int .i64 (S (k - 1)).id)) := fun h => HP.out h b off rfl
        clear HP
        have hb := World.block_lt_of_cell? w _ h1
        have c0 := (hbel.cell (p := ⟨b, off + k * 8, none⟩) hb).trans h0
        have c1 := (hbel.cell (p := ⟨b, off + k * 8 + 1, none⟩) hb).trans h1
        have c2 := (hbel.cell (p := ⟨b, off + k * 8 + 2, none⟩) hb).trans h2
        have c3 := (hbel.cell (p := ⟨b, off + k * 8 + 3, none⟩) hb).trans h3
        have c4 := (hbel.cell (p := ⟨b, off + k * 8 + 4, none⟩) hb).trans h4
        have c5 := (hbel.cell (p := ⟨b, off + k * 8 + 5, none⟩) hb).trans h5
        have c6 := (hbel.cell (p := ⟨b, off + k * 8 + 6, none⟩) hb).trans h6'
        have c7 := (hbel.cell (p := ⟨b, off + k * 8 + 7, none⟩) hb).trans h7
        obtain ⟨s1, s2, s3, s4⟩ := HS.out k hlt
        have s1' : (S k).fr.size ≤ 1000000000000000 := by omega
        have s2' : (S k).dst.size ≤ 1000000000000000 := by omega
        clear s1 s2
        have hbx := push hbel (.cells #[.int .i64 (S k).id, .string (S k).fr, .string (S k).dst, .int .i64 (S k).dep, .int .i64 (S k).arr, .slice la (S k).la.n lc, .slice ca (S k).ca.n cc, .int .i64 (S k).most] 54)
        have hbox := heap_alloc_new wr (.cells #[.int .i64 (S k).id, .string (S k).fr, .string (S k).dst, .int .i64 (S k).dep, .int .i64 (S k).arr, .slice la (S k).la.n lc, .slice ca (S k).ca.n cc, .int .i64 (S k).most] 54)
        clear h0 h1 h2 h3 h4 h5 h6' h7
        go_upto_region 6 with fail
        generalize hW : wr.alloc (.cells #[.int .i64 (S k).id, .string (S k).fr, .string (S k).dst, .int .i64 (S k).dep, .int .i64 (S k).arr, .slice la (S k).la.n lc, .slice ca (S k).ca.n cc, .int .i64 (S k).most] 54) = W at hbx hbox ⊢
        clear hW
        have hrW : wr.heap.size < W.heap.size := blk_lt hbox
        have z0 : ∀ g : Grown W, g.val.cell? ⟨wr.heap.size, 0, none⟩ = _ := fun g => (g.bel.cell hrW).trans (blk_cell hbox 0 _ rfl)
        have z1 : ∀ g : Grown W, g.val.cell? ⟨wr.heap.size, 1, none⟩ = _ := fun g => (g.bel.cell hrW).trans (blk_cell hbox 1 _ rfl)
        have z2 : ∀ g : Grown W, g.val.cell? ⟨wr.heap.size, 2, none⟩ = _ := fun g => (g.bel.cell hrW).trans (blk_cell hbox 2 _ rfl)
        have z3 : ∀ g : Grown W, g.val.cell? ⟨wr.heap.size, 3, none⟩ = _ := fun g => (g.bel.cell hrW).trans (blk_cell hbox 3 _ rfl)
        have z4 : ∀ g : Grown W, g.val.cell? ⟨wr.heap.size, 4, none⟩ = _ := fun g => (g.bel.cell hrW).trans (blk_cell hbox 4 _ rfl)
        have z5 : ∀ g : Grown W, g.val.cell? ⟨wr.heap.size, 5, none⟩ = _ := fun g => (g.bel.cell hrW).trans (blk_cell hbox 5 _ rfl)
        have z6 : ∀ g : Grown W, g.val.cell? ⟨wr.heap.size, 6, none⟩ = _ := fun g => (g.bel.cell hrW).trans (blk_cell hbox 6 _ rfl)
        have z7 : ∀ g : Grown W, g.val.cell? ⟨wr.heap.size, 7, none⟩ = _ := fun g => (g.bel.cell hrW).trans (blk_cell hbox 7 _ rfl)
        have hbW : b < W.heap.size := Nat.lt_of_lt_of_le hb hbx.size
        clear c0 c1 c2 c3 c4 c5 c6 c7 hbox
        go_cut [10, 32] (fun i c wx => i = .int .i64 k ∧ Tells (GoodSail (S k) ∧ (0 < k → (S (k - 1)).id < (S k).id)) c ∧ Below w.heap.size w wx)
        case first =>
          by_cases hg : GoodSail (S k)
          · have HG : Hid (GoodSail (S k)) := hg
            clear hg
            by_cases k0 : k = 0
            · subst k0
              refine wp_region_grow (by kernel_rfl) (by kernel_rfl) ?_
              repeat (first | go_big_quiet_skip | (go_big_quiet_want; go_big_quiet_op; first | go_big_quiet_on | (apply Exists.intro; refine ⟨fun g => ?_, ?_⟩; (focus (go_at_call 88; refine grown_call (v := .bool true) ((specSailing_any _ _ _ _ _ _ _ _ _ _ _ _ (S 0).la (S 0).ca _ rfl rfl s1' s2' s3 s4 (h8.below (after hbx g.bel)) (h9.below (after hbx g.bel))).mono ?_); rintro e w2 ⟨⟨bb, rfl, hi⟩, hbb⟩; obtain rfl := hi.2 HG.out; exact ⟨rfl, hbb⟩)); go_big_quiet_on)))
              refine wpQuiet_nil ?_
              rintro _ ⟨g, rfl⟩
              go_wp2
              go_meet
              exact ⟨rfl, tells_good ⟨HG.out, fun h => by omega⟩, after hbx g.bel⟩
            · have d0 : decide (0 < k) = true := by simp; omega
              have hk2 : ((k : Int) - 1).toNat = k - 1 := by omega
              have hk3 : (k : Int) - 1 < (N : Int) := by omega
              have hk4 : (0 : Int) ≤ (k : Int) - 1 := by omega
              have hk5 : IntKind.i64.wrap ((k : Int) - 1) = (k : Int) - 1 := by rw [IntKind.wrap_i64]; omega
              have y0 : ∀ g : Grown W, g.val.cell? ⟨b, off + (k - 1) * 8, none⟩ = _ := fun g => ((after hbx g.bel).cell (p := ⟨b, off + (k - 1) * 8, none⟩) hb).trans (HP2.out (by omega))
              by_cases hle : (S k).id ≤ (S (k - 1)).id
              · have e2 : decide ((S k).id ≤ (S (k - 1)).id) = true := by simpa using hle
                refine wp_region_grow (by kernel_rfl) (by kernel_rfl) ?_
                repeat (first | go_big_quiet_skip | (go_big_quiet_want; go_big_quiet_op; first | go_big_quiet_on | (apply Exists.intro; refine ⟨fun g => ?_, ?_⟩; (focus (go_at_call 88; refine grown_call (v := .bool true) ((specSailing_any _ _ _ _ _ _ _ _ _ _ _ _ (S k).la (S k).ca _ rfl rfl s1' s2' s3 s4 (h8.below (after hbx g.bel)) (h9.below (after hbx g.bel))).mono ?_); rintro e w2 ⟨⟨bb, rfl, hi⟩, hbb⟩; obtain rfl := hi.2 HG.out; exact ⟨rfl, hbb⟩)); go_big_quiet_on)))
                refine wpQuiet_nil ?_
                rintro _ ⟨g, rfl⟩
                go_wp2
                go_meet
                exact ⟨rfl, tells_bad (fun h => by have := h.2 (by omega); omega), after hbx g.bel⟩
              · have e2 : decide ((S k).id ≤ (S (k - 1)).id) = false := by simpa using hle
                refine wp_region_grow (by kernel_rfl) (by kernel_rfl) ?_
                repeat (first | go_big_quiet_skip | (go_big_quiet_want; go_big_quiet_op; first | go_big_quiet_on | (apply Exists.intro; refine ⟨fun g => ?_, ?_⟩; (focus (go_at_call 88; refine grown_call (v := .bool true) ((specSailing_any _ _ _ _ _ _ _ _ _ _ _ _ (S k).la (S k).ca _ rfl rfl s1' s2' s3 s4 (h8.below (after hbx g.bel)) (h9.below (after hbx g.bel))).mono ?_); rintro e w2 ⟨⟨bb, rfl, hi⟩, hbb⟩; obtain rfl := hi.2 HG.out; exact ⟨rfl, hbb⟩)); go_big_quiet_on)))
                refine wpQuiet_nil ?_
                rintro _ ⟨g, rfl⟩
                go_wp2
                go_meet
                exact ⟨rfl, tells_good ⟨HG.out, fun _ => by omega⟩, after hbx g.bel⟩
          · have HG : Hid (¬ GoodSail (S k)) := hg
            clear hg
            refine wp_region_grow (by kernel_rfl) (by kernel_rfl) ?_
            repeat (first | go_big_quiet_skip | (go_big_quiet_want; go_big_quiet_op; first | go_big_quiet_on | (apply Exists.intro; refine ⟨fun g => ?_, ?_⟩; (focus (go_at_call 88; refine grown_call (v := .bool false) ((specSailing_any _ _ _ _ _ _ _ _ _ _ _ _ (S k).la (S k).ca _ rfl rfl s1' s2' s3 s4 (h8.below (after hbx g.bel)) (h9.below (after hbx g.bel))).mono ?_); rintro e w2 ⟨⟨bb, rfl, hi⟩, hbb⟩; obtain rfl := Bool.eq_false_iff.2 (fun e => HG.out (hi.1 e)); exact ⟨rfl, hbb⟩)); go_big_quiet_on)))
            refine wpQuiet_nil ?_
            rintro _ ⟨g, rfl⟩
            go_wp2
            go_meet
            exact ⟨rfl, tells_bad (fun h => HG.out h.1), after hbx g.bel⟩
        case rest =>
          obtain ⟨rfl, ⟨t, rfl, ht⟩, hbx2⟩ := hcut
          have HT : Hid (t = false ↔ GoodSail (S k) ∧ (0 < k → (S (k - 1)).id < (S k).id)) := ht
          clear ht z0 z1 z2 z3 z4 z5 z6 z7
          cases t with
          | true =>
            go_wp2
            go_ret
            exact ⟨says_no (fun h => by have := HT.out.2 (h.2 k hlt); cases this), hbx2⟩
          | false =>
            have HK := HT.out.1 rfl
            have HK : Hid _ := HK
            clear HT
            go_wp2
            go_roundw
            case rel => exact ⟨k + 1, by omega, by go_num, fun j hj => by
              by_cases e : j = k
              · subst e; exact HK.out
              · exact HA.out j (by omega), hbx2⟩
            case measure => simp [intOf]; omega
      · obtain rfl : k = N := by omega
        go_wp2
        go_ret
        exact ⟨says_yes ⟨h6, HA.out⟩, hbel⟩
  · have d6 : decide (6 < N) = true := by simp; omega
    go_enter Tryz.func48, Tryz.ntmps48
    go_wp2
    go_ret
    exact ⟨says_no (fun h => h6 h.1), Below.refl _ _⟩
end Go.Proofs.YtlelckbeoclhbaaGreat
