/-
  OWN TEXT: PlaceS0, SpecCab, SpecR, SpecW0, PlainWi.
-/
import Derived.Deep.LoopGhost
import Derived.Deep.DeepCutAuto
import Derived.Test.YtfallpinmhbemaaGreatDoorB16
import Derived.Test.YtfallpinmhbemaaGreatDoorB14
import Derived.Test.YtfallpinmhbemaaGreatDoorB06
import Derived.Test.YtfallpinmhbemaaGreatDoorB09
import Derived.Test.YtfallpinmhbemaaGreatDoorB05
import Derived.Test.YtfallpinmhbemaaGreatDoorB08
namespace Go.Proofs.YtfallpinmhbemaaGreatDoor
open Go.RowKit

/-- What l4Place answers. -/
def PlaceIx (p : Pairs) (n : Nat) (S : Nat → Stay) (len hei : Int) (r : Int) : Prop :=
  (∃ k : Nat, r = (k : Int) ∧ n ≠ 60 ∧ FirstLane p (left p S n) len hei k) ∨ (r = -1 ∧ (n = 60 ∨ ∀ k, ¬ FirstLane p (left p S n) len hei k))

set_option maxHeartbeats 1600000 in
set_option maxRecDepth 100000 in
theorem l4Place_any (ao bo : Option Addr) (m mc n c : Nat) (p : Pairs) (S : Nat → Stay) (len hei : Int) (w : World) (hl : p.n = m) (hd : DeckI p n S) (hx : PairsAt w ao p) (hz : StaysAt w bo n S) :
    Calls Tryz.prog 140 #[.slice ao m mc, .slice bo n c, .int .i64 len, .int .i64 hei] w fun e w' => (∃ r : Int, e = .returned (.int .i64 r) ∧ PlaceIx p n S len hei r) ∧ Below w.heap.size w w' := by
  have HL : Hid (p.n = m) := hl
  have HD : Hid (DeckI p n S) := hd
  have HX : Hid (PairsAt w ao p) := hx
  have HZ : Hid (StaysAt w bo n S) := hz
  have hm4 : m ≤ 4 := by rw [← hl]; exact hd.1.1
  have hn60 : n ≤ 60 := hd.2.1
  clear hl hd hx hz
  by_cases h60 : n = 60
  · have e60 : (n == 60) = true := by simpa using h60
    have e61 : ((n : Int) == 60) = true := by simp; omega
    have H60 : Hid (n = 60) := h60
    clear h60
    go_enter Tryz.func140, Tryz.ntmps140
    go_wp2
    go_ret
    exact ⟨⟨_, rfl, .inr ⟨rfl, .inl H60.out⟩⟩, Below.refl _ _⟩
  · have e60 : (n == 60) = false := by simpa using h60
    have e61 : ((n : Int) == 60) = false := by simp; omega
    have H60 : Hid (n ≠ 60) := h60
    clear h60
    go_enter Tryz.func140, Tryz.ntmps140
    go_wp2_with fail
    refine (l4Free_any ao bo m mc n c p S _ HL.out HD.out.1 hn60 HD.out.lens HX.out HZ.out).mono ?_
    rintro e w1 ⟨⟨v, rfl, hown⟩, hb1⟩
    obtain ⟨aw, cw, rfl, _⟩ := own_form hown
    have HI : Hid (IntsAt w1 aw m (left p S n)) := own_ints hown
    clear hown
    go_wp2
    go_loopw [10, 11, 20] (fun _ _ i wr => ∃ k : Nat, k ≤ m ∧ i = .int .i64 k ∧ (∀ j : Nat, j < k → ¬ (hei ≤ p.B j ∧ len ≤ left p S n j)) ∧ Below w1.heap.size w1 wr) (fun _ _ i _ => m - (intOf i).toNat)
    case atStart => exact ⟨0, Nat.zero_le _, rfl, fun j hj => by omega, Below.refl _ _⟩
    case round =>
      obtain ⟨k, hk, rfl, hall, hbel⟩ := hrel
      have HA : Hid (∀ j : Nat, j < k → ¬ (hei ≤ p.B j ∧ len ≤ left p S n j)) := hall
      clear hall
      by_cases hlt : k < m
      · obtain ⟨b, off, rfl, h1, h2⟩ := HX.out k (by rw [HL.out]; exact hlt)
        have hb := World.block_lt_of_cell? w _ h1
        have c1 := ((after hb1 hbel).cell (p := ⟨b, off + k * 2, none⟩) hb).trans h1
        have c2 := ((after hb1 hbel).cell (p := ⟨b, off + k * 2 + 1, none⟩) hb).trans h2
        obtain ⟨b3, off3, rfl, h3⟩ := HI.out k hlt
        have hb3 := World.block_lt_of_cell? w1 _ h3
        have c3 : (wr.alloc (.cells #[.int .i64 (p.A k), .int .i64 (p.B k)] 106)).cell? ⟨b3, off3 + k, none⟩ = some (.int .i64 (left p S n k)) := ((push hbel _).cell (p := ⟨b3, off3 + k, none⟩) hb3).trans h3
        have i1 : (0 : Int) ≤ (k : Int) := by omega
        have i2 : (k : Int) < (m : Int) := by omega
        clear h1 h2 h3
        by_cases g1 : hei ≤ p.B k
        · have e1 : decide (hei ≤ p.B k) = true := decide_eq_true g1
          by_cases g2 : len ≤ left p S n k
          · have e2 : decide (len ≤ left p S n k) = true := decide_eq_true g2
            have HF : Hid (FirstLane p (left p S n) len hei k) := ⟨by rw [HL.out]; exact hlt, ⟨g1, g2⟩, HA.out⟩
            clear g1 g2
            go_wp2
            go_ret
            exact ⟨⟨_, rfl, .inl ⟨k, rfl, H60.out, HF.out⟩⟩, after hb1 (push hbel _)⟩
          · have e2 : decide (len ≤ left p S n k) = false := decide_eq_false g2
            have HF : Hid (¬ (hei ≤ p.B k ∧ len ≤ left p S n k)) := fun h => g2 h.2
            clear g1 g2
            go_wp2
            go_roundw
            case rel => exact ⟨k + 1, by omega, by go_num, fun j hj => by
              by_cases e : j = k
              · subst e; exact HF.out
              · exact HA.out j (by omega), push hbel _⟩
            case measure => simp [intOf]; omega
        · have e1 : decide (hei ≤ p.B k) = false := decide_eq_false g1
          have HF : Hid (¬ (hei ≤ p.B k ∧ len ≤ left p S n k)) := fun h => g1 h.1
          clear g1
          go_wp2
          go_roundw
          case rel => exact ⟨k + 1, by omega, by go_num, fun j hj => by
            by_cases e : j = k
            · subst e; exact HF.out
            · exact HA.out j (by omega), push hbel _⟩
          case measure => simp [intOf]; omega
      · obtain rfl : k = m := by omega
        go_wp2
        go_ret
        exact ⟨⟨_, rfl, .inr ⟨rfl, .inr (fun j h => HA.out j (by have := h.1; rw [HL.out] at this; exact this) h.2.1)⟩⟩, after hb1 hbel⟩

end Go.Proofs.YtfallpinmhbemaaGreatDoor

namespace Go.Proofs.YtfallpinmhbemaaGreatDoor
open Go.RowKit

set_option maxHeartbeats 800000 in
set_option maxRecDepth 100000 in
theorem l5Cabins_any (ao : Option Addr) (n c : Nat) (p : Pairs) (w : World) (hl : p.n = n) (hn : n ≤ 1048576) (hz : PairsAt w ao p) :
    Calls Tryz.prog 132 #[.slice ao n c] w fun e w' => SaysIf (GoodPairs p 6 1 3 1 4) e ∧ Below w.heap.size w w' := by
  have HL : Hid (p.n = n) := hl
  clear hl
  by_cases h0 : n ≤ 6
  · have d0 : decide (6 < n) = false := by simp; omega
    go_enter Tryz.func132, Tryz.ntmps132
    go_wp2
    go_loopw [4, 10] (fun _ i wr => ∃ k : Nat, k ≤ n ∧ i = .int .i64 k ∧ (∀ j, j < k → In (p.A j) 1 3 ∧ In (p.B j) 1 4) ∧ Below w.heap.size w wr) (fun _ i _ => n - (intOf i).toNat)
    case atStart => exact ⟨0, Nat.zero_le _, rfl, fun j hj => by omega, Below.refl _ _⟩
    case round =>
      obtain ⟨k, hk, rfl, hall, hbel⟩ := hrel
      have HA : Hid (∀ j, j < k → In (p.A j) 1 3 ∧ In (p.B j) 1 4) := hall
      clear hall d0
      by_cases hlt : k < n
      · obtain ⟨b, off, rfl, h1, h2⟩ := hz k (by rw [HL.out]; omega)
        have hb := World.block_lt_of_cell? w _ h1
        have c1 := (hbel.cell (p := ⟨b, off + k * 2, none⟩) hb).trans h1
        have c2 := (hbel.cell (p := ⟨b, off + k * 2 + 1, none⟩) hb).trans h2
        clear h1 h2
        by_cases g1 : In (p.A k) 1 3
        · have e1 : decide (In (p.A k) 1 3) = true := decide_eq_true g1
          by_cases g2 : In (p.B k) 1 4
          · have e2 : decide (In (p.B k) 1 4) = true := decide_eq_true g2
            have HK : Hid (In (p.A k) 1 3 ∧ In (p.B k) 1 4) := ⟨g1, g2⟩
            clear g1 g2
            go_wp2_with (first | (go_at_call 19; refine (l1In_is _ _ _ _).mono ?_; rintro e w' ⟨rfl, hw'⟩; have hw' := hw'.symm; subst hw'))
            go_roundw
            case rel => exact ⟨k + 1, by omega, by go_num, fun j hj => by
              by_cases e : j = k
              · subst e; exact HK.out
              · exact HA.out j (by omega), push hbel _⟩
            case measure => simp [intOf]; omega
          · have e2 : decide (In (p.B k) 1 4) = false := decide_eq_false g2
            have HK : Hid (¬ In (p.B k) 1 4) := g2
            clear g1 g2
            go_wp2_with (first | (go_at_call 19; refine (l1In_is _ _ _ _).mono ?_; rintro e w' ⟨rfl, hw'⟩; have hw' := hw'.symm; subst hw'))
            go_ret
            exact ⟨says_no (fun h => HK.out (h.2 k (by rw [HL.out]; exact hlt)).2), push hbel _⟩
        · have e1 : decide (In (p.A k) 1 3) = false := decide_eq_false g1
          have HK : Hid (¬ In (p.A k) 1 3) := g1
          clear g1
          go_wp2_with (first | (go_at_call 19; refine (l1In_is _ _ _ _).mono ?_; rintro e w' ⟨rfl, hw'⟩; have hw' := hw'.symm; subst hw'))
          go_ret
          exact ⟨says_no (fun h => HK.out (h.2 k (by rw [HL.out]; exact hlt)).1), push hbel _⟩
      · obtain rfl : k = n := by omega
        go_wp2
        go_ret
        exact ⟨says_yes ⟨by rw [HL.out]; exact h0, fun j hj => HA.out j (by rw [HL.out] at hj; exact hj)⟩, hbel⟩
  · have d0 : decide (6 < n) = true := by simp; omega
    go_enter Tryz.func132, Tryz.ntmps132
    go_wp2
    go_ret
    exact ⟨says_no (fun h => by have := h.1; rw [HL.out] at this; exact h0 this), Below.refl _ _⟩

end Go.Proofs.YtfallpinmhbemaaGreatDoor

namespace Go.Proofs.YtfallpinmhbemaaGreatDoor
open Go.RowKit

set_option maxHeartbeats 800000 in
set_option maxRecDepth 100000 in
theorem l5Has_any (ao : Option Addr) (n c : Nat) (S : Nat → Room) (x : Int) (w : World) (hn : n ≤ 1048576) (hz : RoomsAt w ao n S) :
    Calls Tryz.prog 133 #[.slice ao n c, .int .i64 x] w fun e w' => SaysIf (Has (whoR S) n x) e ∧ Below w.heap.size w w' := by
  go_enter Tryz.func133, Tryz.ntmps133
  go_wp2
  go_loopw [6, 9] (fun _ i wr => ∃ k : Nat, k ≤ n ∧ i = .int .i64 k ∧ (∀ j, j < k → whoR S j ≠ x) ∧ Below w.heap.size w wr) (fun _ i _ => n - (intOf i).toNat)
  case atStart => exact ⟨0, Nat.zero_le _, rfl, fun j hj => by omega, Below.refl _ _⟩
  case round =>
    obtain ⟨k, hk, rfl, hall, hbel⟩ := hrel
    have HA : Hid (∀ j, j < k → whoR S j ≠ x) := hall
    clear hall
    by_cases hlt2 : k < n
    · obtain ⟨b, off, rfl, h0, h1, h2, h3⟩ := hz k hlt2
      have hb := World.block_lt_of_cell? w _ h0
      have c0 := (hbel.cell (p := ⟨b, off + k * 4, none⟩) hb).trans h0
      have c1 := (hbel.cell (p := ⟨b, off + k * 4 + 1, none⟩) hb).trans h1
      have c2 := (hbel.cell (p := ⟨b, off + k * 4 + 2, none⟩) hb).trans h2
      have c3 := (hbel.cell (p := ⟨b, off + k * 4 + 3, none⟩) hb).trans h3
      clear h0 h1 h2 h3
      by_cases he : whoR S k = x
      · have e1 : ((S k).who == x) = true := by unfold whoR at he; simpa using he
        have HF : Hid (Has (whoR S) n x) := ⟨k, hlt2, he⟩
        clear he
        go_wp2
        go_ret
        exact ⟨says_yes HF.out, push hbel _⟩
      · have e1 : ((S k).who == x) = false := by unfold whoR at he; simpa using he
        have HE : Hid (whoR S k ≠ x) := he
        clear he
        go_wp2
        go_roundw
        case rel => exact ⟨k + 1, by omega, by go_num, fun j hj => by
          by_cases e : j = k
          · subst e; exact HE.out
          · exact HA.out j (by omega), push hbel _⟩
        case measure => simp [intOf]; omega
    · obtain rfl : k = n := by omega
      have HF : Hid (¬ Has (whoR S) k x) := not_has HA.out
      go_wp2
      go_ret
      exact ⟨says_no HF.out, hbel⟩

set_option maxHeartbeats 1600000 in
set_option maxRecDepth 100000 in
theorem l5Free_any (ao bo : Option Addr) (m mc n c : Nat) (p : Pairs) (S : Nat → Room) (w : World) (hl : p.n = m) (hg : GoodC p) (hn : n ≤ 60) (hs : ∀ j, j < n → In (S j).many 1 4) (hx : PairsAt w ao p) (hz : RoomsAt w bo n S) :
    Calls Tryz.prog 134 #[.slice ao m mc, .slice bo n c] w fun e w' => (∃ v, e = .returned v ∧ w'.ownsRow w.heap.size 3 1 v m (intList (leftR p S n) m)) ∧ Below w.heap.size w w' := by
  obtain ⟨j0, ji, jz0, jz1, jz2⟩ := info_parts Tryz.infoInt
  have HL : Hid (p.n = m) := hl
  have HG : Hid (GoodC p) := hg
  have HS : Hid (∀ j, j < n → In (S j).many 1 4) := hs
  have HX : Hid (PairsAt w ao p) := hx
  have HZ : Hid (RoomsAt w bo n S) := hz
  have hm4 : m ≤ 6 := by rw [← hl]; exact hg.1
  clear hl hg hs hx hz
  go_enter Tryz.func134, Tryz.ntmps134
  go_wp2
  go_loopw [5, 6, 7, 8, 10, 13, 20, 21, 22] (fun v _ _ _ _ i _ _ _ wr => ∃ k : Nat, k ≤ m ∧ i = .int .i64 k ∧ wr.ownsRow w.heap.size 3 1 v k (intList (leftR p S n) k) ∧ Below w.heap.size w wr) (fun _ _ _ _ _ i _ _ _ _ => m - (intOf i).toNat)
  case atStart => exact ⟨0, Nat.zero_le _, rfl, ⟨rfl, .inl ⟨rfl, rfl⟩⟩, Below.refl _ _⟩
  case round =>
    obtain ⟨k, hk, rfl, hown, hbel⟩ := hrel
    by_cases hlt : k < m
    · obtain ⟨b, off, rfl, h1, h2⟩ := HX.out k (by rw [HL.out]; exact hlt)
      have hb := World.block_lt_of_cell? w _ h1
      have c1 := (hbel.cell (p := ⟨b, off + k * 2, none⟩) hb).trans h1
      have c2 := (hbel.cell (p := ⟨b, off + k * 2 + 1, none⟩) hb).trans h2
      clear h1 h2
      go_wp2
      go_loopw [8, 10, 22] (fun s8 _ i wq => ∃ t : Nat, t ≤ n ∧ i = .int .i64 t ∧ s8 = .int .i64 (leftR p S t k) ∧ wq.ownsRow w.heap.size 3 1 u5 k (intList (leftR p S n) k) ∧ Below w.heap.size w wq) (fun _ _ i _ => n - (intOf i).toNat)
      case atStart => exact ⟨0, Nat.zero_le _, rfl, by rw [leftR_0], own_below (push (Below.refl _ _) _) hown, push hbel _⟩
      case round =>
        obtain ⟨t, ht, rfl, rfl, hown2, hbel2⟩ := hrel
        clear hown hbel c1 c2
        by_cases hlt2 : t < n
        · obtain ⟨b2, off2, rfl, h0, h1, h2, h3⟩ := HZ.out t hlt2
          have hb2 := World.block_lt_of_cell? w _ h0
          have c0 := (hbel2.cell (p := ⟨b2, off2 + t * 4, none⟩) hb2).trans h0
          have c1 := (hbel2.cell (p := ⟨b2, off2 + t * 4 + 1, none⟩) hb2).trans h1
          have c2 := (hbel2.cell (p := ⟨b2, off2 + t * 4 + 2, none⟩) hb2).trans h2
          have c3 := (hbel2.cell (p := ⟨b2, off2 + t * 4 + 3, none⟩) hb2).trans h3
          clear h0 h1 h2 h3
          by_cases he : (S t).cab = (k : Int)
          · have e1 : ((S t).cab == (k : Int)) = true := by simpa using he
            have HE : Hid ((S t).cab = (k : Int)) := he
            have hwr : IntKind.i64.wrap (leftR p S t k - (S t).many) = leftR p S t k - (S t).many := by
              have h1 := leftR_bounds HG.out (show t ≤ 60 by omega) (fun j hj => HS.out j (by omega)) (show k < p.n by rw [HL.out]; exact hlt)
              have h2 := HS.out t hlt2
              unfold In at h2
              rw [IntKind.wrap_i64]; omega
            clear he
            go_wp2
            go_roundw
            case rel => exact ⟨t + 1, by omega, by go_num, by rw [leftR_at p S t k HE.out], own_below (push (Below.refl _ _) _) hown2, push hbel2 _⟩
            case measure => simp [intOf]; omega
          · have e1 : ((S t).cab == (k : Int)) = false := by simpa using he
            have HE : Hid ((S t).cab ≠ (k : Int)) := he
            clear he
            go_wp2
            go_roundw
            case rel => exact ⟨t + 1, by omega, by go_num, by rw [leftR_ne p S t k HE.out], own_below (push (Below.refl _ _) _) hown2, push hbel2 _⟩
            case measure => simp [intOf]; omega
        · obtain rfl : t = n := by omega
          have hsz := hbel2.size
          have HC : Hid (∀ ad, (some ⟨wr.heap.size, 0, none⟩ : Option Addr) = some ad → ∀ j u, [Value.int .i64 (leftR p S t k)][j]? = some u → (wr.alloc (.cells #[.int .i64 (leftR p S t k)] 3)).cell? (ad.add j) = some u) := by
            intro ad e
            cases e
            exact World.news_of_block (heap_alloc_new wr _)
          go_wp2_with (first | (at_builtin; refine wpList_append_any _ (by rfl) (.tmp 35) (.tmp 37) 23 (by rfl) w.heap.size 3 j0 (.int .i64 0) 1 8 Tryz.underlying23 ji jz0 jz1 jz2 rfl (by decide) _ k (intList (leftR p S t) k) (by rfl) (hown2.alloc _) (some ⟨wr.heap.size, 0, none⟩) 1 1 [.int .i64 (leftR p S t k)] (by rfl) (fun h => (by cases h)) (by rfl) HC.out (by intro u hu; simp at hu; subst hu; rfl) (by unfold maxLen; omega) (by omega) (by simp; omega) ?_; intro v' w3 ho3 hg3))
          go_roundw
          case rel => exact ⟨k + 1, by omega, by go_num, by rw [intList_succ]; exact ho3, (push hbel2 _).grown hg3 (by simp; omega) (fun j hj => (hown2.lt j hj).1)⟩
          case measure => simp [intOf]; omega
    · obtain rfl : k = m := by omega
      go_wp2
      go_ret
      exact ⟨⟨_, rfl, hown⟩, hbel⟩

set_option maxHeartbeats 6400000 in
set_option maxRecDepth 100000 in
theorem specRooms_any (ao bo : Option Addr) (m mc n c : Nat) (p : Pairs) (S : Nat → Room) (w : World) (hl : p.n = m) (hm : m ≤ 1048576) (hn : n ≤ 1048576) (hc : n ≤ c) (hx : PairsAt w ao p) (hz : RoomsAt w bo n S) :
    Calls Tryz.prog 113 #[.slice ao m mc, .slice bo n c] w fun e w' => SaysIf (RoomsS p n S) e ∧ Below w.heap.size w w' := by
  have HL : Hid (p.n = m) := hl
  have HX : Hid (PairsAt w ao p) := hx
  have HZ : Hid (RoomsAt w bo n S) := hz
  clear hl hx hz
  go_enter Tryz.func113, Tryz.ntmps113
  go_wp2_with fail
  refine (l5Cabins_any ao m mc p _ HL.out hm HX.out).mono ?_
  rintro e w1 ⟨⟨q, rfl, hq⟩, hb1⟩
  cases q with
  | false =>
    have HG : Hid (¬ GoodC p) := fun h => by have := hq.2 h; cases this
    clear hq
    go_wp2
    go_ret
    exact ⟨says_no (fun h => HG.out h.1), hb1⟩
  | true =>
    have HG : Hid (GoodC p) := hq.1 rfl
    have hm4 : m ≤ 6 := by rw [← HL.out]; exact HG.out.1
    clear hq
    by_cases h60 : n ≤ 60
    · have d0 : decide (60 < n) = false := by simp; omega
      have hwm : IntKind.i64.wrap ((m : Int) - 1) = (m : Int) - 1 := by rw [IntKind.wrap_i64]; omega
      go_wp2
      go_loopw [5, 6, 8, 21, 70, 71, 72] (fun _ _ _ i _ _ _ wr => ∃ k : Nat, k ≤ n ∧ i = .int .i64 k ∧ (∀ j, j < k → OkR p S j) ∧ Below w.heap.size w wr) (fun _ _ _ i _ _ _ _ => n - (intOf i).toNat)
      case atStart => exact ⟨0, Nat.zero_le _, rfl, fun j hj => by omega, hb1⟩
      case round =>
        obtain ⟨i, hi, rfl, hall, hbel⟩ := hrel
        have HA : Hid (∀ j, j < i → OkR p S j) := hall
        clear hall hb1
        by_cases hlt : i < n
        · obtain ⟨b, off, rfl, h0, h1, h2, h3⟩ := HZ.out i hlt
          have hb := World.block_lt_of_cell? w _ h0
          have c0 := (hbel.cell (p := ⟨b, off + i * 4, none⟩) hb).trans h0
          have c1 := (hbel.cell (p := ⟨b, off + i * 4 + 1, none⟩) hb).trans h1
          have c2 := (hbel.cell (p := ⟨b, off + i * 4 + 2, none⟩) hb).trans h2
          have c3 := (hbel.cell (p := ⟨b, off + i * 4 + 3, none⟩) hb).trans h3
          have hbox := heap_alloc_new wr (.cells #[.int .i64 (S i).who, .int .i64 (S i).cab, .int .i64 (S i).many, .bool (S i).all] 190)
          have hbx := push hbel (.cells #[.int .i64 (S i).who, .int .i64 (S i).cab, .int .i64 (S i).many, .bool (S i).all] 190)
          clear h0 h1 h2 h3
          go_upto_region 6 with fail
          generalize hW : wr.alloc (.cells #[.int .i64 (S i).who, .int .i64 (S i).cab, .int .i64 (S i).many, .bool (S i).all] 190) = W at hbox hbx ⊢
          clear hW
          have hsW : wr.heap.size < W.heap.size := blk_lt hbox
          have HBX : Hid (W.heap[wr.heap.size]? = some (.cells #[.int .i64 (S i).who, .int .i64 (S i).cab, .int .i64 (S i).many, .bool (S i).all] 190 (0, 0))) := hbox
          generalize wr.heap.size = B at *
          clear c0 c1 c2 c3 hbox hbel
          have i1 : (0 : Int) ≤ (i : Int) := by omega
          have i2 : (i : Int) ≤ (c : Int) := by omega
          go_cut [67] (fun c67 wx => Tells (OkR0 p S i) c67 ∧ Below W.heap.size W wx)
          case first =>
            have z0 : ∀ g : Grown W, g.val.cell? ⟨B, 0, none⟩ = some (.int .i64 (S i).who) := fun g => (g.bel.cell hsW).trans (blk_cell HBX.out 0 _ rfl)
            have z1 : ∀ g : Grown W, g.val.cell? ⟨B, 1, none⟩ = some (.int .i64 (S i).cab) := fun g => (g.bel.cell hsW).trans (blk_cell HBX.out 1 _ rfl)
            have z2 : ∀ g : Grown W, g.val.cell? ⟨B, 2, none⟩ = some (.int .i64 (S i).many) := fun g => (g.bel.cell hsW).trans (blk_cell HBX.out 2 _ rfl)
            have z3 : ∀ g : Grown W, g.val.cell? ⟨B, 3, none⟩ = some (.bool (S i).all) := fun g => (g.bel.cell hsW).trans (blk_cell HBX.out 3 _ rfl)
            by_cases g1 : In (S i).who 1 9999
            · have e1 : decide (In (S i).who 1 9999) = true := decide_eq_true g1
              have H1 : Hid (In (S i).who 1 9999) := g1
              clear g1
              by_cases g2 : Has (whoR S) i (S i).who
              · have H2 : Hid (Has (whoR S) i (S i).who) := g2
                clear g2
                refine wp_region_grow (by kernel_rfl) (by kernel_rfl) ?_
                repeat (first | go_big_quiet_skip | (go_big_quiet_want; go_big_quiet_op; first | go_big_quiet_on | (apply Exists.intro; refine ⟨fun g => ?_, ?_⟩; (focus (first | (go_at_call 119; refine grown_call (v := .bool true) ((l4By_is _ _).mono ?_); rintro e w4 ⟨rfl, rfl⟩; exact ⟨by rw [e1], Below.refl _ _⟩) | (go_at_call 133; refine grown_call (v := .bool true) ((l5Has_any _ i c S (S i).who _ (by omega) ((HZ.out.upto (by omega)).below (after hbx g.bel))).mono ?_); rintro e w4 ⟨⟨bb, rfl, hi⟩, hbb⟩; obtain rfl := hi.2 H2.out; exact ⟨rfl, hbb⟩))); go_big_quiet_on)))
                refine wpQuiet_nil ?_
                rintro _ ⟨g, rfl⟩
                go_wp2
                go_meet
                exact ⟨tells_bad (fun h => h.2.1 H2.out), g.bel⟩
              · have H2 : Hid (¬ Has (whoR S) i (S i).who) := g2
                clear g2
                by_cases g3 : In (S i).cab 0 ((m : Int) - 1)
                · have H3 : Hid (In (S i).cab 0 ((p.n : Int) - 1)) := by rw [HL.out]; exact g3
                  obtain ⟨l, hl⟩ : ∃ l : Nat, (S i).cab = l := ⟨(S i).cab.toNat, by unfold In at g3; omega⟩
                  have hlm : l < m := by unfold In at g3; omega
                  have HLN : Hid ((S i).cab = l) := hl
                  have e3 : decide (In (l : Int) 0 ((m : Int) - 1)) = true := decide_eq_true (by rw [← hl]; exact g3)
                  have z1' : ∀ g : Grown W, g.val.cell? ⟨B, 1, none⟩ = some (.int .i64 (l : Int)) := fun g => by rw [z1 g, hl]
                  obtain ⟨b', off', rfl, k1, k2⟩ := HX.out l (by rw [HL.out]; exact hlm)
                  have hb' := World.block_lt_of_cell? w _ k1
                  have y2 : ∀ g : Grown W, g.val.cell? ⟨b', off' + l * 2 + 1, none⟩ = some (.int .i64 (p.B l)) := fun g => ((after hbx g.bel).cell (p := ⟨b', off' + l * 2 + 1, none⟩) hb').trans k2
                  have l1 : (0 : Int) ≤ (l : Int) := by omega
                  have l2 : (l : Int) < (m : Int) := by omega
                  clear g3 z1 hl k1 k2
                  by_cases g4 : In (S i).many 1 4
                  · have e4 : decide (In (S i).many 1 4) = true := decide_eq_true g4
                    have H4 : Hid (In (S i).many 1 4) := g4
                    clear g4
                    cases hall : (S i).all with
                    | false =>
                      rw [hall] at z3
                      have H5 : Hid ((S i).all = false) := hall
                      clear hall
                      refine wp_region_grow (by kernel_rfl) (by kernel_rfl) ?_
                      repeat (first | go_big_quiet_skip | (go_big_quiet_want; go_big_quiet_op; first | go_big_quiet_on | (apply Exists.intro; refine ⟨fun g => ?_, ?_⟩; (focus (first | (go_at_call 119; refine grown_call (v := .bool true) ((l4By_is _ _).mono ?_); rintro e w4 ⟨rfl, rfl⟩; exact ⟨by rw [e1], Below.refl _ _⟩) | (go_at_call 133; refine grown_call (v := .bool false) ((l5Has_any _ i c S (S i).who _ (by omega) ((HZ.out.upto (by omega)).below (after hbx g.bel))).mono ?_); rintro e w4 ⟨⟨bb, rfl, hi⟩, hbb⟩; obtain rfl := Bool.eq_false_iff.2 (fun e => H2.out (hi.1 e)); exact ⟨rfl, hbb⟩) | (go_at_call 19; first | (refine grown_call (v := .bool true) ((l1In_is _ _ _ _).mono ?_); rintro e w4 ⟨rfl, rfl⟩; exact ⟨by rw [e3], Below.refl _ _⟩) | (refine grown_call (v := .bool true) ((l1In_is _ _ _ _).mono ?_); rintro e w4 ⟨rfl, rfl⟩; exact ⟨by rw [e4], Below.refl _ _⟩)))); go_big_quiet_on)))
                      refine wpQuiet_nil ?_
                      rintro _ ⟨g, rfl⟩
                      go_wp2
                      go_meet
                      exact ⟨tells_good ⟨H1.out, H2.out, H3.out, H4.out, fun h => by rw [H5.out] at h; cases h⟩, g.bel⟩
                    | true =>
                      rw [hall] at z3
                      have H5 : Hid ((S i).all = true) := hall
                      clear hall
                      by_cases g6 : (S i).many = p.B l
                      · have e6 : ((S i).many == p.B l) = true := by simpa using g6
                        have e7 : ((S i).many != p.B l) = false := by simpa using g6
                        have H6 : Hid ((S i).many = p.B l) := g6
                        clear g6
                        refine wp_region_grow (by kernel_rfl) (by kernel_rfl) ?_
                        repeat (first | go_big_quiet_skip | (go_big_quiet_want; go_big_quiet_op; first | go_big_quiet_on | (apply Exists.intro; refine ⟨fun g => ?_, ?_⟩; (focus (first | (go_at_call 119; refine grown_call (v := .bool true) ((l4By_is _ _).mono ?_); rintro e w4 ⟨rfl, rfl⟩; exact ⟨by rw [e1], Below.refl _ _⟩) | (go_at_call 133; refine grown_call (v := .bool false) ((l5Has_any _ i c S (S i).who _ (by omega) ((HZ.out.upto (by omega)).below (after hbx g.bel))).mono ?_); rintro e w4 ⟨⟨bb, rfl, hi⟩, hbb⟩; obtain rfl := Bool.eq_false_iff.2 (fun e => H2.out (hi.1 e)); exact ⟨rfl, hbb⟩) | (go_at_call 19; first | (refine grown_call (v := .bool true) ((l1In_is _ _ _ _).mono ?_); rintro e w4 ⟨rfl, rfl⟩; exact ⟨by rw [e3], Below.refl _ _⟩) | (refine grown_call (v := .bool true) ((l1In_is _ _ _ _).mono ?_); rintro e w4 ⟨rfl, rfl⟩; exact ⟨by rw [e4], Below.refl _ _⟩)))); go_big_quiet_on)))
                        refine wpQuiet_nil ?_
                        rintro _ ⟨g, rfl⟩
                        go_wp2
                        go_meet
                        exact ⟨tells_good ⟨H1.out, H2.out, H3.out, H4.out, fun _ => by rw [HLN.out]; exact H6.out⟩, g.bel⟩
                      · have e6 : ((S i).many == p.B l) = false := by simpa using g6
                        have e7 : ((S i).many != p.B l) = true := by simpa using g6
                        have H6 : Hid (¬ (S i).many = p.B l) := g6
                        clear g6
                        refine wp_region_grow (by kernel_rfl) (by kernel_rfl) ?_
                        repeat (first | go_big_quiet_skip | (go_big_quiet_want; go_big_quiet_op; first | go_big_quiet_on | (apply Exists.intro; refine ⟨fun g => ?_, ?_⟩; (focus (first | (go_at_call 119; refine grown_call (v := .bool true) ((l4By_is _ _).mono ?_); rintro e w4 ⟨rfl, rfl⟩; exact ⟨by rw [e1], Below.refl _ _⟩) | (go_at_call 133; refine grown_call (v := .bool false) ((l5Has_any _ i c S (S i).who _ (by omega) ((HZ.out.upto (by omega)).below (after hbx g.bel))).mono ?_); rintro e w4 ⟨⟨bb, rfl, hi⟩, hbb⟩; obtain rfl := Bool.eq_false_iff.2 (fun e => H2.out (hi.1 e)); exact ⟨rfl, hbb⟩) | (go_at_call 19; first | (refine grown_call (v := .bool true) ((l1In_is _ _ _ _).mono ?_); rintro e w4 ⟨rfl, rfl⟩; exact ⟨by rw [e3], Below.refl _ _⟩) | (refine grown_call (v := .bool true) ((l1In_is _ _ _ _).mono ?_); rintro e w4 ⟨rfl, rfl⟩; exact ⟨by rw [e4], Below.refl _ _⟩)))); go_big_quiet_on)))
                        refine wpQuiet_nil ?_
                        rintro _ ⟨g, rfl⟩
                        go_wp2
                        go_meet
                        exact ⟨tells_bad (fun h => H6.out (by have := h.2.2.2.2 H5.out; rw [HLN.out] at this; exact this)), g.bel⟩
                  · have e4 : decide (In (S i).many 1 4) = false := decide_eq_false g4
                    have H4 : Hid (¬ In (S i).many 1 4) := g4
                    clear g4
                    refine wp_region_grow (by kernel_rfl) (by kernel_rfl) ?_
                    repeat (first | go_big_quiet_skip | (go_big_quiet_want; go_big_quiet_op; first | go_big_quiet_on | (apply Exists.intro; refine ⟨fun g => ?_, ?_⟩; (focus (first | (go_at_call 119; refine grown_call (v := .bool true) ((l4By_is _ _).mono ?_); rintro e w4 ⟨rfl, rfl⟩; exact ⟨by rw [e1], Below.refl _ _⟩) | (go_at_call 133; refine grown_call (v := .bool false) ((l5Has_any _ i c S (S i).who _ (by omega) ((HZ.out.upto (by omega)).below (after hbx g.bel))).mono ?_); rintro e w4 ⟨⟨bb, rfl, hi⟩, hbb⟩; obtain rfl := Bool.eq_false_iff.2 (fun e => H2.out (hi.1 e)); exact ⟨rfl, hbb⟩) | (go_at_call 19; first | (refine grown_call (v := .bool true) ((l1In_is _ _ _ _).mono ?_); rintro e w4 ⟨rfl, rfl⟩; exact ⟨by rw [e3], Below.refl _ _⟩) | (refine grown_call (v := .bool false) ((l1In_is _ _ _ _).mono ?_); rintro e w4 ⟨rfl, rfl⟩; exact ⟨by rw [e4], Below.refl _ _⟩)))); go_big_quiet_on)))
                    refine wpQuiet_nil ?_
                    rintro _ ⟨g, rfl⟩
                    go_wp2
                    go_meet
                    exact ⟨tells_bad (fun h => H4.out h.2.2.2.1), g.bel⟩
                · have e3 : decide (In (S i).cab 0 ((m : Int) - 1)) = false := decide_eq_false g3
                  have H3 : Hid (¬ In (S i).cab 0 ((p.n : Int) - 1)) := by rw [HL.out]; exact g3
                  clear g3
                  refine wp_region_grow (by kernel_rfl) (by kernel_rfl) ?_
                  repeat (first | go_big_quiet_skip | (go_big_quiet_want; go_big_quiet_op; first | go_big_quiet_on | (apply Exists.intro; refine ⟨fun g => ?_, ?_⟩; (focus (first | (go_at_call 119; refine grown_call (v := .bool true) ((l4By_is _ _).mono ?_); rintro e w4 ⟨rfl, rfl⟩; exact ⟨by rw [e1], Below.refl _ _⟩) | (go_at_call 133; refine grown_call (v := .bool false) ((l5Has_any _ i c S (S i).who _ (by omega) ((HZ.out.upto (by omega)).below (after hbx g.bel))).mono ?_); rintro e w4 ⟨⟨bb, rfl, hi⟩, hbb⟩; obtain rfl := Bool.eq_false_iff.2 (fun e => H2.out (hi.1 e)); exact ⟨rfl, hbb⟩) | (go_at_call 19; first | (refine grown_call (v := .bool false) ((l1In_is _ _ _ _).mono ?_); rintro e w4 ⟨rfl, rfl⟩; exact ⟨by rw [e3], Below.refl _ _⟩)))); go_big_quiet_on)))
                  refine wpQuiet_nil ?_
                  rintro _ ⟨g, rfl⟩
                  go_wp2
                  go_meet
                  exact ⟨tells_bad (fun h => H3.out h.2.2.1), g.bel⟩
            · have e1 : decide (In (S i).who 1 9999) = false := decide_eq_false g1
              have H1 : Hid (¬ In (S i).who 1 9999) := g1
              clear g1
              refine wp_region_grow (by kernel_rfl) (by kernel_rfl) ?_
              repeat (first | go_big_quiet_skip | (go_big_quiet_want; go_big_quiet_op; first | go_big_quiet_on | (apply Exists.intro; refine ⟨fun g => ?_, ?_⟩; (focus (first | (go_at_call 119; refine grown_call (v := .bool false) ((l4By_is _ _).mono ?_); rintro e w4 ⟨rfl, rfl⟩; exact ⟨by rw [e1], Below.refl _ _⟩))); go_big_quiet_on)))
              refine wpQuiet_nil ?_
              rintro _ ⟨g, rfl⟩
              go_wp2
              go_meet
              exact ⟨tells_bad (fun h => H1.out h.1), g.bel⟩
          case rest =>
            obtain ⟨⟨tb, rfl, htb⟩, hbc⟩ := hcut
            have HT : Hid (tb = false ↔ OkR0 p S i) := htb
            have bwc := after hbx hbc
            have hboxc := blk_below HBX.out hbc
            clear htb hbx hbc HBX
            cases tb with
            | true =>
              have HNO : Hid (¬ OkR0 p S i) := fun h => by have := HT.out.2 h; cases this
              clear HT
              go_wp2
              go_ret
              exact ⟨says_no (fun h => HNO.out (h.2.2.1 i hlt).1), bwc⟩
            | false =>
              have H0 : Hid (OkR0 p S i) := HT.out.1 rfl
              clear HT
              generalize wc = W2 at *
              go_wp2
              go_loopw [8, 72] (fun _ j wq => ∃ k : Nat, k ≤ i ∧ j = .int .i64 k ∧ (∀ j, j < k → OkR2 S i j) ∧ Below W2.heap.size W2 wq) (fun _ j _ => i - (intOf j).toNat)
              case atStart => exact ⟨0, Nat.zero_le _, rfl, fun j hj => by omega, Below.refl _ _⟩
              case round =>
                obtain ⟨k, hk, rfl, hall2, hbel2⟩ := hrel
                have HA2 : Hid (∀ j, j < k → OkR2 S i j) := hall2
                clear hall2
                by_cases hlt2 : k < i
                · obtain ⟨b2, off2, e2, h0, h1, h2, h3⟩ := HZ.out k (by omega)
                  simp only [Option.some.injEq, Addr.mk.injEq, and_true] at e2
                  obtain ⟨rfl, rfl⟩ := e2
                  have c0 := ((after bwc hbel2).cell (p := ⟨b, off + k * 4, none⟩) hb).trans h0
                  have c1 := ((after bwc hbel2).cell (p := ⟨b, off + k * 4 + 1, none⟩) hb).trans h1
                  have c2 := ((after bwc hbel2).cell (p := ⟨b, off + k * 4 + 2, none⟩) hb).trans h2
                  have c3 := ((after bwc hbel2).cell (p := ⟨b, off + k * 4 + 3, none⟩) hb).trans h3
                  have hB2 := blk_alloc (blk_below hboxc hbel2) (.cells #[.int .i64 (S k).who, .int .i64 (S k).cab, .int .i64 (S k).many, .bool (S k).all] 190)
                  have y1 := blk_cell hB2 1 _ rfl
                  have y3 := blk_cell hB2 3 _ rfl
                  clear h0 h1 h2 h3 hB2
                  by_cases g1 : (S k).cab = (S i).cab
                  · have e1 : ((S k).cab == (S i).cab) = true := by simpa using g1
                    have HG1 : Hid ((S k).cab = (S i).cab) := g1
                    clear g1
                    cases ho : (S k).all with
                    | true =>
                      rw [ho] at c3 y1 y3
                      have HO : Hid ((S k).all = true) := ho
                      clear ho
                      go_wp2
                      go_ret
                      exact ⟨says_no (fun h => by have := ((h.2.2.1 i hlt).2 k hlt2 HG1.out).1; rw [HO.out] at this; cases this), after bwc (push hbel2 _)⟩
                    | false =>
                      rw [ho] at c3 y1 y3
                      have HO : Hid ((S k).all = false) := ho
                      clear ho
                      cases hr : (S i).all with
                      | true =>
                        rw [hr] at y3
                        have HR : Hid ((S i).all = true) := hr
                        clear hr
                        go_wp2
                        go_ret
                        exact ⟨says_no (fun h => by have := ((h.2.2.1 i hlt).2 k hlt2 HG1.out).2; rw [HR.out] at this; cases this), after bwc (push hbel2 _)⟩
                      | false =>
                        rw [hr] at y3
                        have HR : Hid ((S i).all = false) := hr
                        clear hr
                        go_wp2
                        go_roundw
                        case rel => exact ⟨k + 1, by omega, by go_num, fun j hj => by
                          by_cases e : j = k
                          · subst e; exact fun _ => ⟨HO.out, HR.out⟩
                          · exact HA2.out j (by omega), push hbel2 _⟩
                        case measure => simp [intOf]; omega
                  · have e1 : ((S k).cab == (S i).cab) = false := by simpa using g1
                    have HG1 : Hid (¬ (S k).cab = (S i).cab) := g1
                    clear g1
                    go_wp2
                    go_roundw
                    case rel => exact ⟨k + 1, by omega, by go_num, fun j hj => by
                      by_cases e : j = k
                      · subst e; exact fun h => absurd h HG1.out
                      · exact HA2.out j (by omega), push hbel2 _⟩
                    case measure => simp [intOf]; omega
                · obtain rfl : k = i := by omega
                  have HAN : Hid (∀ j, j < k + 1 → OkR p S j) := fun j hj => by
                    by_cases e : j = k
                    · subst e; exact ⟨H0.out, HA2.out⟩
                    · exact HA.out j (by omega)
                  go_wp2
                  go_roundw
                  case rel => exact ⟨k + 1, by omega, by go_num, HAN.out, after bwc hbel2⟩
                  case measure => simp [intOf]; omega
        · obtain rfl : i = n := by omega
          go_wp2_with fail
          refine (l5Free_any ao bo m mc i c p S _ HL.out HG.out h60 (fun j hj => (HA.out j hj).1.2.2.2.1) (HX.out.below hbel) (HZ.out.below hbel)).mono ?_
          rintro e w2 ⟨⟨v, rfl, hown⟩, hb2⟩
          obtain ⟨aw, cw, rfl, _⟩ := own_form hown
          have HI : Hid (IntsAt w2 aw m (leftR p S i)) := own_ints hown
          have hbw := after hbel hb2
          clear hown hb2 hbel
          go_wp2
          go_loopw [10, 95] (fun _ j wr => ∃ k : Nat, k ≤ m ∧ j = .int .i64 k ∧ (∀ j, j < k → 0 ≤ leftR p S i j) ∧ wr = w2) (fun _ j _ => m - (intOf j).toNat)
          case atStart => exact ⟨0, Nat.zero_le _, rfl, fun j hj => by omega, rfl⟩
          case round =>
            obtain ⟨k, hk, rfl, hall, hwr⟩ := hrel
            have hwr' := hwr.symm
            subst hwr'
            clear hwr
            have HK : Hid (∀ j, j < k → 0 ≤ leftR p S i j) := hall
            clear hall
            by_cases hlt3 : k < m
            · obtain ⟨b3, off3, rfl, h0⟩ := HI.out k hlt3
              by_cases hneg : leftR p S i k < 0
              · have e1 : decide (leftR p S i k < 0) = true := decide_eq_true hneg
                have HNE : Hid (leftR p S i k < 0) := hneg
                clear hneg
                go_wp2
                go_ret
                exact ⟨says_no (fun h => by have := h.2.2.2 k (by rw [HL.out]; exact hlt3); have := HNE.out; omega), hbw⟩
              · have e1 : decide (leftR p S i k < 0) = false := decide_eq_false hneg
                have HNE : Hid (¬ leftR p S i k < 0) := hneg
                clear hneg
                go_wp2
                go_roundw
                case rel => exact ⟨k + 1, by omega, by go_num, fun j hj => by
                  by_cases e : j = k
                  · subst e; have := HNE.out; omega
                  · exact HK.out j (by omega), by trivial⟩
                case measure => simp [intOf]; omega
            · obtain rfl : k = m := by omega
              go_wp2
              go_ret
              exact ⟨says_yes ⟨HG.out, h60, HA.out, fun j hj => HK.out j (by rw [HL.out] at hj; exact hj)⟩, hbw⟩
    · have d0 : decide (60 < n) = true := by simp; omega
      go_wp2
      go_ret
      exact ⟨says_no (fun h => h60 h.2.1), hb1⟩

end Go.Proofs.YtfallpinmhbemaaGreatDoor

namespace Go.Proofs.YtfallpinmhbemaaGreatDoor
open Go.RowKit

/-- What looking for a cabin answers. -/
def RIx (n m : Nat) (P : Nat → Prop) (r : Int) : Prop := (∃ k : Nat, r = (k : Int) ∧ n ≠ 60 ∧ FirstOf m P k) ∨ (r = -1 ∧ (n = 60 ∨ ∀ k, ¬ FirstOf m P k))

set_option maxHeartbeats 3200000 in
set_option maxRecDepth 100000 in
theorem l5Berths_any (ao bo : Option Addr) (m mc n c : Nat) (p : Pairs) (S : Nat → Room) (cl q : Int) (w : World) (hl : p.n = m) (hd : RoomsS p n S) (hx : PairsAt w ao p) (hz : RoomsAt w bo n S) :
    Calls Tryz.prog 141 #[.slice ao m mc, .slice bo n c, .int .i64 cl, .int .i64 q] w fun e w' => (∃ r : Int, e = .returned (.int .i64 r) ∧ RIx n p.n (BerthP p n S cl q) r) ∧ Below w.heap.size w w' := by
  have HL : Hid (p.n = m) := hl
  have HD : Hid (RoomsS p n S) := hd
  have HX : Hid (PairsAt w ao p) := hx
  have HZ : Hid (RoomsAt w bo n S) := hz
  have hm4 : m ≤ 6 := by rw [← hl]; exact hd.1.1
  have hn60 : n ≤ 60 := hd.2.1
  clear hl hd hx hz
  by_cases h60 : n = 60
  · have e60 : (n == 60) = true := by simpa using h60
    have e61 : ((n : Int) == 60) = true := by simp; omega
    have H60 : Hid (n = 60) := h60
    clear h60
    go_enter Tryz.func141, Tryz.ntmps141
    go_wp2
    go_ret
    exact ⟨⟨_, rfl, .inr ⟨rfl, .inl H60.out⟩⟩, Below.refl _ _⟩
  · have e60 : (n == 60) = false := by simpa using h60
    have e61 : ((n : Int) == 60) = false := by simp; omega
    have H60 : Hid (n ≠ 60) := h60
    clear h60
    go_enter Tryz.func141, Tryz.ntmps141
    go_wp2_with fail
    refine (l5Free_any ao bo m mc n c p S _ HL.out HD.out.1 hn60 HD.out.manys HX.out HZ.out).mono ?_
    rintro e w1 ⟨⟨v, rfl, hown⟩, hb1⟩
    obtain ⟨aw, cw, rfl, _⟩ := own_form hown
    have HI : Hid (IntsAt w1 aw m (leftR p S n)) := own_ints hown
    clear hown
    go_wp2
    go_loopw [10, 11, 20] (fun _ _ i wr => ∃ k : Nat, k ≤ m ∧ i = .int .i64 k ∧ (∀ j : Nat, j < k → ¬ BerthP p n S cl q j) ∧ Below w1.heap.size w1 wr) (fun _ _ i _ => m - (intOf i).toNat)
    case atStart => exact ⟨0, Nat.zero_le _, rfl, fun j hj => by omega, Below.refl _ _⟩
    case round =>
      obtain ⟨k, hk, rfl, hall, hbel⟩ := hrel
      have HA : Hid (∀ j : Nat, j < k → ¬ BerthP p n S cl q j) := hall
      clear hall
      by_cases hlt : k < m
      · obtain ⟨b, off, rfl, h1, h2⟩ := HX.out k (by rw [HL.out]; exact hlt)
        have hb := World.block_lt_of_cell? w _ h1
        have c1 := ((after hb1 hbel).cell (p := ⟨b, off + k * 2, none⟩) hb).trans h1
        have c2 := ((after hb1 hbel).cell (p := ⟨b, off + k * 2 + 1, none⟩) hb).trans h2
        obtain ⟨b3, off3, rfl, h3⟩ := HI.out k hlt
        have hb3 := World.block_lt_of_cell? w1 _ h3
        have c3 : (wr.alloc (.cells #[.int .i64 (p.A k), .int .i64 (p.B k)] 110)).cell? ⟨b3, off3 + k, none⟩ = some (.int .i64 (leftR p S n k)) := ((push hbel _).cell (p := ⟨b3, off3 + k, none⟩) hb3).trans h3
        have i1 : (0 : Int) ≤ (k : Int) := by omega
        have i2 : (k : Int) < (m : Int) := by omega
        clear h1 h2 h3
        by_cases g1 : p.A k = cl
        · have e1 : (p.A k == cl) = true := by simpa using g1
          by_cases g2 : q ≤ leftR p S n k
          · have e2 : decide (q ≤ leftR p S n k) = true := decide_eq_true g2
            have HF : Hid (FirstOf p.n (BerthP p n S cl q) k) := ⟨by rw [HL.out]; exact hlt, ⟨g1, g2⟩, HA.out⟩
            clear g1 g2
            go_wp2
            go_ret
            exact ⟨⟨_, rfl, .inl ⟨k, rfl, H60.out, HF.out⟩⟩, after hb1 (push hbel _)⟩
          · have e2 : decide (q ≤ leftR p S n k) = false := decide_eq_false g2
            have HF : Hid (¬ BerthP p n S cl q k) := fun h => g2 h.2
            clear g1 g2
            go_wp2
            go_roundw
            case rel => exact ⟨k + 1, by omega, by go_num, fun j hj => by
              by_cases e : j = k
              · subst e; exact HF.out
              · exact HA.out j (by omega), push hbel _⟩
            case measure => simp [intOf]; omega
        · have e1 : (p.A k == cl) = false := by simpa using g1
          have HF : Hid (¬ BerthP p n S cl q k) := fun h => g1 h.1
          clear g1
          go_wp2
          go_roundw
          case rel => exact ⟨k + 1, by omega, by go_num, fun j hj => by
            by_cases e : j = k
            · subst e; exact HF.out
            · exact HA.out j (by omega), push hbel _⟩
          case measure => simp [intOf]; omega
      · obtain rfl : k = m := by omega
        go_wp2
        go_ret
        exact ⟨⟨_, rfl, .inr ⟨rfl, .inr (fun j h => HA.out j (by have := h.1; rw [HL.out] at this; exact this) h.2.1)⟩⟩, after hb1 hbel⟩

set_option maxHeartbeats 3200000 in
set_option maxRecDepth 100000 in
theorem l5Whole_any (ao bo : Option Addr) (m mc n c : Nat) (p : Pairs) (S : Nat → Room) (cl q : Int) (w : World) (hl : p.n = m) (hd : RoomsS p n S) (hx : PairsAt w ao p) (hz : RoomsAt w bo n S) :
    Calls Tryz.prog 142 #[.slice ao m mc, .slice bo n c, .int .i64 cl, .int .i64 q] w fun e w' => (∃ r : Int, e = .returned (.int .i64 r) ∧ RIx n p.n (WholeP p n S cl q) r) ∧ Below w.heap.size w w' := by
  have HL : Hid (p.n = m) := hl
  have HD : Hid (RoomsS p n S) := hd
  have HX : Hid (PairsAt w ao p) := hx
  have HZ : Hid (RoomsAt w bo n S) := hz
  have hm4 : m ≤ 6 := by rw [← hl]; exact hd.1.1
  have hn60 : n ≤ 60 := hd.2.1
  clear hl hd hx hz
  by_cases h60 : n = 60
  · have e60 : (n == 60) = true := by simpa using h60
    have e61 : ((n : Int) == 60) = true := by simp; omega
    have H60 : Hid (n = 60) := h60
    clear h60
    go_enter Tryz.func142, Tryz.ntmps142
    go_wp2
    go_ret
    exact ⟨⟨_, rfl, .inr ⟨rfl, .inl H60.out⟩⟩, Below.refl _ _⟩
  · have e60 : (n == 60) = false := by simpa using h60
    have e61 : ((n : Int) == 60) = false := by simp; omega
    have H60 : Hid (n ≠ 60) := h60
    clear h60
    go_enter Tryz.func142, Tryz.ntmps142
    go_wp2_with fail
    refine (l5Free_any ao bo m mc n c p S _ HL.out HD.out.1 hn60 HD.out.manys HX.out HZ.out).mono ?_
    rintro e w1 ⟨⟨v, rfl, hown⟩, hb1⟩
    obtain ⟨aw, cw, rfl, _⟩ := own_form hown
    have HI : Hid (IntsAt w1 aw m (leftR p S n)) := own_ints hown
    clear hown
    go_wp2
    go_loopw [10, 12, 23] (fun v _ i wr => ∃ (k : Nat) (L : Bool), k ≤ m ∧ i = .int .i64 k ∧ v = .bool L ∧ (L = true ↔ ∃ j, j < k ∧ p.A j = cl ∧ q ≤ p.B j) ∧ Below w1.heap.size w1 wr) (fun _ _ i _ => m - (intOf i).toNat)
    case atStart => exact ⟨0, false, Nat.zero_le _, rfl, rfl, ⟨fun h => (by cases h), fun ⟨j, hj, _⟩ => (by omega)⟩, Below.refl _ _⟩
    case round =>
      obtain ⟨k, L, hk, rfl, rfl, hL, hbel⟩ := hrel
      have HLG : Hid (L = true ↔ ∃ j, j < k ∧ p.A j = cl ∧ q ≤ p.B j) := hL
      clear hL
      by_cases hlt : k < m
      · obtain ⟨b, off, rfl, h1, h2⟩ := HX.out k (by rw [HL.out]; exact hlt)
        have hb := World.block_lt_of_cell? w _ h1
        have c1 := ((after hb1 hbel).cell (p := ⟨b, off + k * 2, none⟩) hb).trans h1
        have c2 := ((after hb1 hbel).cell (p := ⟨b, off + k * 2 + 1, none⟩) hb).trans h2
        clear h1 h2
        cases L with
        | true =>
          go_wp2
          go_roundw
          case rel => exact ⟨k + 1, true, by omega, by go_num, rfl, ⟨fun _ => (by obtain ⟨j, hj, h⟩ := HLG.out.1 rfl; exact ⟨j, by omega, h⟩), fun _ => rfl⟩, push hbel _⟩
          case measure => simp [intOf]; omega
        | false =>
          have HN : Hid (¬ ∃ j, j < k ∧ p.A j = cl ∧ q ≤ p.B j) := fun h => by have := HLG.out.2 h; cases this
          clear HLG
          by_cases g1 : p.A k = cl
          · have e1 : (p.A k == cl) = true := by simpa using g1
            by_cases g2 : q ≤ p.B k
            · have e2 : decide (q ≤ p.B k) = true := decide_eq_true g2
              have HG : Hid (p.A k = cl ∧ q ≤ p.B k) := ⟨g1, g2⟩
              clear g1 g2
              go_wp2
              go_roundw
              case rel => exact ⟨k + 1, true, by omega, by go_num, rfl, ⟨fun _ => ⟨k, by omega, HG.out⟩, fun _ => rfl⟩, push hbel _⟩
              case measure => simp [intOf]; omega
            · have e2 : decide (q ≤ p.B k) = false := decide_eq_false g2
              have HG : Hid (¬ (p.A k = cl ∧ q ≤ p.B k)) := fun h => g2 h.2
              clear g1 g2
              go_wp2
              go_roundw
              case rel => exact ⟨k + 1, false, by omega, by go_num, rfl, ⟨fun h => (by cases h), fun ⟨j, hj, h⟩ => by
                by_cases e : j = k
                · subst e; exact absurd h HG.out
                · exact absurd ⟨j, by omega, h⟩ HN.out⟩, push hbel _⟩
              case measure => simp [intOf]; omega
          · have e1 : (p.A k == cl) = false := by simpa using g1
            have HG : Hid (¬ (p.A k = cl ∧ q ≤ p.B k)) := fun h => g1 h.1
            clear g1
            go_wp2
            go_roundw
            case rel => exact ⟨k + 1, false, by omega, by go_num, rfl, ⟨fun h => (by cases h), fun ⟨j, hj, h⟩ => by
              by_cases e : j = k
              · subst e; exact absurd h HG.out
              · exact absurd ⟨j, by omega, h⟩ HN.out⟩, push hbel _⟩
            case measure => simp [intOf]; omega
      · obtain rfl : k = m := by omega
        have HLP : Hid (L = true ↔ ∃ j, j < p.n ∧ p.A j = cl ∧ q ≤ p.B j) := by rw [HL.out]; exact HLG.out
        have HI2 : Hid (IntsAt wr aw k (leftR p S n)) := HI.out.below hbel
        have hb2 := after hb1 hbel
        clear HLG HI hb1 hbel
        generalize wr = w2 at *
        go_wp2
        go_loopw [13, 14, 43] (fun _ _ i wr => ∃ t : Nat, t ≤ k ∧ i = .int .i64 t ∧ (∀ j : Nat, j < t → ¬ WholeP p n S cl q j) ∧ Below w2.heap.size w2 wr) (fun _ _ i _ => k - (intOf i).toNat)
        case atStart => exact ⟨0, Nat.zero_le _, rfl, fun j hj => by omega, Below.refl _ _⟩
        case round =>
          obtain ⟨t, ht, rfl, hall, hbel⟩ := hrel
          have HA : Hid (∀ j : Nat, j < t → ¬ WholeP p n S cl q j) := hall
          clear hall
          by_cases hlt2 : t < k
          · obtain ⟨b, off, rfl, h1, h2⟩ := HX.out t (by rw [HL.out]; exact hlt2)
            have hb := World.block_lt_of_cell? w _ h1
            have c1 := ((after hb2 hbel).cell (p := ⟨b, off + t * 2, none⟩) hb).trans h1
            have c2 := ((after hb2 hbel).cell (p := ⟨b, off + t * 2 + 1, none⟩) hb).trans h2
            obtain ⟨b3, off3, rfl, h3⟩ := HI2.out t hlt2
            have hb3 := World.block_lt_of_cell? w2 _ h3
            have hbox := heap_alloc_new wr (.cells #[.int .i64 (p.A t), .int .i64 (p.B t)] 110)
            have hbx := push hbel (.cells #[.int .i64 (p.A t), .int .i64 (p.B t)] 110)
            clear h1 h2
            go_upto_region 13 with fail
            generalize hW : wr.alloc (.cells #[.int .i64 (p.A t), .int .i64 (p.B t)] 110) = W at hbox hbx ⊢
            clear hW
            have hsW : wr.heap.size < W.heap.size := blk_lt hbox
            have z0 : ∀ g : Grown W, g.val.cell? ⟨wr.heap.size, 0, none⟩ = some (.int .i64 (p.A t)) := fun g => (g.bel.cell hsW).trans (blk_cell hbox 0 _ rfl)
            have z1 : ∀ g : Grown W, g.val.cell? ⟨wr.heap.size, 1, none⟩ = some (.int .i64 (p.B t)) := fun g => (g.bel.cell hsW).trans (blk_cell hbox 1 _ rfl)
            have y3 : ∀ g : Grown W, g.val.cell? ⟨b3, off3 + t, none⟩ = some (.int .i64 (leftR p S n t)) := fun g => ((after hbx g.bel).cell (p := ⟨b3, off3 + t, none⟩) hb3).trans h3
            have i1 : (0 : Int) ≤ (t : Int) := by omega
            have i2 : (t : Int) < (k : Int) := by omega
            clear c1 c2 hbox hbel h3
            by_cases g1 : p.A t = cl
            · have e1 : (p.A t == cl) = true := by simpa using g1
              by_cases g2 : leftR p S n t = p.B t
              · have e2 : (leftR p S n t == p.B t) = true := by simpa using g2
                by_cases g3 : q ≤ p.B t
                · have e3 : decide (q ≤ p.B t) = true := decide_eq_true g3
                  have HF : Hid (FirstOf p.n (WholeP p n S cl q) t) := ⟨by rw [HL.out]; exact hlt2, ⟨g1, g2, .inl g3⟩, HA.out⟩
                  clear g1 g2 g3
                  refine wp_region_grow (by kernel_rfl) (by kernel_rfl) ?_
                  repeat (first | go_big_quiet_skip | (go_big_quiet_want; go_big_quiet_op; go_big_quiet_on))
                  refine wpQuiet_nil ?_
                  rintro _ ⟨g, rfl⟩
                  go_wp2
                  go_ret
                  exact ⟨⟨_, rfl, .inl ⟨t, rfl, H60.out, HF.out⟩⟩, after hb2 (after hbx g.bel)⟩
                · have e3 : decide (q ≤ p.B t) = false := decide_eq_false g3
                  cases L with
                  | false =>
                    have HF : Hid (FirstOf p.n (WholeP p n S cl q) t) := ⟨by rw [HL.out]; exact hlt2, ⟨g1, g2, .inr (fun h => by have := HLP.out.2 h; cases this)⟩, HA.out⟩
                    clear g1 g2 g3
                    refine wp_region_grow (by kernel_rfl) (by kernel_rfl) ?_
                    repeat (first | go_big_quiet_skip | (go_big_quiet_want; go_big_quiet_op; go_big_quiet_on))
                    refine wpQuiet_nil ?_
                    rintro _ ⟨g, rfl⟩
                    go_wp2
                    go_ret
                    exact ⟨⟨_, rfl, .inl ⟨t, rfl, H60.out, HF.out⟩⟩, after hb2 (after hbx g.bel)⟩
                  | true =>
                    have HF : Hid (¬ WholeP p n S cl q t) := fun h => by
                      rcases h.2.2 with h | h
                      · exact g3 h
                      · exact h (HLP.out.1 rfl)
                    clear g1 g2 g3
                    refine wp_region_grow (by kernel_rfl) (by kernel_rfl) ?_
                    repeat (first | go_big_quiet_skip | (go_big_quiet_want; go_big_quiet_op; go_big_quiet_on))
                    refine wpQuiet_nil ?_
                    rintro _ ⟨g, rfl⟩
                    go_wp2
                    go_roundw
                    case rel => exact ⟨t + 1, by omega, by go_num, fun j hj => by
                      by_cases e : j = t
                      · subst e; exact HF.out
                      · exact HA.out j (by omega), after hbx g.bel⟩
                    case measure => simp [intOf]; omega
              · have e2 : (leftR p S n t == p.B t) = false := by simpa using g2
                have HF : Hid (¬ WholeP p n S cl q t) := fun h => g2 h.2.1
                clear g1 g2
                refine wp_region_grow (by kernel_rfl) (by kernel_rfl) ?_
                repeat (first | go_big_quiet_skip | (go_big_quiet_want; go_big_quiet_op; go_big_quiet_on))
                refine wpQuiet_nil ?_
                rintro _ ⟨g, rfl⟩
                go_wp2
                go_roundw
                case rel => exact ⟨t + 1, by omega, by go_num, fun j hj => by
                  by_cases e : j = t
                  · subst e; exact HF.out
                  · exact HA.out j (by omega), after hbx g.bel⟩
                case measure => simp [intOf]; omega
            · have e1 : (p.A t == cl) = false := by simpa using g1
              have HF : Hid (¬ WholeP p n S cl q t) := fun h => g1 h.1
              clear g1
              refine wp_region_grow (by kernel_rfl) (by kernel_rfl) ?_
              repeat (first | go_big_quiet_skip | (go_big_quiet_want; go_big_quiet_op; go_big_quiet_on))
              refine wpQuiet_nil ?_
              rintro _ ⟨g, rfl⟩
              go_wp2
              go_roundw
              case rel => exact ⟨t + 1, by omega, by go_num, fun j hj => by
                by_cases e : j = t
                · subst e; exact HF.out
                · exact HA.out j (by omega), after hbx g.bel⟩
              case measure => simp [intOf]; omega
          · obtain rfl : t = k := by omega
            go_wp2
            go_ret
            exact ⟨⟨_, rfl, .inr ⟨rfl, .inr (fun j h => HA.out j (by have := h.1; rw [HL.out] at this; exact this) h.2.1)⟩⟩, after hb2 hbel⟩

end Go.Proofs.YtfallpinmhbemaaGreatDoor

namespace Go.Proofs.YtfallpinmhbemaaGreatDoor
open Go.RowKit

/-- What a work answers: a code, and the load behind it. -/
inductive WorkIs (s : Sail) (w : Wk) (x : Load) : Int → Load → Prop
  | noStay (r : Nat) (e : w.res = 0) (g : w.goes = true) (h : r < x.stn) (q : (x.st r).who = w.who) : WorkIs s w x 0 (x.noStay r)
  | noRoom (r : Nat) (e : w.res = 1) (g : w.goes = true) (h : r < x.ron) (q : (x.ro r).who = w.who) : WorkIs s w x 0 (x.noRoom r)
  | noSeat (r : Nat) (e : w.res = 2) (g : w.goes = true) (h : r < x.sen) (q : (x.se r).who = w.who) : WorkIs s w x 0 (x.noSeat r)
  | addStay (k : Nat) (e : w.res = 0) (g : w.goes = false) (h : PlaceIx s.la x.stn x.st w.p.len w.p.hei (k : Int)) : WorkIs s w x 0 (x.addStay ⟨w.who, (k : Int), w.p.len, w.p.hei⟩)
  | deck (e : w.res = 0) (g : w.goes = false) (h : PlaceIx s.la x.stn x.st w.p.len w.p.hei (-1)) : WorkIs s w x 5 x
  | addWhole (k : Nat) (e : w.res = 1) (g : w.goes = false) (a : w.p.all = true) (h : RIx x.ron s.ca.n (WholeP s.ca x.ron x.ro w.p.cl w.p.pe) (k : Int)) : WorkIs s w x 0 (x.addRoom ⟨w.who, (k : Int), s.ca.B k, true⟩)
  | whole (e : w.res = 1) (g : w.goes = false) (a : w.p.all = true) (h : RIx x.ron s.ca.n (WholeP s.ca x.ron x.ro w.p.cl w.p.pe) (-1)) : WorkIs s w x 6 x
  | addBerth (k : Nat) (e : w.res = 1) (g : w.goes = false) (a : w.p.all = false) (h : RIx x.ron s.ca.n (BerthP s.ca x.ron x.ro w.p.cl w.p.be) (k : Int)) : WorkIs s w x 0 (x.addRoom ⟨w.who, (k : Int), w.p.be, false⟩)
  | berth (e : w.res = 1) (g : w.goes = false) (a : w.p.all = false) (h : RIx x.ron s.ca.n (BerthP s.ca x.ron x.ro w.p.cl w.p.be) (-1)) : WorkIs s w x 6 x
  | addSeat (e : w.res = 2) (g : w.goes = false) (hn : x.sen ≠ 60) (hs : sits x.se x.sen + w.p.pe ≤ s.most) : WorkIs s w x 0 (x.addSeat ⟨w.who, w.p.pe⟩)
  | seats (e : w.res = 2) (g : w.goes = false) (h : x.sen = 60 ∨ s.most < sits x.se x.sen + w.p.pe) : WorkIs s w x 7 x
theorem rIx_at {n m k : Nat} {P : Nat → Prop} (h : RIx n m P (k : Int)) : n ≠ 60 ∧ FirstOf m P k := by
  rcases h with ⟨j, e, a, b⟩ | ⟨e, _⟩
  · obtain rfl : k = j := by omega
    exact ⟨a, b⟩
  · omega
theorem placeIx_at {p : Pairs} {n k : Nat} {S : Nat → Stay} {len hei : Int} (h : PlaceIx p n S len hei (k : Int)) : n ≠ 60 ∧ FirstLane p (left p S n) len hei k := by
  rcases h with ⟨j, e, a, b⟩ | ⟨e, _⟩
  · obtain rfl : k = j := by omega
    exact ⟨a, b⟩
  · omega
theorem rIx_one {n m : Nat} {P : Nat → Prop} {r r' : Int} (h : RIx n m P r) (h' : RIx n m P r') : r = r' := by
  rcases h with ⟨j, e, a, b⟩ | ⟨e, a⟩ <;> rcases h' with ⟨j', e', a', b'⟩ | ⟨e', a'⟩
  · rw [e, e', firstOf_one b b']
  · rcases a' with c | c
    · exact absurd c a
    · exact absurd b (c j)
  · rcases a with c | c
    · exact absurd c a'
    · exact absurd b' (c j')
  · rw [e, e']
theorem rIx_some (n m : Nat) (P : Nat → Prop) : ∃ r, RIx n m P r := by
  by_cases h : n ≠ 60 ∧ ∃ k, FirstOf m P k
  · obtain ⟨h1, k, h2⟩ := h
    exact ⟨k, .inl ⟨k, rfl, h1, h2⟩⟩
  · refine ⟨-1, .inr ⟨rfl, ?_⟩⟩
    by_cases c : n = 60
    · exact .inl c
    · exact .inr (fun k hk => h ⟨c, k, hk⟩)
theorem placeIx_one {p : Pairs} {n : Nat} {S : Nat → Stay} {len hei r r' : Int} (h : PlaceIx p n S len hei r) (h' : PlaceIx p n S len hei r') : r = r' := by
  rcases h with ⟨j, e, a, b⟩ | ⟨e, a⟩ <;> rcases h' with ⟨j', e', a', b'⟩ | ⟨e', a'⟩
  · rw [e, e', firstLane_one b b']
  · rcases a' with c | c
    · exact absurd c a
    · exact absurd b (c j)
  · rcases a with c | c
    · exact absurd c a'
    · exact absurd b' (c j')
  · rw [e, e']
theorem placeIx_some (p : Pairs) (n : Nat) (S : Nat → Stay) (len hei : Int) : ∃ r, PlaceIx p n S len hei r := by
  by_cases h : n ≠ 60 ∧ ∃ k, FirstLane p (left p S n) len hei k
  · obtain ⟨h1, k, h2⟩ := h
    exact ⟨k, .inl ⟨k, rfl, h1, h2⟩⟩
  · refine ⟨-1, .inr ⟨rfl, ?_⟩⟩
    by_cases c : n = 60
    · exact .inl c
    · exact .inr (fun k hk => h ⟨c, k, hk⟩)
/-- What a work that comes must be. -/
def ComesOk (w : Wk) (x : Load) : Prop := w.goes = false → In w.who 1 9999 ∧ PartyOk w.p ∧ usesP w.p.len w.p.cl w.res = true ∧ ¬ hasAt x w.res w.who
theorem WorkIs.on {s : Sail} {w : Wk} {x y : Load} {code : Int} (h : WorkIs s w x code y) (hl : LoadOk s x) (hc : ComesOk w x) : (code = 0 ∧ WorkOn s w x y) ∨ (In code 5 7 ∧ y = x) := by
  cases h with
  | noStay r e g h q => exact .inl ⟨rfl, .noStay r e g h q⟩
  | noRoom r e g h q => exact .inl ⟨rfl, .noRoom r e g h q⟩
  | noSeat r e g h q => exact .inl ⟨rfl, .noSeat r e g h q⟩
  | deck e g h => exact .inr ⟨by unfold In; omega, rfl⟩
  | whole e g a h => exact .inr ⟨by unfold In; omega, rfl⟩
  | berth e g a h => exact .inr ⟨by unfold In; omega, rfl⟩
  | seats e g h => exact .inr ⟨by unfold In; omega, rfl⟩
  | addStay k e g h =>
    obtain ⟨h1, h2, h3, h4⟩ := hc g
    have hp := placeIx_at h
    rw [e] at h3 h4
    have h5 : 0 < w.p.len := by simpa [usesP] using h3
    have h6 : CarOk w.p.len w.p.hei := by rcases h2.2.1 with c | c; omega; exact c
    exact .inl ⟨rfl, .addStay k e g ⟨(deck_iff _ _ _).1 hl.1, hp.1, h4, h1, h6.1, h6.2, hp.2⟩⟩
  | addWhole k e g a h =>
    obtain ⟨h1, h2, h3, h4⟩ := hc g
    obtain ⟨n1, n2⟩ := rIx_at h
    rw [e] at h3 h4
    refine .inl ⟨rfl, .addRoom _ e g rfl h1 h4 ⟨?_, fun _ => ⟨n2.2.1.2.1, rfl⟩, fun h => (by cases h)⟩⟩
    have := n2.1
    unfold In
    show (0 : Int) ≤ (k : Int) ∧ (k : Int) ≤ (s.ca.n : Int) - 1
    omega
  | addBerth k e g a h =>
    obtain ⟨h1, h2, h3, h4⟩ := hc g
    obtain ⟨n1, n2⟩ := rIx_at h
    rw [e] at h3 h4
    have h5 : 0 < w.p.cl := by simpa [usesP] using h3
    have h6 : CabOk w.p.cl w.p.all w.p.be := by rcases h2.2.2 with c | c; omega; exact c
    refine .inl ⟨rfl, .addRoom _ e g rfl h1 h4 ⟨?_, fun h => (by cases h), fun _ => ?_⟩⟩
    · have := n2.1
      unfold In
      show (0 : Int) ≤ (k : Int) ∧ (k : Int) ≤ (s.ca.n : Int) - 1
      omega
    · rcases h6.2 with ⟨c, _⟩ | ⟨_, c⟩
      · rw [a] at c; cases c
      · exact ⟨c.1, n2.2.1.2⟩
  | addSeat e g hn hs =>
    obtain ⟨h1, h2, h3, h4⟩ := hc g
    rw [e] at h3 h4
    exact .inl ⟨rfl, .addSeat _ e g rfl hn h1 h2.1 h4 hs⟩

end Go.Proofs.YtfallpinmhbemaaGreatDoor
