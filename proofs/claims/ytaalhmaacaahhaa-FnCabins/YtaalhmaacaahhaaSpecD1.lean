/-
  OWN TEXT: contracts of the specification's l4Lanes, l4By, l4Has, l4Free.
-/
import Derived.Test.YtaalhmaacaahhaaSpecIn2
import Derived.Test.YtaalhmaacaahhaaPlainD
import Derived.Test.YtaalhmaacaahhaaKitB
import Derived.Deep.LoopGhost
namespace Go.Proofs.Ytaalhmaacaahhaa
open Go.RowKit

set_option maxHeartbeats 800000 in
set_option maxRecDepth 100000 in
theorem l4Lanes_any (ao : Option Addr) (n c : Nat) (p : Pairs) (w : World) (hl : p.n = n) (hn : n ≤ 1048576) (hz : PairsAt w ao p) :
    Calls Try.prog 158 #[.slice ao n c] w fun e w' => SaysIf (GoodL p) e ∧ Below w.heap.size w w' := by
  have HL : Hid (p.n = n) := hl
  clear hl
  by_cases h0 : n ≤ 4
  · have d0 : decide (4 < n) = false := by simp; omega
    go_enter Try.func158, Try.ntmps158
    go_wp2
    go_loopw [4, 10] (fun _ i wr => ∃ k : Nat, k ≤ n ∧ i = .int .i64 k ∧ (∀ j, j < k → In (p.A j) 1 5000 ∧ In (p.B j) 100 500) ∧ Below w.heap.size w wr) (fun _ i _ => n - (intOf i).toNat)
    case atStart => exact ⟨0, Nat.zero_le _, rfl, fun j hj => by omega, Below.refl _ _⟩
    case round =>
      obtain ⟨k, hk, rfl, hall, hbel⟩ := hrel
      have HA : Hid (∀ j, j < k → In (p.A j) 1 5000 ∧ In (p.B j) 100 500) := hall
      clear hall d0
      by_cases hlt : k < n
      · obtain ⟨b, off, rfl, h1, h2⟩ := hz k (by rw [HL.out]; omega)
        have hb := World.block_lt_of_cell? w _ h1
        have c1 := (hbel.cell (p := ⟨b, off + k * 2, none⟩) hb).trans h1
        have c2 := (hbel.cell (p := ⟨b, off + k * 2 + 1, none⟩) hb).trans h2
        clear h1 h2
        by_cases g1 : In (p.A k) 1 5000
        · have e1 : decide (In (p.A k) 1 5000) = true := decide_eq_true g1
          by_cases g2 : In (p.B k) 100 500
          · have e2 : decide (In (p.B k) 100 500) = true := decide_eq_true g2
            have HK : Hid (In (p.A k) 1 5000 ∧ In (p.B k) 100 500) := ⟨g1, g2⟩
            clear g1 g2
            go_wp2_with (first | (go_at_call 90; refine (l1In_is _ _ _ _).mono ?_; rintro e w' ⟨rfl, hw'⟩; have hw' := hw'.symm; subst hw'))
            go_roundw
            case rel => exact ⟨k + 1, by omega, by go_num, fun j hj => by
              by_cases e : j = k
              · subst e; exact HK.out
              · exact HA.out j (by omega), push hbel _⟩
            case measure => simp [intOf]; omega
          · have e2 : decide (In (p.B k) 100 500) = false := decide_eq_false g2
            have HK : Hid (¬ In (p.B k) 100 500) := g2
            clear g1 g2
            go_wp2_with (first | (go_at_call 90; refine (l1In_is _ _ _ _).mono ?_; rintro e w' ⟨rfl, hw'⟩; have hw' := hw'.symm; subst hw'))
            go_ret
            exact ⟨says_no (fun h => HK.out (h.2 k (by rw [HL.out]; exact hlt)).2), push hbel _⟩
        · have e1 : decide (In (p.A k) 1 5000) = false := decide_eq_false g1
          have HK : Hid (¬ In (p.A k) 1 5000) := g1
          clear g1
          go_wp2_with (first | (go_at_call 90; refine (l1In_is _ _ _ _).mono ?_; rintro e w' ⟨rfl, hw'⟩; have hw' := hw'.symm; subst hw'))
          go_ret
          exact ⟨says_no (fun h => HK.out (h.2 k (by rw [HL.out]; exact hlt)).1), push hbel _⟩
      · obtain rfl : k = n := by omega
        go_wp2
        go_ret
        exact ⟨says_yes ⟨by rw [HL.out]; exact h0, fun j hj => HA.out j (by rw [HL.out] at hj; exact hj)⟩, hbel⟩
  · have d0 : decide (4 < n) = true := by simp; omega
    go_enter Try.func158, Try.ntmps158
    go_wp2
    go_ret
    exact ⟨says_no (fun h => by have := h.1; rw [HL.out] at this; exact h0 this), Below.refl _ _⟩

set_option maxHeartbeats 800000 in
set_option maxRecDepth 100000 in
theorem l4Has_any (ao : Option Addr) (n c : Nat) (S : Nat → Stay) (x : Int) (w : World) (hn : n ≤ 1048576) (hz : StaysAt w ao n S) :
    Calls Try.prog 106 #[.slice ao n c, .int .i64 x] w fun e w' => SaysIf (Has (whoS S) n x) e ∧ Below w.heap.size w w' := by
  go_enter Try.func106, Try.ntmps106
  go_wp2
  go_loopw [6, 9] (fun _ i wr => ∃ k : Nat, k ≤ n ∧ i = .int .i64 k ∧ (∀ j, j < k → whoS S j ≠ x) ∧ Below w.heap.size w wr) (fun _ i _ => n - (intOf i).toNat)
  case atStart => exact ⟨0, Nat.zero_le _, rfl, fun j hj => by omega, Below.refl _ _⟩
  case round =>
    obtain ⟨k, hk, rfl, hall, hbel⟩ := hrel
    have HA : Hid (∀ j, j < k → whoS S j ≠ x) := hall
    clear hall
    by_cases hlt2 : k < n
    · obtain ⟨b, off, rfl, h0, h1, h2, h3⟩ := hz k hlt2
      have hb := World.block_lt_of_cell? w _ h0
      have c0 := (hbel.cell (p := ⟨b, off + k * 4, none⟩) hb).trans h0
      have c1 := (hbel.cell (p := ⟨b, off + k * 4 + 1, none⟩) hb).trans h1
      have c2 := (hbel.cell (p := ⟨b, off + k * 4 + 2, none⟩) hb).trans h2
      have c3 := (hbel.cell (p := ⟨b, off + k * 4 + 3, none⟩) hb).trans h3
      clear h0 h1 h2 h3
      by_cases he : whoS S k = x
      · have e1 : ((S k).who == x) = true := by unfold whoS at he; simpa using he
        have HF : Hid (Has (whoS S) n x) := ⟨k, hlt2, he⟩
        clear he
        go_wp2
        go_ret
        exact ⟨says_yes HF.out, push hbel _⟩
      · have e1 : ((S k).who == x) = false := by unfold whoS at he; simpa using he
        have HE : Hid (whoS S k ≠ x) := he
        clear he
        go_wp2
        go_roundw
        case rel => exact ⟨k + 1, by omega, by go_num, fun j hj => by
          by_cases e : j = k
          · subst e; exact HE.out
          · exact HA.out j (by omega), push hbel _⟩
        case measure => simp [intOf]; omega
    · obtain rfl : k = n := by omega
      have HF : Hid (¬ Has (whoS S) k x) := not_has HA.out
      go_wp2
      go_ret
      exact ⟨says_no HF.out, hbel⟩

set_option maxHeartbeats 1600000 in
set_option maxRecDepth 100000 in
theorem l4Free_any (ao bo : Option Addr) (m mc n c : Nat) (p : Pairs) (S : Nat → Stay) (w : World) (hl : p.n = m) (hg : GoodL p) (hn : n ≤ 60) (hs : ∀ j, j < n → In (S j).len 1 2000) (hx : PairsAt w ao p) (hz : StaysAt w bo n S) :
    Calls Try.prog 108 #[.slice ao m mc, .slice bo n c] w fun e w' => (∃ v, e = .returned v ∧ w'.ownsRow w.heap.size 3 1 v m (intList (left p S n) m)) ∧ Below w.heap.size w w' := by
  obtain ⟨j0, ji, jz0, jz1, jz2⟩ := info_parts Try.infoInt
  have HL : Hid (p.n = m) := hl
  have HG : Hid (GoodL p) := hg
  have HS : Hid (∀ j, j < n → In (S j).len 1 2000) := hs
  have HX : Hid (PairsAt w ao p) := hx
  have HZ : Hid (StaysAt w bo n S) := hz
  have hm4 : m ≤ 4 := by rw [← hl]; exact hg.1
  clear hl hg hs hx hz
  go_enter Try.func108, Try.ntmps108
  go_wp2
  go_loopw [5, 6, 7, 8, 10, 13, 20, 21, 22] (fun v _ _ _ _ i _ _ _ wr => ∃ k : Nat, k ≤ m ∧ i = .int .i64 k ∧ wr.ownsRow w.heap.size 3 1 v k (intList (left p S n) k) ∧ Below w.heap.size w wr) (fun _ _ _ _ _ i _ _ _ _ => m - (intOf i).toNat)
  case atStart => exact ⟨0, Nat.zero_le _, rfl, ⟨rfl, .inl ⟨rfl, rfl⟩⟩, Below.refl _ _⟩
  case round =>
    obtain ⟨k, hk, rfl, hown, hbel⟩ := hrel
    by_cases hlt : k < m
    · obtain ⟨b, off, rfl, h1, h2⟩ := HX.out k (by rw [HL.out]; exact hlt)
      have hb := World.block_lt_of_cell? w _ h1
      have c1 := (hbel.cell (p := ⟨b, off + k * 2, none⟩) hb).trans h1
      have c2 := (hbel.cell (p := ⟨b, off + k * 2 + 1, none⟩) hb).trans h2
      have HA : Hid (In (p.A k) 1 5000) := (HG.out.2 k (by rw [HL.out]; exact hlt)).1
      clear h1 h2
      go_wp2
      go_loopw [8, 10, 22] (fun s8 _ i wq => ∃ t : Nat, t ≤ n ∧ i = .int .i64 t ∧ s8 = .int .i64 (left p S t k) ∧ wq.ownsRow w.heap.size 3 1 u5 k (intList (left p S n) k) ∧ Below w.heap.size w wq) (fun _ _ i _ => n - (intOf i).toNat)
      case atStart => exact ⟨0, Nat.zero_le _, rfl, by rw [left_0], own_below (push (Below.refl _ _) _) hown, push hbel _⟩
      case round =>
        obtain ⟨t, ht, rfl, rfl, hown2, hbel2⟩ := hrel
        clear hown hbel c1 c2
        by_cases hlt2 : t < n
        · obtain ⟨b2, off2, rfl, h0, h1, h2, h3⟩ := HZ.out t hlt2
          have hb2 := World.block_lt_of_cell? w _ h0
          have c0 := (hbel2.cell (p := ⟨b2, off2 + t * 4, none⟩) hb2).trans h0
          have c1 := (hbel2.cell (p := ⟨b2, off2 + t * 4 + 1, none⟩) hb2).trans h1
          have c2 := (hbel2.cell (p := ⟨b2, off2 + t * 4 + 2, none⟩) hb2).trans h2
          have c3 := (hbel2.cell (p := ⟨b2, off2 + t * 4 + 3, none⟩) hb2).trans h3
          clear h0 h1 h2 h3
          by_cases he : (S t).ln = (k : Int)
          · have e1 : ((S t).ln == (k : Int)) = true := by simpa using he
            have HE : Hid ((S t).ln = (k : Int)) := he
            have hwr : IntKind.i64.wrap (left p S t k - (S t).len) = left p S t k - (S t).len := by
              have h1 := left_bounds HG.out (show t ≤ 60 by omega) (fun j hj => HS.out j (by omega)) (show k < p.n by rw [HL.out]; exact hlt)
              have h2 := HS.out t hlt2
              unfold In at h2
              rw [IntKind.wrap_i64]; omega
            clear he
            go_wp2
            go_roundw
            case rel => exact ⟨t + 1, by omega, by go_num, by rw [left_at p S t k HE.out], own_below (push (Below.refl _ _) _) hown2, push hbel2 _⟩
            case measure => simp [intOf]; omega
          · have e1 : ((S t).ln == (k : Int)) = false := by simpa using he
            have HE : Hid ((S t).ln ≠ (k : Int)) := he
            clear he
            go_wp2
            go_roundw
            case rel => exact ⟨t + 1, by omega, by go_num, by rw [left_ne p S t k HE.out], own_below (push (Below.refl _ _) _) hown2, push hbel2 _⟩
            case measure => simp [intOf]; omega
        · obtain rfl : t = n := by omega
          have hsz := hbel2.size
          have HC : Hid (∀ ad, (some ⟨wr.heap.size, 0, none⟩ : Option Addr) = some ad → ∀ j u, [Value.int .i64 (left p S t k)][j]? = some u → (wr.alloc (.cells #[.int .i64 (left p S t k)] 3)).cell? (ad.add j) = some u) := by
            intro ad e
            cases e
            exact World.news_of_block (heap_alloc_new wr _)
          go_wp2_with (first | (at_builtin; refine wpList_append_any _ (by rfl) (.tmp 35) (.tmp 37) 24 (by rfl) w.heap.size 3 j0 (.int .i64 0) 1 8 Try.underlying24 ji jz0 jz1 jz2 rfl (by decide) _ k (intList (left p S t) k) (by rfl) (hown2.alloc _) (some ⟨wr.heap.size, 0, none⟩) 1 1 [.int .i64 (left p S t k)] (by rfl) (fun h => (by cases h)) (by rfl) HC.out (by intro u hu; simp at hu; subst hu; rfl) (by unfold maxLen; omega) (by omega) (by simp; omega) ?_; intro v' w3 ho3 hg3))
          go_roundw
          case rel => exact ⟨k + 1, by omega, by go_num, by rw [intList_succ]; exact ho3, (push hbel2 _).grown hg3 (by simp; omega) (fun j hj => (hown2.lt j hj).1)⟩
          case measure => simp [intOf]; omega
    · obtain rfl : k = m := by omega
      go_wp2
      go_ret
      exact ⟨⟨_, rfl, hown⟩, hbel⟩

end Go.Proofs.Ytaalhmaacaahhaa
