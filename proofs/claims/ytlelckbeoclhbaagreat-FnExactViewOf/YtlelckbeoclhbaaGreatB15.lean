/-
  OWN TEXT: SpecHas, SpecD1, SpecD2, SpecCab.
-/
import Derived.Test.YtlelckbeoclhbaaGreatRows
import Derived.Deep.RegionHeld3
import Derived.Deep.LoopGhost
import Derived.Deep.DeepCutAuto
import Derived.Test.YtlelckbeoclhbaaGreatB00
import Derived.Test.YtlelckbeoclhbaaGreatB13
import Derived.Test.YtlelckbeoclhbaaGreatB11
import Derived.Test.YtlelckbeoclhbaaGreatB02
import Derived.Test.YtlelckbeoclhbaaGreatB07
set_option maxHeartbeats 12800000
set_option maxRecDepth 100000
namespace Go.Proofs.YtlelckbeoclhbaaGreat
open Go.RowKit
theorem l1Has_no (ao : Option Addr) (n cap : Nat) (f : Nat → Int) (x : Int) (w : World) (hn : n ≤ 1048576) (hz : IntsAt w ao n f) (hno : ∀ j, j < n → f j ≠ x) :
    Calls Tryz.prog 54 #[.slice ao n cap, .int .i64 x] w fun e w' => e = .returned (.bool false) ∧ w' = w := by
  go_enter Tryz.func54, Tryz.ntmps54
  go_wp2
  go_loop [9] (fun i => ∃ k : Nat, k ≤ n ∧ i = .int .i64 k) (fun i => n - (intOf i).toNat)
  case atStart => exact ⟨0, Nat.zero_le _, rfl⟩
  case round =>
    obtain ⟨k, hk, rfl⟩ := hrel
    by_cases hlt : k < n
    · obtain ⟨b, off, rfl, hc⟩ := hz k hlt
      have hne : (f k == x) = false := by simpa using hno k hlt
      go_wp2
      go_round
      case rel => exact ⟨k + 1, by omega, by go_num⟩
      case measure => simp [intOf]; omega
    · go_wp2
      go_ret
      exact ⟨rfl, rfl⟩
theorem l1Has_yes (ao : Option Addr) (n cap : Nat) (f : Nat → Int) (x : Int) (w : World) (hn : n ≤ 1048576) (hz : IntsAt w ao n f) (hyes : ∃ j, j < n ∧ f j = x) :
    Calls Tryz.prog 54 #[.slice ao n cap, .int .i64 x] w fun e w' => e = .returned (.bool true) ∧ w' = w := by
  have H : Hid (∃ j, j < n ∧ f j = x) := hyes
  clear hyes
  go_enter Tryz.func54, Tryz.ntmps54
  go_wp2
  go_loop [9] (fun i => ∃ k : Nat, k ≤ n ∧ i = .int .i64 k ∧ ∀ j, j < k → f j ≠ x) (fun i => n - (intOf i).toNat)
  case atStart => exact ⟨0, Nat.zero_le _, rfl, by omega⟩
  case round =>
    obtain ⟨k, hk, rfl, hbef⟩ := hrel
    have HB : Hid (∀ j, j < k → f j ≠ x) := hbef
    clear hbef
    by_cases hlt : k < n
    · obtain ⟨b, off, rfl, hc⟩ := hz k hlt
      by_cases he : f k = x
      · have hne : (f k == x) = true := by simpa using he
        clear he
        go_wp2
        go_ret
        exact ⟨rfl, rfl⟩
      · have hne : (f k == x) = false := by simpa using he
        have HE : Hid (f k ≠ x) := he
        clear he
        go_wp2
        go_round
        case rel => exact ⟨k + 1, by omega, by go_num, fun j hj => by
          by_cases e : j = k
          · rw [e]; exact HE.out
          · exact HB.out j (by omega)⟩
        case measure => simp [intOf]; omega
    · exfalso
      obtain ⟨j, hj, e⟩ := H.out
      exact HB.out j (by omega) e
theorem l1Has_any (ao : Option Addr) (n cap : Nat) (f : Nat → Int) (x : Int) (w : World) (hn : n ≤ 1048576) (hz : IntsAt w ao n f) :
    Calls Tryz.prog 54 #[.slice ao n cap, .int .i64 x] w fun e w' => (∃ b : Bool, e = .returned (.bool b) ∧ (b = true ↔ ∃ j, j < n ∧ f j = x)) ∧ w' = w := by
  by_cases h : ∃ j, j < n ∧ f j = x
  · exact (l1Has_yes ao n cap f x w hn hz h).mono fun _ _ ⟨a, b⟩ => ⟨⟨true, a, ⟨fun _ => h, fun _ => rfl⟩⟩, b⟩
  · exact (l1Has_no ao n cap f x w hn hz (fun j hj e => h ⟨j, hj, e⟩)).mono fun _ _ ⟨a, b⟩ => ⟨⟨false, a, ⟨fun e => (by cases e), fun e => absurd e h⟩⟩, b⟩
end Go.Proofs.YtlelckbeoclhbaaGreat

namespace Go.Proofs.YtlelckbeoclhbaaGreat
open Go.RowKit
theorem l4Lanes_any (ao : Option Addr) (n c : Nat) (p : Pairs) (w : World) (hl : p.n = n) (hn : n ≤ 1048576) (hz : PairsAt w ao p) :
    Calls Tryz.prog 89 #[.slice ao n c] w fun e w' => SaysIf (GoodL p) e ∧ Below w.heap.size w w' := by
  have HL : Hid (p.n = n) := hl
  clear hl
  by_cases h0 : n ≤ 4
  · have d0 : decide (4 < n) = false := by simp; omega
    go_enter Tryz.func89, Tryz.ntmps89
    go_wp2
    go_loopw [4, 10] (fun _ i wr => ∃ k : Nat, k ≤ n ∧ i = .int .i64 k ∧ (∀ j, j < k → In (p.A j) 1 5000 ∧ In (p.B j) 100 500) ∧ Below w.heap.size w wr) (fun _ i _ => n - (intOf i).toNat)
    case atStart => exact ⟨0, Nat.zero_le _, rfl, fun j hj => by omega, Below.refl _ _⟩
    case round =>
      obtain ⟨k, hk, rfl, hall, hbel⟩ := hrel
      have HA : Hid (∀ j, j < k → In (p.A j) 1 5000 ∧ In (p.B j) 100 500) := hall
      clear hall d0
      by_cases hlt : k < n
      · obtain ⟨b, off, rfl, h1, h2⟩ := hz k (by rw [HL.out]; omega)
        have hb := World.block_lt_of_cell? w _ h1
        have c1 := (hbel.cell (p := ⟨b, off + k * 2, none⟩) hb).trans h1
        have c2 := (hbel.cell (p := ⟨b, off + k * 2 + 1, none⟩) hb).trans h2
        clear h1 h2
        by_cases g1 : In (p.A k) 1 5000
        · have e1 : decide (In (p.A k) 1 5000) = true := decide_eq_true g1
          by_cases g2 : In (p.B k) 100 500
          · have e2 : decide (In (p.B k) 100 500) = true := decide_eq_true g2
            have HK : Hid (In (p.A k) 1 5000 ∧ In (p.B k) 100 500) := ⟨g1, g2⟩
            clear g1 g2
            go_wp2_with (first | (go_at_call 91; refine (l1In_is _ _ _ _).mono ?_; rintro e w' ⟨rfl, hw'⟩; have hw' := hw'.symm; subst hw'))
            go_roundw
            case rel => exact ⟨k + 1, by omega, by go_num, fun j hj => by
              by_cases e : j = k
              · subst e; exact HK.out
              · exact HA.out j (by omega), push hbel _⟩
            case measure => simp [intOf]; omega
          · have e2 : decide (In (p.B k) 100 500) = false := decide_eq_false g2
            have HK : Hid (¬ In (p.B k) 100 500) := g2
            clear g1 g2
            go_wp2_with (first | (go_at_call 91; refine (l1In_is _ _ _ _).mono ?_; rintro e w' ⟨rfl, hw'⟩; have hw' := hw'.symm; subst hw'))
            go_ret
            exact ⟨says_no (fun h => HK.out (h.2 k (by rw [HL.out]; exact hlt)).2), push hbel _⟩
        · have e1 : decide (In (p.A k) 1 5000) = false := decide_eq_false g1
          have HK : Hid (¬ In (p.A k) 1 5000) := g1
          clear g1
          go_wp2_with (first | (go_at_call 91; refine (l1In_is _ _ _ _).mono ?_; rintro e w' ⟨rfl, hw'⟩; have hw' := hw'.symm; subst hw'))
          go_ret
          exact ⟨says_no (fun h => HK.out (h.2 k (by rw [HL.out]; exact hlt)).1), push hbel _⟩
      · obtain rfl : k = n := by omega
        go_wp2
        go_ret
        exact ⟨says_yes ⟨by rw [HL.out]; exact h0, fun j hj => HA.out j (by rw [HL.out] at hj; exact hj)⟩, hbel⟩
  · have d0 : decide (4 < n) = true := by simp; omega
    go_enter Tryz.func89, Tryz.ntmps89
    go_wp2
    go_ret
    exact ⟨says_no (fun h => by have := h.1; rw [HL.out] at this; exact h0 this), Below.refl _ _⟩
theorem l4Has_any (ao : Option Addr) (n c : Nat) (S : Nat → Stay) (x : Int) (w : World) (hn : n ≤ 1048576) (hz : StaysAt w ao n S) :
    Calls Tryz.prog 92 #[.slice ao n c, .int .i64 x] w fun e w' => SaysIf (Has (whoS S) n x) e ∧ Below w.heap.size w w' := by
  go_enter Tryz.func92, Tryz.ntmps92
  go_wp2
  go_loopw [6, 9] (fun _ i wr => ∃ k : Nat, k ≤ n ∧ i = .int .i64 k ∧ (∀ j, j < k → whoS S j ≠ x) ∧ Below w.heap.size w wr) (fun _ i _ => n - (intOf i).toNat)
  case atStart => exact ⟨0, Nat.zero_le _, rfl, fun j hj => by omega, Below.refl _ _⟩
  case round =>
    obtain ⟨k, hk, rfl, hall, hbel⟩ := hrel
    have HA : Hid (∀ j, j < k → whoS S j ≠ x) := hall
    clear hall
    by_cases hlt2 : k < n
    · obtain ⟨b, off, rfl, h0, h1, h2, h3⟩ := hz k hlt2
      have hb := World.block_lt_of_cell? w _ h0
      have c0 := (hbel.cell (p := ⟨b, off + k * 4, none⟩) hb).trans h0
      have c1 := (hbel.cell (p := ⟨b, off + k * 4 + 1, none⟩) hb).trans h1
      have c2 := (hbel.cell (p := ⟨b, off + k * 4 + 2, none⟩) hb).trans h2
      have c3 := (hbel.cell (p := ⟨b, off + k * 4 + 3, none⟩) hb).trans h3
      clear h0 h1 h2 h3
      by_cases he : whoS S k = x
      · have e1 : ((S k).who == x) = true := by unfold whoS at he; simpa using he
        have HF : Hid (Has (whoS S) n x) := ⟨k, hlt2, he⟩
        clear he
        go_wp2
        go_ret
        exact ⟨says_yes HF.out, push hbel _⟩
      · have e1 : ((S k).who == x) = false := by unfold whoS at he; simpa using he
        have HE : Hid (whoS S k ≠ x) := he
        clear he
        go_wp2
        go_roundw
        case rel => exact ⟨k + 1, by omega, by go_num, fun j hj => by
          by_cases e : j = k
          · subst e; exact HE.out
          · exact HA.out j (by omega), push hbel _⟩
        case measure => simp [intOf]; omega
    · obtain rfl : k = n := by omega
      have HF : Hid (¬ Has (whoS S) k x) := not_has HA.out
      go_wp2
      go_ret
      exact ⟨says_no HF.out, hbel⟩
theorem l4Free_any (ao bo : Option Addr) (m mc n c : Nat) (p : Pairs) (S : Nat → Stay) (w : World) (hl : p.n = m) (hg : GoodL p) (hn : n ≤ 60) (hs : ∀ j, j < n → In (S j).len 1 2000) (hx : PairsAt w ao p) (hz : StaysAt w bo n S) :
    Calls Tryz.prog 19 #[.slice ao m mc, .slice bo n c] w fun e w' => (∃ v, e = .returned v ∧ w'.ownsRow w.heap.size 3 1 v m (intList (left p S n) m)) ∧ Below w.heap.size w w' := by
  obtain ⟨j0, ji, jz0, jz1, jz2⟩ := info_parts Tryz.infoInt
  have HL : Hid (p.n = m) := hl
  have HG : Hid (GoodL p) := hg
  have HS : Hid (∀ j, j < n → In (S j).len 1 2000) := hs
  have HX : Hid (PairsAt w ao p) := hx
  have HZ : Hid (StaysAt w bo n S) := hz
  have hm4 : m ≤ 4 := by rw [← hl]; exact hg.1
  clear hl hg hs hx hz
  go_enter Tryz.func19, Tryz.ntmps19
  go_wp2
  go_loopw [5, 6, 7, 8, 10, 13, 20, 21, 22] (fun v _ _ _ _ i _ _ _ wr => ∃ k : Nat, k ≤ m ∧ i = .int .i64 k ∧ wr.ownsRow w.heap.size 3 1 v k (intList (left p S n) k) ∧ Below w.heap.size w wr) (fun _ _ _ _ _ i _ _ _ _ => m - (intOf i).toNat)
  case atStart => exact ⟨0, Nat.zero_le _, rfl, ⟨rfl, .inl ⟨rfl, rfl⟩⟩, Below.refl _ _⟩
  case round =>
    obtain ⟨k, hk, rfl, hown, hbel⟩ := hrel
    by_cases hlt : k < m
    · obtain ⟨b, off, rfl, h1, h2⟩ := HX.out k (by rw [HL.out]; exact hlt)
      have hb := World.block_lt_of_cell? w _ h1
      have c1 := (hbel.cell (p := ⟨b, off + k * 2, none⟩) hb).trans h1
      have c2 := (hbel.cell (p := ⟨b, off + k * 2 + 1, none⟩) hb).trans h2
      have HA : Hid (In (p.A k) 1 5000) := (HG.out.2 k (by rw [HL.out]; exact hlt)).1
      clear h1 h2
      go_wp2
      go_loopw [8, 10, 22] (fun s8 _ i wq => ∃ t : Nat, t ≤ n ∧ i = .int .i64 t ∧ s8 = .int .i64 (left p S t k) ∧ wq.ownsRow w.heap.size 3 1 u5 k (intList (left p S n) k) ∧ Below w.heap.size w wq) (fun _ _ i _ => n - (intOf i).toNat)
      case atStart => exact ⟨0, Nat.zero_le _, rfl, by rw [left_0], own_below (push (Below.refl _ _) _) hown, push hbel _⟩
      case round =>
        obtain ⟨t, ht, rfl, rfl, hown2, hbel2⟩ := hrel
        clear hown hbel c1 c2
        by_cases hlt2 : t < n
        · obtain ⟨b2, off2, rfl, h0, h1, h2, h3⟩ := HZ.out t hlt2
          have hb2 := World.block_lt_of_cell? w _ h0
          have c0 := (hbel2.cell (p := ⟨b2, off2 + t * 4, none⟩) hb2).trans h0
          have c1 := (hbel2.cell (p := ⟨b2, off2 + t * 4 + 1, none⟩) hb2).trans h1
          have c2 := (hbel2.cell (p := ⟨b2, off2 + t * 4 + 2, none⟩) hb2).trans h2
          have c3 := (hbel2.cell (p := ⟨b2, off2 + t * 4 + 3, none⟩) hb2).trans h3
          clear h0 h1 h2 h3
          by_cases he : (S t).ln = (k : Int)
          · have e1 : ((S t).ln == (k : Int)) = true := by simpa using he
            have HE : Hid ((S t).ln = (k : Int)) := he
            have hwr : IntKind.i64.wrap (left p S t k - (S t).len) = left p S t k - (S t).len := by
              have h1 := left_bounds HG.out (show t ≤ 60 by omega) (fun j hj => HS.out j (by omega)) (show k < p.n by rw [HL.out]; exact hlt)
              have h2 := HS.out t hlt2
              unfold In at h2
              rw [IntKind.wrap_i64]; omega
            clear he
            go_wp2
            go_roundw
            case rel => exact ⟨t + 1, by omega, by go_num, by rw [left_at p S t k HE.out], own_below (push (Below.refl _ _) _) hown2, push hbel2 _⟩
            case measure => simp [intOf]; omega
          · have e1 : ((S t).ln == (k : Int)) = false := by simpa using he
            have HE : Hid ((S t).ln ≠ (k : Int)) := he
            clear he
            go_wp2
            go_roundw
            case rel => exact ⟨t + 1, by omega, by go_num, by rw [left_ne p S t k HE.out], own_below (push (Below.refl _ _) _) hown2, push hbel2 _⟩
            case measure => simp [intOf]; omega
        · obtain rfl : t = n := by omega
          have hsz := hbel2.size
          have HC : Hid (∀ ad, (some ⟨wr.heap.size, 0, none⟩ : Option Addr) = some ad → ∀ j u, [Value.int .i64 (left p S t k)][j]? = some u → (wr.alloc (.cells #[.int .i64 (left p S t k)] 3)).cell? (ad.add j) = some u) := by
            intro ad e
            cases e
            exact World.news_of_block (heap_alloc_new wr _)
          go_wp2_with (first | (at_builtin; refine wpList_append_any _ (by rfl) (.tmp 35) (.tmp 37) 31 (by rfl) w.heap.size 3 j0 (.int .i64 0) 1 8 Tryz.underlying31 ji jz0 jz1 jz2 rfl (by decide) _ k (intList (left p S t) k) (by rfl) (hown2.alloc _) (some ⟨wr.heap.size, 0, none⟩) 1 1 [.int .i64 (left p S t k)] (by rfl) (fun h => (by cases h)) (by rfl) HC.out (by intro u hu; simp at hu; subst hu; rfl) (by unfold maxLen; omega) (by omega) (by simp; omega) ?_; intro v' w3 ho3 hg3))
          go_roundw
          case rel => exact ⟨k + 1, by omega, by go_num, by rw [intList_succ]; exact ho3, (push hbel2 _).grown hg3 (by simp; omega) (fun j hj => (hown2.lt j hj).1)⟩
          case measure => simp [intOf]; omega
    · obtain rfl : k = m := by omega
      go_wp2
      go_ret
      exact ⟨⟨_, rfl, hown⟩, hbel⟩
end Go.Proofs.YtlelckbeoclhbaaGreat

namespace Go.Proofs.YtlelckbeoclhbaaGreat
open Go.RowKit
theorem specDeck_any (ao bo : Option Addr) (m mc n c : Nat) (p : Pairs) (S : Nat → Stay) (w : World) (hl : p.n = m) (hm : m ≤ 1048576) (hn : n ≤ 1048576) (hc : n ≤ c) (hx : PairsAt w ao p) (hz : StaysAt w bo n S) :
    Calls Tryz.prog 49 #[.slice ao m mc, .slice bo n c] w fun e w' => SaysIf (DeckS p n S) e ∧ Below w.heap.size w w' := by
  have HL : Hid (p.n = m) := hl
  have HX : Hid (PairsAt w ao p) := hx
  have HZ : Hid (StaysAt w bo n S) := hz
  clear hl hx hz
  go_enter Tryz.func49, Tryz.ntmps49
  go_wp2_with fail
  refine (l4Lanes_any ao m mc p _ HL.out hm HX.out).mono ?_
  rintro e w1 ⟨⟨q, rfl, hq⟩, hb1⟩
  cases q with
  | false =>
    have HG : Hid (¬ GoodL p) := fun h => by have := hq.2 h; cases this
    clear hq
    go_wp2
    go_ret
    exact ⟨says_no (fun h => HG.out h.1), hb1⟩
  | true =>
    have HG : Hid (GoodL p) := hq.1 rfl
    have hm4 : m ≤ 4 := by rw [← HL.out]; exact HG.out.1
    clear hq
    by_cases h60 : n ≤ 60
    · have d0 : decide (60 < n) = false := by simp; omega
      have hwm : IntKind.i64.wrap ((m : Int) - 1) = (m : Int) - 1 := by rw [IntKind.wrap_i64]; omega
      go_wp2
      go_loopw [5, 6, 19] (fun _ _ i wr => ∃ k : Nat, k ≤ n ∧ i = .int .i64 k ∧ (∀ j, j < k → OkS p S j) ∧ Below w.heap.size w wr) (fun _ _ i _ => n - (intOf i).toNat)
      case atStart => exact ⟨0, Nat.zero_le _, rfl, fun j hj => by omega, hb1⟩
      case round =>
        obtain ⟨i, hi, rfl, hall, hbel⟩ := hrel
        have HA : Hid (∀ j, j < i → OkS p S j) := hall
        clear hall hb1
        by_cases hlt : i < n
        · obtain ⟨b, off, rfl, h0, h1, h2, h3⟩ := HZ.out i hlt
          have hb := World.block_lt_of_cell? w _ h0
          have c0 := (hbel.cell (p := ⟨b, off + i * 4, none⟩) hb).trans h0
          have c1 := (hbel.cell (p := ⟨b, off + i * 4 + 1, none⟩) hb).trans h1
          have c2 := (hbel.cell (p := ⟨b, off + i * 4 + 2, none⟩) hb).trans h2
          have c3 := (hbel.cell (p := ⟨b, off + i * 4 + 3, none⟩) hb).trans h3
          have hbox := heap_alloc_new wr (.cells #[.int .i64 (S i).who, .int .i64 (S i).ln, .int .i64 (S i).len, .int .i64 (S i).hei] 118)
          have hbx := push hbel (.cells #[.int .i64 (S i).who, .int .i64 (S i).ln, .int .i64 (S i).len, .int .i64 (S i).hei] 118)
          clear h0 h1 h2 h3
          go_upto_region 6 with fail
          generalize hW : wr.alloc (.cells #[.int .i64 (S i).who, .int .i64 (S i).ln, .int .i64 (S i).len, .int .i64 (S i).hei] 118) = W at hbox hbx ⊢
          clear hW
          have hsW : wr.heap.size < W.heap.size := blk_lt hbox
          have z0 : ∀ g : Grown W, g.val.cell? ⟨wr.heap.size, 0, none⟩ = some (.int .i64 (S i).who) := fun g => (g.bel.cell hsW).trans (blk_cell hbox 0 _ rfl)
          have z1 : ∀ g : Grown W, g.val.cell? ⟨wr.heap.size, 1, none⟩ = some (.int .i64 (S i).ln) := fun g => (g.bel.cell hsW).trans (blk_cell hbox 1 _ rfl)
          have z2 : ∀ g : Grown W, g.val.cell? ⟨wr.heap.size, 2, none⟩ = some (.int .i64 (S i).len) := fun g => (g.bel.cell hsW).trans (blk_cell hbox 2 _ rfl)
          have z3 : ∀ g : Grown W, g.val.cell? ⟨wr.heap.size, 3, none⟩ = some (.int .i64 (S i).hei) := fun g => (g.bel.cell hsW).trans (blk_cell hbox 3 _ rfl)
          have i1 : (0 : Int) ≤ (i : Int) := by omega
          have i2 : (i : Int) ≤ (c : Int) := by omega
          clear c0 c1 c2 c3 hbox hbel
          by_cases g1 : In (S i).who 1 9999
          · have e1 : decide (In (S i).who 1 9999) = true := decide_eq_true g1
            have H1 : Hid (In (S i).who 1 9999) := g1
            clear g1
            by_cases g2 : In (S i).ln 0 ((m : Int) - 1)
            · have H2 : Hid (In (S i).ln 0 ((p.n : Int) - 1)) := by rw [HL.out]; exact g2
              obtain ⟨l, hl⟩ : ∃ l : Nat, (S i).ln = l := ⟨(S i).ln.toNat, by unfold In at g2; omega⟩
              have hlm : l < m := by unfold In at g2; omega
              have HLN : Hid ((S i).ln = l) := hl
              have e2 : decide (In (l : Int) 0 ((m : Int) - 1)) = true := decide_eq_true (by rw [← hl]; exact g2)
              have z1' : ∀ g : Grown W, g.val.cell? ⟨wr.heap.size, 1, none⟩ = some (.int .i64 (l : Int)) := fun g => by rw [z1 g, hl]
              obtain ⟨b', off', rfl, k1, k2⟩ := HX.out l (by rw [HL.out]; exact hlm)
              have hb' := World.block_lt_of_cell? w _ k1
              have y2 : ∀ g : Grown W, g.val.cell? ⟨b', off' + l * 2 + 1, none⟩ = some (.int .i64 (p.B l)) := fun g => ((after hbx g.bel).cell (p := ⟨b', off' + l * 2 + 1, none⟩) hb').trans k2
              have l1 : (0 : Int) ≤ (l : Int) := by omega
              have l2 : (l : Int) < (m : Int) := by omega
              clear g2 z1 hl k1 k2
              by_cases g3 : In (S i).len 1 2000
              · have e3 : decide (In (S i).len 1 2000) = true := decide_eq_true g3
                have H3 : Hid (In (S i).len 1 2000) := g3
                clear g3
                by_cases g4 : In (S i).hei 1 (p.B l)
                · have e4 : decide (In (S i).hei 1 (p.B l)) = true := decide_eq_true g4
                  have H4 : Hid (In (S i).hei 1 (p.B l)) := g4
                  clear g4
                  by_cases g5 : Has (whoS S) i (S i).who
                  · have H5 : Hid (Has (whoS S) i (S i).who) := g5
                    clear g5
                    refine wp_region_grow (by kernel_rfl) (by kernel_rfl) ?_
                    repeat (first | go_big_quiet_skip | (go_big_quiet_want; go_big_quiet_op; first | go_big_quiet_on | (apply Exists.intro; refine ⟨fun g => ?_, ?_⟩; (focus (first | (go_at_call 90; refine grown_call (v := .bool true) ((l4By_is _ _).mono ?_); rintro e w4 ⟨rfl, rfl⟩; exact ⟨by rw [e1], Below.refl _ _⟩) | (go_at_call 91; first | (refine grown_call (v := .bool true) ((l1In_is _ _ _ _).mono ?_); rintro e w4 ⟨rfl, rfl⟩; exact ⟨by rw [e2], Below.refl _ _⟩) | (refine grown_call (v := .bool true) ((l1In_is _ _ _ _).mono ?_); rintro e w4 ⟨rfl, rfl⟩; exact ⟨by rw [e3], Below.refl _ _⟩) | (refine grown_call (v := .bool true) ((l1In_is _ _ _ _).mono ?_); rintro e w4 ⟨rfl, rfl⟩; exact ⟨by rw [e4], Below.refl _ _⟩)) | (go_at_call 92; refine grown_call (v := .bool true) ((l4Has_any _ i c S (S i).who _ (by omega) ((HZ.out.upto (by omega)).below (after hbx g.bel))).mono ?_); rintro e w4 ⟨⟨bb, rfl, hi⟩, hbb⟩; obtain rfl := hi.2 H5.out; exact ⟨rfl, hbb⟩))); go_big_quiet_on)))
                    refine wpQuiet_nil ?_
                    rintro _ ⟨g, rfl⟩
                    go_wp2
                    go_ret
                    exact ⟨says_no (fun h => (h.2.2.1 i hlt).2.2.2.2 H5.out), after hbx g.bel⟩
                  · have H5 : Hid (¬ Has (whoS S) i (S i).who) := g5
                    clear g5
                    refine wp_region_grow (by kernel_rfl) (by kernel_rfl) ?_
                    repeat (first | go_big_quiet_skip | (go_big_quiet_want; go_big_quiet_op; first | go_big_quiet_on | (apply Exists.intro; refine ⟨fun g => ?_, ?_⟩; (focus (first | (go_at_call 90; refine grown_call (v := .bool true) ((l4By_is _ _).mono ?_); rintro e w4 ⟨rfl, rfl⟩; exact ⟨by rw [e1], Below.refl _ _⟩) | (go_at_call 91; first | (refine grown_call (v := .bool true) ((l1In_is _ _ _ _).mono ?_); rintro e w4 ⟨rfl, rfl⟩; exact ⟨by rw [e2], Below.refl _ _⟩) | (refine grown_call (v := .bool true) ((l1In_is _ _ _ _).mono ?_); rintro e w4 ⟨rfl, rfl⟩; exact ⟨by rw [e3], Below.refl _ _⟩) | (refine grown_call (v := .bool true) ((l1In_is _ _ _ _).mono ?_); rintro e w4 ⟨rfl, rfl⟩; exact ⟨by rw [e4], Below.refl _ _⟩)) | (go_at_call 92; refine grown_call (v := .bool false) ((l4Has_any _ i c S (S i).who _ (by omega) ((HZ.out.upto (by omega)).below (after hbx g.bel))).mono ?_); rintro e w4 ⟨⟨bb, rfl, hi⟩, hbb⟩; obtain rfl := Bool.eq_false_iff.2 (fun e => H5.out (hi.1 e)); exact ⟨rfl, hbb⟩))); go_big_quiet_on)))
                    refine wpQuiet_nil ?_
                    rintro _ ⟨g, rfl⟩
                    go_wp2
                    have HAN : Hid (∀ j, j < i + 1 → OkS p S j) := fun j hj => by
                      by_cases e : j = i
                      · subst e; exact ⟨H1.out, H2.out, H3.out, by rw [HLN.out]; exact H4.out, H5.out⟩
                      · exact HA.out j (by omega)
                    go_roundw
                    case rel => exact ⟨i + 1, by omega, by go_num, HAN.out, after hbx g.bel⟩
                    case measure => simp [intOf]; omega
                · have e4 : decide (In (S i).hei 1 (p.B l)) = false := decide_eq_false g4
                  have H4 : Hid (¬ In (S i).hei 1 (p.B l)) := g4
                  clear g4
                  refine wp_region_grow (by kernel_rfl) (by kernel_rfl) ?_
                  repeat (first | go_big_quiet_skip | (go_big_quiet_want; go_big_quiet_op; first | go_big_quiet_on | (apply Exists.intro; refine ⟨fun g => ?_, ?_⟩; (focus (first | (go_at_call 90; refine grown_call (v := .bool true) ((l4By_is _ _).mono ?_); rintro e w4 ⟨rfl, rfl⟩; exact ⟨by rw [e1], Below.refl _ _⟩) | (go_at_call 91; first | (refine grown_call (v := .bool true) ((l1In_is _ _ _ _).mono ?_); rintro e w4 ⟨rfl, rfl⟩; exact ⟨by rw [e2], Below.refl _ _⟩) | (refine grown_call (v := .bool true) ((l1In_is _ _ _ _).mono ?_); rintro e w4 ⟨rfl, rfl⟩; exact ⟨by rw [e3], Below.refl _ _⟩) | (refine grown_call (v := .bool false) ((l1In_is _ _ _ _).mono ?_); rintro e w4 ⟨rfl, rfl⟩; exact ⟨by rw [e4], Below.refl _ _⟩)))); go_big_quiet_on)))
                  refine wpQuiet_nil ?_
                  rintro _ ⟨g, rfl⟩
                  go_wp2
                  go_ret
                  exact ⟨says_no (fun h => H4.out (by have := (h.2.2.1 i hlt).2.2.2.1; rw [HLN.out] at this; exact this)), after hbx g.bel⟩
              · have e3 : decide (In (S i).len 1 2000) = false := decide_eq_false g3
                have H3 : Hid (¬ In (S i).len 1 2000) := g3
                clear g3
                refine wp_region_grow (by kernel_rfl) (by kernel_rfl) ?_
                repeat (first | go_big_quiet_skip | (go_big_quiet_want; go_big_quiet_op; first | go_big_quiet_on | (apply Exists.intro; refine ⟨fun g => ?_, ?_⟩; (focus (first | (go_at_call 90; refine grown_call (v := .bool true) ((l4By_is _ _).mono ?_); rintro e w4 ⟨rfl, rfl⟩; exact ⟨by rw [e1], Below.refl _ _⟩) | (go_at_call 91; first | (refine grown_call (v := .bool true) ((l1In_is _ _ _ _).mono ?_); rintro e w4 ⟨rfl, rfl⟩; exact ⟨by rw [e2], Below.refl _ _⟩) | (refine grown_call (v := .bool false) ((l1In_is _ _ _ _).mono ?_); rintro e w4 ⟨rfl, rfl⟩; exact ⟨by rw [e3], Below.refl _ _⟩)))); go_big_quiet_on)))
                refine wpQuiet_nil ?_
                rintro _ ⟨g, rfl⟩
                go_wp2
                go_ret
                exact ⟨says_no (fun h => H3.out (h.2.2.1 i hlt).2.2.1), after hbx g.bel⟩
            · have e2 : decide (In (S i).ln 0 ((m : Int) - 1)) = false := decide_eq_false g2
              have H2 : Hid (¬ In (S i).ln 0 ((p.n : Int) - 1)) := by rw [HL.out]; exact g2
              clear g2
              refine wp_region_grow (by kernel_rfl) (by kernel_rfl) ?_
              repeat (first | go_big_quiet_skip | (go_big_quiet_want; go_big_quiet_op; first | go_big_quiet_on | (apply Exists.intro; refine ⟨fun g => ?_, ?_⟩; (focus (first | (go_at_call 90; refine grown_call (v := .bool true) ((l4By_is _ _).mono ?_); rintro e w4 ⟨rfl, rfl⟩; exact ⟨by rw [e1], Below.refl _ _⟩) | (go_at_call 91; first | (refine grown_call (v := .bool false) ((l1In_is _ _ _ _).mono ?_); rintro e w4 ⟨rfl, rfl⟩; exact ⟨by rw [e2], Below.refl _ _⟩)))); go_big_quiet_on)))
              refine wpQuiet_nil ?_
              rintro _ ⟨g, rfl⟩
              go_wp2
              go_ret
              exact ⟨says_no (fun h => H2.out (h.2.2.1 i hlt).2.1), after hbx g.bel⟩
          · have e1 : decide (In (S i).who 1 9999) = false := decide_eq_false g1
            have H1 : Hid (¬ In (S i).who 1 9999) := g1
            clear g1
            refine wp_region_grow (by kernel_rfl) (by kernel_rfl) ?_
            repeat (first | go_big_quiet_skip | (go_big_quiet_want; go_big_quiet_op; first | go_big_quiet_on | (apply Exists.intro; refine ⟨fun g => ?_, ?_⟩; (focus (first | (go_at_call 90; refine grown_call (v := .bool false) ((l4By_is _ _).mono ?_); rintro e w4 ⟨rfl, rfl⟩; exact ⟨by rw [e1], Below.refl _ _⟩))); go_big_quiet_on)))
            refine wpQuiet_nil ?_
            rintro _ ⟨g, rfl⟩
            go_wp2
            go_ret
            exact ⟨says_no (fun h => H1.out (h.2.2.1 i hlt).1), after hbx g.bel⟩
        · obtain rfl : i = n := by omega
          go_wp2_with fail
          refine (l4Free_any ao bo m mc i c p S _ HL.out HG.out h60 (fun j hj => (HA.out j hj).2.2.1) (HX.out.below hbel) (HZ.out.below hbel)).mono ?_
          rintro e w2 ⟨⟨v, rfl, hown⟩, hb2⟩
          obtain ⟨aw, cw, rfl, _⟩ := own_form hown
          have HI : Hid (IntsAt w2 aw m (left p S i)) := own_ints hown
          have hbw := after hbel hb2
          clear hown hb2 hbel
          go_wp2
          go_loopw [8, 68] (fun _ j wr => ∃ k : Nat, k ≤ m ∧ j = .int .i64 k ∧ (∀ j, j < k → 0 ≤ left p S i j) ∧ wr = w2) (fun _ j _ => m - (intOf j).toNat)
          case atStart => exact ⟨0, Nat.zero_le _, rfl, fun j hj => by omega, rfl⟩
          case round =>
            obtain ⟨k, hk, rfl, hall, hwr⟩ := hrel
            have hwr' := hwr.symm
            subst hwr'
            clear hwr
            have HK : Hid (∀ j, j < k → 0 ≤ left p S i j) := hall
            clear hall
            by_cases hlt3 : k < m
            · obtain ⟨b3, off3, rfl, h0⟩ := HI.out k hlt3
              by_cases hneg : left p S i k < 0
              · have e1 : decide (left p S i k < 0) = true := decide_eq_true hneg
                have HNE : Hid (left p S i k < 0) := hneg
                clear hneg
                go_wp2
                go_ret
                exact ⟨says_no (fun h => by have := h.2.2.2 k (by rw [HL.out]; exact hlt3); have := HNE.out; omega), hbw⟩
              · have e1 : decide (left p S i k < 0) = false := decide_eq_false hneg
                have HNE : Hid (¬ left p S i k < 0) := hneg
                clear hneg
                go_wp2
                go_roundw
                case rel => exact ⟨k + 1, by omega, by go_num, fun j hj => by
                  by_cases e : j = k
                  · subst e; have := HNE.out; omega
                  · exact HK.out j (by omega), by trivial⟩
                case measure => simp [intOf]; omega
            · obtain rfl : k = m := by omega
              go_wp2
              go_ret
              exact ⟨says_yes ⟨HG.out, h60, HA.out, fun j hj => HK.out j (by rw [HL.out] at hj; exact hj)⟩, hbw⟩
    · have d0 : decide (60 < n) = true := by simp; omega
      go_wp2
      go_ret
      exact ⟨says_no (fun h => h60 h.2.1), hb1⟩
end Go.Proofs.YtlelckbeoclhbaaGreat

namespace Go.Proofs.YtlelckbeoclhbaaGreat
open Go.RowKit
theorem l5Cabins_any (ao : Option Addr) (n c : Nat) (p : Pairs) (w : World) (hl : p.n = n) (hn : n ≤ 1048576) (hz : PairsAt w ao p) :
    Calls Tryz.prog 93 #[.slice ao n c] w fun e w' => SaysIf (GoodPairs p 6 1 3 1 4) e ∧ Below w.heap.size w w' := by
  have HL : Hid (p.n = n) := hl
  clear hl
  by_cases h0 : n ≤ 6
  · have d0 : decide (6 < n) = false := by simp; omega
    go_enter Tryz.func93, Tryz.ntmps93
    go_wp2
    go_loopw [4, 10] (fun _ i wr => ∃ k : Nat, k ≤ n ∧ i = .int .i64 k ∧ (∀ j, j < k → In (p.A j) 1 3 ∧ In (p.B j) 1 4) ∧ Below w.heap.size w wr) (fun _ i _ => n - (intOf i).toNat)
    case atStart => exact ⟨0, Nat.zero_le _, rfl, fun j hj => by omega, Below.refl _ _⟩
    case round =>
      obtain ⟨k, hk, rfl, hall, hbel⟩ := hrel
      have HA : Hid (∀ j, j < k → In (p.A j) 1 3 ∧ In (p.B j) 1 4) := hall
      clear hall d0
      by_cases hlt : k < n
      · obtain ⟨b, off, rfl, h1, h2⟩ := hz k (by rw [HL.out]; omega)
        have hb := World.block_lt_of_cell? w _ h1
        have c1 := (hbel.cell (p := ⟨b, off + k * 2, none⟩) hb).trans h1
        have c2 := (hbel.cell (p := ⟨b, off + k * 2 + 1, none⟩) hb).trans h2
        clear h1 h2
        by_cases g1 : In (p.A k) 1 3
        · have e1 : decide (In (p.A k) 1 3) = true := decide_eq_true g1
          by_cases g2 : In (p.B k) 1 4
          · have e2 : decide (In (p.B k) 1 4) = true := decide_eq_true g2
            have HK : Hid (In (p.A k) 1 3 ∧ In (p.B k) 1 4) := ⟨g1, g2⟩
            clear g1 g2
            go_wp2_with (first | (go_at_call 91; refine (l1In_is _ _ _ _).mono ?_; rintro e w' ⟨rfl, hw'⟩; have hw' := hw'.symm; subst hw'))
            go_roundw
            case rel => exact ⟨k + 1, by omega, by go_num, fun j hj => by
              by_cases e : j = k
              · subst e; exact HK.out
              · exact HA.out j (by omega), push hbel _⟩
            case measure => simp [intOf]; omega
          · have e2 : decide (In (p.B k) 1 4) = false := decide_eq_false g2
            have HK : Hid (¬ In (p.B k) 1 4) := g2
            clear g1 g2
            go_wp2_with (first | (go_at_call 91; refine (l1In_is _ _ _ _).mono ?_; rintro e w' ⟨rfl, hw'⟩; have hw' := hw'.symm; subst hw'))
            go_ret
            exact ⟨says_no (fun h => HK.out (h.2 k (by rw [HL.out]; exact hlt)).2), push hbel _⟩
        · have e1 : decide (In (p.A k) 1 3) = false := decide_eq_false g1
          have HK : Hid (¬ In (p.A k) 1 3) := g1
          clear g1
          go_wp2_with (first | (go_at_call 91; refine (l1In_is _ _ _ _).mono ?_; rintro e w' ⟨rfl, hw'⟩; have hw' := hw'.symm; subst hw'))
          go_ret
          exact ⟨says_no (fun h => HK.out (h.2 k (by rw [HL.out]; exact hlt)).1), push hbel _⟩
      · obtain rfl : k = n := by omega
        go_wp2
        go_ret
        exact ⟨says_yes ⟨by rw [HL.out]; exact h0, fun j hj => HA.out j (by rw [HL.out] at hj; exact hj)⟩, hbel⟩
  · have d0 : decide (6 < n) = true := by simp; omega
    go_enter Tryz.func93, Tryz.ntmps93
    go_wp2
    go_ret
    exact ⟨says_no (fun h => by have := h.1; rw [HL.out] at this; exact h0 this), Below.refl _ _⟩
end Go.Proofs.YtlelckbeoclhbaaGreat
