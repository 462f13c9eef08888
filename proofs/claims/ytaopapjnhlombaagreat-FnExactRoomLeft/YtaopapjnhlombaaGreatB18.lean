/-
  OWN TEXT: SpecCab, SpecR, SpecSe.
-/
import Derived.Deep.LoopGhost
import Derived.Deep.DeepCutAuto
import Derived.Test.YtaopapjnhlombaaGreatB13
import Derived.Test.YtaopapjnhlombaaGreatB11
import Derived.Test.YtaopapjnhlombaaGreatB17
import Derived.Test.YtaopapjnhlombaaGreatB05
import Derived.Test.YtaopapjnhlombaaGreatB12
import Derived.Test.YtaopapjnhlombaaGreatB04
namespace Go.Proofs.YtaopapjnhlombaaGreat
open Go.RowKit

set_option maxHeartbeats 800000 in
set_option maxRecDepth 100000 in
theorem l5Cabins_any (ao : Option Addr) (n c : Nat) (p : Pairs) (w : World) (hl : p.n = n) (hn : n ≤ 1048576) (hz : PairsAt w ao p) :
    Calls Tryz.prog 100 #[.slice ao n c] w fun e w' => SaysIf (GoodPairs p 6 1 3 1 4) e ∧ Below w.heap.size w w' := by
  have HL : Hid (p.n = n) := hl
  clear hl
  by_cases h0 : n ≤ 6
  · have d0 : decide (6 < n) = false := by simp; omega
    go_enter Tryz.func100, Tryz.ntmps100
    go_wp2
    go_loopw [4, 10] (fun _ i wr => ∃ k : Nat, k ≤ n ∧ i = .int .i64 k ∧ (∀ j, j < k → In (p.A j) 1 3 ∧ In (p.B j) 1 4) ∧ Below w.heap.size w wr) (fun _ i _ => n - (intOf i).toNat)
    case atStart => exact ⟨0, Nat.zero_le _, rfl, fun j hj => by omega, Below.refl _ _⟩
    case round =>
      obtain ⟨k, hk, rfl, hall, hbel⟩ := hrel
      have HA : Hid (∀ j, j < k → In (p.A j) 1 3 ∧ In (p.B j) 1 4) := hall
      clear hall d0
      by_cases hlt : k < n
      · obtain ⟨b, off, rfl, h1, h2⟩ := hz k (by rw [HL.out]; omega)
        have hb := World.block_lt_of_cell? w _ h1
        have c1 := (hbel.cell (p := ⟨b, off + k * 2, none⟩) hb).trans h1
        have c2 := (hbel.cell (p := ⟨b, off + k * 2 + 1, none⟩) hb).trans h2
        clear h1 h2
        by_cases g1 : In (p.A k) 1 3
        · have e1 : decide (In (p.A k) 1 3) = true := decide_eq_true g1
          by_cases g2 : In (p.B k) 1 4
          · have e2 : decide (In (p.B k) 1 4) = true := decide_eq_true g2
            have HK : Hid (In (p.A k) 1 3 ∧ In (p.B k) 1 4) := ⟨g1, g2⟩
            clear g1 g2
            go_wp2_with (first | (go_at_call 98; refine (l1In_is _ _ _ _).mono ?_; rintro e w' ⟨rfl, hw'⟩; have hw' := hw'.symm; subst hw'))
            go_roundw
            case rel => exact ⟨k + 1, by omega, by go_num, fun j hj => by
              by_cases e : j = k
              · subst e; exact HK.out
              · exact HA.out j (by omega), push hbel _⟩
            case measure => simp [intOf]; omega
          · have e2 : decide (In (p.B k) 1 4) = false := decide_eq_false g2
            have HK : Hid (¬ In (p.B k) 1 4) := g2
            clear g1 g2
            go_wp2_with (first | (go_at_call 98; refine (l1In_is _ _ _ _).mono ?_; rintro e w' ⟨rfl, hw'⟩; have hw' := hw'.symm; subst hw'))
            go_ret
            exact ⟨says_no (fun h => HK.out (h.2 k (by rw [HL.out]; exact hlt)).2), push hbel _⟩
        · have e1 : decide (In (p.A k) 1 3) = false := decide_eq_false g1
          have HK : Hid (¬ In (p.A k) 1 3) := g1
          clear g1
          go_wp2_with (first | (go_at_call 98; refine (l1In_is _ _ _ _).mono ?_; rintro e w' ⟨rfl, hw'⟩; have hw' := hw'.symm; subst hw'))
          go_ret
          exact ⟨says_no (fun h => HK.out (h.2 k (by rw [HL.out]; exact hlt)).1), push hbel _⟩
      · obtain rfl : k = n := by omega
        go_wp2
        go_ret
        exact ⟨says_yes ⟨by rw [HL.out]; exact h0, fun j hj => HA.out j (by rw [HL.out] at hj; exact hj)⟩, hbel⟩
  · have d0 : decide (6 < n) = true := by simp; omega
    go_enter Tryz.func100, Tryz.ntmps100
    go_wp2
    go_ret
    exact ⟨says_no (fun h => by have := h.1; rw [HL.out] at this; exact h0 this), Below.refl _ _⟩

end Go.Proofs.YtaopapjnhlombaaGreat

namespace Go.Proofs.YtaopapjnhlombaaGreat
open Go.RowKit

set_option maxHeartbeats 800000 in
set_option maxRecDepth 100000 in
theorem l5Has_any (ao : Option Addr) (n c : Nat) (S : Nat → Room) (x : Int) (w : World) (hn : n ≤ 1048576) (hz : RoomsAt w ao n S) :
    Calls Tryz.prog 101 #[.slice ao n c, .int .i64 x] w fun e w' => SaysIf (Has (whoR S) n x) e ∧ Below w.heap.size w w' := by
  go_enter Tryz.func101, Tryz.ntmps101
  go_wp2
  go_loopw [6, 9] (fun _ i wr => ∃ k : Nat, k ≤ n ∧ i = .int .i64 k ∧ (∀ j, j < k → whoR S j ≠ x) ∧ Below w.heap.size w wr) (fun _ i _ => n - (intOf i).toNat)
  case atStart => exact ⟨0, Nat.zero_le _, rfl, fun j hj => by omega, Below.refl _ _⟩
  case round =>
    obtain ⟨k, hk, rfl, hall, hbel⟩ := hrel
    have HA : Hid (∀ j, j < k → whoR S j ≠ x) := hall
    clear hall
    by_cases hlt2 : k < n
    · obtain ⟨b, off, rfl, h0, h1, h2, h3⟩ := hz k hlt2
      have hb := World.block_lt_of_cell? w _ h0
      have c0 := (hbel.cell (p := ⟨b, off + k * 4, none⟩) hb).trans h0
      have c1 := (hbel.cell (p := ⟨b, off + k * 4 + 1, none⟩) hb).trans h1
      have c2 := (hbel.cell (p := ⟨b, off + k * 4 + 2, none⟩) hb).trans h2
      have c3 := (hbel.cell (p := ⟨b, off + k * 4 + 3, none⟩) hb).trans h3
      clear h0 h1 h2 h3
      by_cases he : whoR S k = x
      · have e1 : ((S k).who == x) = true := by unfold whoR at he; simpa using he
        have HF : Hid (Has (whoR S) n x) := ⟨k, hlt2, he⟩
        clear he
        go_wp2
        go_ret
        exact ⟨says_yes HF.out, push hbel _⟩
      · have e1 : ((S k).who == x) = false := by unfold whoR at he; simpa using he
        have HE : Hid (whoR S k ≠ x) := he
        clear he
        go_wp2
        go_roundw
        case rel => exact ⟨k + 1, by omega, by go_num, fun j hj => by
          by_cases e : j = k
          · subst e; exact HE.out
          · exact HA.out j (by omega), push hbel _⟩
        case measure => simp [intOf]; omega
    · obtain rfl : k = n := by omega
      have HF : Hid (¬ Has (whoR S) k x) := not_has HA.out
      go_wp2
      go_ret
      exact ⟨says_no HF.out, hbel⟩

set_option maxHeartbeats 1600000 in
set_option maxRecDepth 100000 in
theorem l5Free_any (ao bo : Option Addr) (m mc n c : Nat) (p : Pairs) (S : Nat → Room) (w : World) (hl : p.n = m) (hg : GoodC p) (hn : n ≤ 60) (hs : ∀ j, j < n → In (S j).many 1 4) (hx : PairsAt w ao p) (hz : RoomsAt w bo n S) :
    Calls Tryz.prog 25 #[.slice ao m mc, .slice bo n c] w fun e w' => (∃ v, e = .returned v ∧ w'.ownsRow w.heap.size 3 1 v m (intList (leftR p S n) m)) ∧ Below w.heap.size w w' := by
  obtain ⟨j0, ji, jz0, jz1, jz2⟩ := info_parts Tryz.infoInt
  have HL : Hid (p.n = m) := hl
  have HG : Hid (GoodC p) := hg
  have HS : Hid (∀ j, j < n → In (S j).many 1 4) := hs
  have HX : Hid (PairsAt w ao p) := hx
  have HZ : Hid (RoomsAt w bo n S) := hz
  have hm4 : m ≤ 6 := by rw [← hl]; exact hg.1
  clear hl hg hs hx hz
  go_enter Tryz.func25, Tryz.ntmps25
  go_wp2
  go_loopw [5, 6, 7, 8, 10, 13, 20, 21, 22] (fun v _ _ _ _ i _ _ _ wr => ∃ k : Nat, k ≤ m ∧ i = .int .i64 k ∧ wr.ownsRow w.heap.size 3 1 v k (intList (leftR p S n) k) ∧ Below w.heap.size w wr) (fun _ _ _ _ _ i _ _ _ _ => m - (intOf i).toNat)
  case atStart => exact ⟨0, Nat.zero_le _, rfl, ⟨rfl, .inl ⟨rfl, rfl⟩⟩, Below.refl _ _⟩
  case round =>
    obtain ⟨k, hk, rfl, hown, hbel⟩ := hrel
    by_cases hlt : k < m
    · obtain ⟨b, off, rfl, h1, h2⟩ := HX.out k (by rw [HL.out]; exact hlt)
      have hb := World.block_lt_of_cell? w _ h1
      have c1 := (hbel.cell (p := ⟨b, off + k * 2, none⟩) hb).trans h1
      have c2 := (hbel.cell (p := ⟨b, off + k * 2 + 1, none⟩) hb).trans h2
      clear h1 h2
      go_wp2
      go_loopw [8, 10, 22] (fun s8 _ i wq => ∃ t : Nat, t ≤ n ∧ i = .int .i64 t ∧ s8 = .int .i64 (leftR p S t k) ∧ wq.ownsRow w.heap.size 3 1 u5 k (intList (leftR p S n) k) ∧ Below w.heap.size w wq) (fun _ _ i _ => n - (intOf i).toNat)
      case atStart => exact ⟨0, Nat.zero_le _, rfl, by rw [leftR_0], own_below (push (Below.refl _ _) _) hown, push hbel _⟩
      case round =>
        obtain ⟨t, ht, rfl, rfl, hown2, hbel2⟩ := hrel
        clear hown hbel c1 c2
        by_cases hlt2 : t < n
        · obtain ⟨b2, off2, rfl, h0, h1, h2, h3⟩ := HZ.out t hlt2
          have hb2 := World.block_lt_of_cell? w _ h0
          have c0 := (hbel2.cell (p := ⟨b2, off2 + t * 4, none⟩) hb2).trans h0
          have c1 := (hbel2.cell (p := ⟨b2, off2 + t * 4 + 1, none⟩) hb2).trans h1
          have c2 := (hbel2.cell (p := ⟨b2, off2 + t * 4 + 2, none⟩) hb2).trans h2
          have c3 := (hbel2.cell (p := ⟨b2, off2 + t * 4 + 3, none⟩) hb2).trans h3
          clear h0 h1 h2 h3
          by_cases he : (S t).cab = (k : Int)
          · have e1 : ((S t).cab == (k : Int)) = true := by simpa using he
            have HE : Hid ((S t).cab = (k : Int)) := he
            have hwr : IntKind.i64.wrap (leftR p S t k - (S t).many) = leftR p S t k - (S t).many := by
              have h1 := leftR_bounds HG.out (show t ≤ 60 by omega) (fun j hj => HS.out j (by omega)) (show k < p.n by rw [HL.out]; exact hlt)
              have h2 := HS.out t hlt2
              unfold In at h2
              rw [IntKind.wrap_i64]; omega
            clear he
            go_wp2
            go_roundw
            case rel => exact ⟨t + 1, by omega, by go_num, by rw [leftR_at p S t k HE.out], own_below (push (Below.refl _ _) _) hown2, push hbel2 _⟩
            case measure => simp [intOf]; omega
          · have e1 : ((S t).cab == (k : Int)) = false := by simpa using he
            have HE : Hid ((S t).cab ≠ (k : Int)) := he
            clear he
            go_wp2
            go_roundw
            case rel => exact ⟨t + 1, by omega, by go_num, by rw [leftR_ne p S t k HE.out], own_below (push (Below.refl _ _) _) hown2, push hbel2 _⟩
            case measure => simp [intOf]; omega
        · obtain rfl : t = n := by omega
          have hsz := hbel2.size
          have HC : Hid (∀ ad, (some ⟨wr.heap.size, 0, none⟩ : Option Addr) = some ad → ∀ j u, [Value.int .i64 (leftR p S t k)][j]? = some u → (wr.alloc (.cells #[.int .i64 (leftR p S t k)] 3)).cell? (ad.add j) = some u) := by
            intro ad e
            cases e
            exact World.news_of_block (heap_alloc_new wr _)
          go_wp2_with (first | (at_builtin; refine wpList_append_any _ (by rfl) (.tmp 35) (.tmp 37) 28 (by rfl) w.heap.size 3 j0 (.int .i64 0) 1 8 Tryz.underlying28 ji jz0 jz1 jz2 rfl (by decide) _ k (intList (leftR p S t) k) (by rfl) (hown2.alloc _) (some ⟨wr.heap.size, 0, none⟩) 1 1 [.int .i64 (leftR p S t k)] (by rfl) (fun h => (by cases h)) (by rfl) HC.out (by intro u hu; simp at hu; subst hu; rfl) (by unfold maxLen; omega) (by omega) (by simp; omega) ?_; intro v' w3 ho3 hg3))
          go_roundw
          case rel => exact ⟨k + 1, by omega, by go_num, by rw [intList_succ]; exact ho3, (push hbel2 _).grown hg3 (by simp; omega) (fun j hj => (hown2.lt j hj).1)⟩
          case measure => simp [intOf]; omega
    · obtain rfl : k = m := by omega
      go_wp2
      go_ret
      exact ⟨⟨_, rfl, hown⟩, hbel⟩

set_option maxHeartbeats 6400000 in
set_option maxRecDepth 100000 in
theorem specRooms_any (ao bo : Option Addr) (m mc n c : Nat) (p : Pairs) (S : Nat → Room) (w : World) (hl : p.n = m) (hm : m ≤ 1048576) (hn : n ≤ 1048576) (hc : n ≤ c) (hx : PairsAt w ao p) (hz : RoomsAt w bo n S) :
    Calls Tryz.prog 56 #[.slice ao m mc, .slice bo n c] w fun e w' => SaysIf (RoomsS p n S) e ∧ Below w.heap.size w w' := by
  have HL : Hid (p.n = m) := hl
  have HX : Hid (PairsAt w ao p) := hx
  have HZ : Hid (RoomsAt w bo n S) := hz
  clear hl hx hz
  go_enter Tryz.func56, Tryz.ntmps56
  go_wp2_with fail
  refine (l5Cabins_any ao m mc p _ HL.out hm HX.out).mono ?_
  rintro e w1 ⟨⟨q, rfl, hq⟩, hb1⟩
  cases q with
  | false =>
    have HG : Hid (¬ GoodC p) := fun h => by have := hq.2 h; cases this
    clear hq
    go_wp2
    go_ret
    exact ⟨says_no (fun h => HG.out h.1), hb1⟩
  | true =>
    have HG : Hid (GoodC p) := hq.1 rfl
    have hm4 : m ≤ 6 := by rw [← HL.out]; exact HG.out.1
    clear hq
    by_cases h60 : n ≤ 60
    · have d0 : decide (60 < n) = false := by simp; omega
      have hwm : IntKind.i64.wrap ((m : Int) - 1) = (m : Int) - 1 := by rw [IntKind.wrap_i64]; omega
      go_wp2
      go_loopw [5, 6, 8, 21, 70, 71, 72] (fun _ _ _ i _ _ _ wr => ∃ k : Nat, k ≤ n ∧ i = .int .i64 k ∧ (∀ j, j < k → OkR p S j) ∧ Below w.heap.size w wr) (fun _ _ _ i _ _ _ _ => n - (intOf i).toNat)
      case atStart => exact ⟨0, Nat.zero_le _, rfl, fun j hj => by omega, hb1⟩
      case round =>
        obtain ⟨i, hi, rfl, hall, hbel⟩ := hrel
        have HA : Hid (∀ j, j < i → OkR p S j) := hall
        clear hall hb1
        by_cases hlt : i < n
        · obtain ⟨b, off, rfl, h0, h1, h2, h3⟩ := HZ.out i hlt
          have hb := World.block_lt_of_cell? w _ h0
          have c0 := (hbel.cell (p := ⟨b, off + i * 4, none⟩) hb).trans h0
          have c1 := (hbel.cell (p := ⟨b, off + i * 4 + 1, none⟩) hb).trans h1
          have c2 := (hbel.cell (p := ⟨b, off + i * 4 + 2, none⟩) hb).trans h2
          have c3 := (hbel.cell (p := ⟨b, off + i * 4 + 3, none⟩) hb).trans h3
          have hbox := heap_alloc_new wr (.cells #[.int .i64 (S i).who, .int .i64 (S i).cab, .int .i64 (S i).many, .bool (S i).all] 128)
          have hbx := push hbel (.cells #[.int .i64 (S i).who, .int .i64 (S i).cab, .int .i64 (S i).many, .bool (S i).all] 128)
          clear h0 h1 h2 h3
          go_upto_region 6 with fail
          generalize hW : wr.alloc (.cells #[.int .i64 (S i).who, .int .i64 (S i).cab, .int .i64 (S i).many, .bool (S i).all] 128) = W at hbox hbx ⊢
          clear hW
          have hsW : wr.heap.size < W.heap.size := blk_lt hbox
          have HBX : Hid (W.heap[wr.heap.size]? = some (.cells #[.int .i64 (S i).who, .int .i64 (S i).cab, .int .i64 (S i).many, .bool (S i).all] 128 (0, 0))) := hbox
          generalize wr.heap.size = B at *
          clear c0 c1 c2 c3 hbox hbel
          have i1 : (0 : Int) ≤ (i : Int) := by omega
          have i2 : (i : Int) ≤ (c : Int) := by omega
          go_cut [67] (fun c67 wx => Tells (OkR0 p S i) c67 ∧ Below W.heap.size W wx)
          case first =>
            have z0 : ∀ g : Grown W, g.val.cell? ⟨B, 0, none⟩ = some (.int .i64 (S i).who) := fun g => (g.bel.cell hsW).trans (blk_cell HBX.out 0 _ rfl)
            have z1 : ∀ g : Grown W, g.val.cell? ⟨B, 1, none⟩ = some (.int .i64 (S i).cab) := fun g => (g.bel.cell hsW).trans (blk_cell HBX.out 1 _ rfl)
            have z2 : ∀ g : Grown W, g.val.cell? ⟨B, 2, none⟩ = some (.int .i64 (S i).many) := fun g => (g.bel.cell hsW).trans (blk_cell HBX.out 2 _ rfl)
            have z3 : ∀ g : Grown W, g.val.cell? ⟨B, 3, none⟩ = some (.bool (S i).all) := fun g => (g.bel.cell hsW).trans (blk_cell HBX.out 3 _ rfl)
            by_cases g1 : In (S i).who 1 9999
            · have e1 : decide (In (S i).who 1 9999) = true := decide_eq_true g1
              have H1 : Hid (In (S i).who 1 9999) := g1
              clear g1
              by_cases g2 : Has (whoR S) i (S i).who
              · have H2 : Hid (Has (whoR S) i (S i).who) := g2
                clear g2
                refine wp_region_grow (by kernel_rfl) (by kernel_rfl) ?_
                repeat (first | go_big_quiet_skip | (go_big_quiet_want; go_big_quiet_op; first | go_big_quiet_on | (apply Exists.intro; refine ⟨fun g => ?_, ?_⟩; (focus (first | (go_at_call 97; refine grown_call (v := .bool true) ((l4By_is _ _).mono ?_); rintro e w4 ⟨rfl, rfl⟩; exact ⟨by rw [e1], Below.refl _ _⟩) | (go_at_call 101; refine grown_call (v := .bool true) ((l5Has_any _ i c S (S i).who _ (by omega) ((HZ.out.upto (by omega)).below (after hbx g.bel))).mono ?_); rintro e w4 ⟨⟨bb, rfl, hi⟩, hbb⟩; obtain rfl := hi.2 H2.out; exact ⟨rfl, hbb⟩))); go_big_quiet_on)))
                refine wpQuiet_nil ?_
                rintro _ ⟨g, rfl⟩
                go_wp2
                go_meet
                exact ⟨tells_bad (fun h => h.2.1 H2.out), g.bel⟩
              · have H2 : Hid (¬ Has (whoR S) i (S i).who) := g2
                clear g2
                by_cases g3 : In (S i).cab 0 ((m : Int) - 1)
                · have H3 : Hid (In (S i).cab 0 ((p.n : Int) - 1)) := by rw [HL.out]; exact g3
                  obtain ⟨l, hl⟩ : ∃ l : Nat, (S i).cab = l := ⟨(S i).cab.toNat, by unfold In at g3; omega⟩
                  have hlm : l < m := by unfold In at g3; omega
                  have HLN : Hid ((S i).cab = l) := hl
                  have e3 : decide (In (l : Int) 0 ((m : Int) - 1)) = true := decide_eq_true (by rw [← hl]; exact g3)
                  have z1' : ∀ g : Grown W, g.val.cell? ⟨B, 1, none⟩ = some (.int .i64 (l : Int)) := fun g => by rw [z1 g, hl]
                  obtain ⟨b', off', rfl, k1, k2⟩ := HX.out l (by rw [HL.out]; exact hlm)
                  have hb' := World.block_lt_of_cell? w _ k1
                  have y2 : ∀ g : Grown W, g.val.cell? ⟨b', off' + l * 2 + 1, none⟩ = some (.int .i64 (p.B l)) := fun g => ((after hbx g.bel).cell (p := ⟨b', off' + l * 2 + 1, none⟩) hb').trans k2
                  have l1 : (0 : Int) ≤ (l : Int) := by omega
                  have l2 : (l : Int) < (m : Int) := by omega
                  clear g3 z1 hl k1 k2
                  by_cases g4 : In (S i).many 1 4
                  · have e4 : decide (In (S i).many 1 4) = true := decide_eq_true g4
                    have H4 : Hid (In (S i).many 1 4) := g4
                    clear g4
                    cases hall : (S i).all with
                    | false =>
                      rw [hall] at z3
                      have H5 : Hid ((S i).all = false) := hall
                      clear hall
                      refine wp_region_grow (by kernel_rfl) (by kernel_rfl) ?_
                      repeat (first | go_big_quiet_skip | (go_big_quiet_want; go_big_quiet_op; first | go_big_quiet_on | (apply Exists.intro; refine ⟨fun g => ?_, ?_⟩; (focus (first | (go_at_call 97; refine grown_call (v := .bool true) ((l4By_is _ _).mono ?_); rintro e w4 ⟨rfl, rfl⟩; exact ⟨by rw [e1], Below.refl _ _⟩) | (go_at_call 101; refine grown_call (v := .bool false) ((l5Has_any _ i c S (S i).who _ (by omega) ((HZ.out.upto (by omega)).below (after hbx g.bel))).mono ?_); rintro e w4 ⟨⟨bb, rfl, hi⟩, hbb⟩; obtain rfl := Bool.eq_false_iff.2 (fun e => H2.out (hi.1 e)); exact ⟨rfl, hbb⟩) | (go_at_call 98; first | (refine grown_call (v := .bool true) ((l1In_is _ _ _ _).mono ?_); rintro e w4 ⟨rfl, rfl⟩; exact ⟨by rw [e3], Below.refl _ _⟩) | (refine grown_call (v := .bool true) ((l1In_is _ _ _ _).mono ?_); rintro e w4 ⟨rfl, rfl⟩; exact ⟨by rw [e4], Below.refl _ _⟩)))); go_big_quiet_on)))
                      refine wpQuiet_nil ?_
                      rintro _ ⟨g, rfl⟩
                      go_wp2
                      go_meet
                      exact ⟨tells_good ⟨H1.out, H2.out, H3.out, H4.out, fun h => by rw [H5.out] at h; cases h⟩, g.bel⟩
                    | true =>
                      rw [hall] at z3
                      have H5 : Hid ((S i).all = true) := hall
                      clear hall
                      by_cases g6 : (S i).many = p.B l
                      · have e6 : ((S i).many == p.B l) = true := by simpa using g6
                        have e7 : ((S i).many != p.B l) = false := by simpa using g6
                        have H6 : Hid ((S i).many = p.B l) := g6
                        clear g6
                        refine wp_region_grow (by kernel_rfl) (by kernel_rfl) ?_
                        repeat (first | go_big_quiet_skip | (go_big_quiet_want; go_big_quiet_op; first | go_big_quiet_on | (apply Exists.intro; refine ⟨fun g => ?_, ?_⟩; (focus (first | (go_at_call 97; refine grown_call (v := .bool true) ((l4By_is _ _).mono ?_); rintro e w4 ⟨rfl, rfl⟩; exact ⟨by rw [e1], Below.refl _ _⟩) | (go_at_call 101; refine grown_call (v := .bool false) ((l5Has_any _ i c S (S i).who _ (by omega) ((HZ.out.upto (by omega)).below (after hbx g.bel))).mono ?_); rintro e w4 ⟨⟨bb, rfl, hi⟩, hbb⟩; obtain rfl := Bool.eq_false_iff.2 (fun e => H2.out (hi.1 e)); exact ⟨rfl, hbb⟩) | (go_at_call 98; first | (refine grown_call (v := .bool true) ((l1In_is _ _ _ _).mono ?_); rintro e w4 ⟨rfl, rfl⟩; exact ⟨by rw [e3], Below.refl _ _⟩) | (refine grown_call (v := .bool true) ((l1In_is _ _ _ _).mono ?_); rintro e w4 ⟨rfl, rfl⟩; exact ⟨by rw [e4], Below.refl _ _⟩)))); go_big_quiet_on)))
                        refine wpQuiet_nil ?_
                        rintro _ ⟨g, rfl⟩
                        go_wp2
                        go_meet
                        exact ⟨tells_good ⟨H1.out, H2.out, H3.out, H4.out, fun _ => by rw [HLN.out]; exact H6.out⟩, g.bel⟩
                      · have e6 : ((S i).many == p.B l) = false := by simpa using g6
                        have e7 : ((S i).many != p.B l) = true := by simpa using g6
                        have H6 : Hid (¬ (S i).many = p.B l) := g6
                        clear g6
                        refine wp_region_grow (by kernel_rfl) (by kernel_rfl) ?_
                        repeat (first | go_big_quiet_skip | (go_big_quiet_want; go_big_quiet_op; first | go_big_quiet_on | (apply Exists.intro; refine ⟨fun g => ?_, ?_⟩; (focus (first | (go_at_call 97; refine grown_call (v := .bool true) ((l4By_is _ _).mono ?_); rintro e w4 ⟨rfl, rfl⟩; exact ⟨by rw [e1], Below.refl _ _⟩) | (go_at_call 101; refine grown_call (v := .bool false) ((l5Has_any _ i c S (S i).who _ (by omega) ((HZ.out.upto (by omega)).below (after hbx g.bel))).mono ?_); rintro e w4 ⟨⟨bb, rfl, hi⟩, hbb⟩; obtain rfl := Bool.eq_false_iff.2 (fun e => H2.out (hi.1 e)); exact ⟨rfl, hbb⟩) | (go_at_call 98; first | (refine grown_call (v := .bool true) ((l1In_is _ _ _ _).mono ?_); rintro e w4 ⟨rfl, rfl⟩; exact ⟨by rw [e3], Below.refl _ _⟩) | (refine grown_call (v := .bool true) ((l1In_is _ _ _ _).mono ?_); rintro e w4 ⟨rfl, rfl⟩; exact ⟨by rw [e4], Below.refl _ _⟩)))); go_big_quiet_on)))
                        refine wpQuiet_nil ?_
                        rintro _ ⟨g, rfl⟩
                        go_wp2
                        go_meet
                        exact ⟨tells_bad (fun h => H6.out (by have := h.2.2.2.2 H5.out; rw [HLN.out] at this; exact this)), g.bel⟩
                  · have e4 : decide (In (S i).many 1 4) = false := decide_eq_false g4
                    have H4 : Hid (¬ In (S i).many 1 4) := g4
                    clear g4
                    refine wp_region_grow (by kernel_rfl) (by kernel_rfl) ?_
                    repeat (first | go_big_quiet_skip | (go_big_quiet_want; go_big_quiet_op; first | go_big_quiet_on | (apply Exists.intro; refine ⟨fun g => ?_, ?_⟩; (focus (first | (go_at_call 97; refine grown_call (v := .bool true) ((l4By_is _ _).mono ?_); rintro e w4 ⟨rfl, rfl⟩; exact ⟨by rw [e1], Below.refl _ _⟩) | (go_at_call 101; refine grown_call (v := .bool false) ((l5Has_any _ i c S (S i).who _ (by omega) ((HZ.out.upto (by omega)).below (after hbx g.bel))).mono ?_); rintro e w4 ⟨⟨bb, rfl, hi⟩, hbb⟩; obtain rfl := Bool.eq_false_iff.2 (fun e => H2.out (hi.1 e)); exact ⟨rfl, hbb⟩) | (go_at_call 98; first | (refine grown_call (v := .bool true) ((l1In_is _ _ _ _).mono ?_); rintro e w4 ⟨rfl, rfl⟩; exact ⟨by rw [e3], Below.refl _ _⟩) | (refine grown_call (v := .bool false) ((l1In_is _ _ _ _).mono ?_); rintro e w4 ⟨rfl, rfl⟩; exact ⟨by rw [e4], Below.refl _ _⟩)))); go_big_quiet_on)))
                    refine wpQuiet_nil ?_
                    rintro _ ⟨g, rfl⟩
                    go_wp2
                    go_meet
                    exact ⟨tells_bad (fun h => H4.out h.2.2.2.1), g.bel⟩
                · have e3 : decide (In (S i).cab 0 ((m : Int) - 1)) = false := decide_eq_false g3
                  have H3 : Hid (¬ In (S i).cab 0 ((p.n : Int) - 1)) := by rw [HL.out]; exact g3
                  clear g3
                  refine wp_region_grow (by kernel_rfl) (by kernel_rfl) ?_
                  repeat (first | go_big_quiet_skip | (go_big_quiet_want; go_big_quiet_op; first | go_big_quiet_on | (apply Exists.intro; refine ⟨fun g => ?_, ?_⟩; (focus (first | (go_at_call 97; refine grown_call (v := .bool true) ((l4By_is _ _).mono ?_); rintro e w4 ⟨rfl, rfl⟩; exact ⟨by rw [e1], Below.refl _ _⟩) | (go_at_call 101; refine grown_call (v := .bool false) ((l5Has_any _ i c S (S i).who _ (by omega) ((HZ.out.upto (by omega)).below (after hbx g.bel))).mono ?_); rintro e w4 ⟨⟨bb, rfl, hi⟩, hbb⟩; obtain rfl := Bool.eq_false_iff.2 (fun e => H2.out (hi.1 e)); exact ⟨rfl, hbb⟩) | (go_at_call 98; first | (refine grown_call (v := .bool false) ((l1In_is _ _ _ _).mono ?_); rintro e w4 ⟨rfl, rfl⟩; exact ⟨by rw [e3], Below.refl _ _⟩)))); go_big_quiet_on)))
                  refine wpQuiet_nil ?_
                  rintro _ ⟨g, rfl⟩
                  go_wp2
                  go_meet
                  exact ⟨tells_bad (fun h => H3.out h.2.2.1), g.bel⟩
            · have e1 : decide (In (S i).who 1 9999) = false := decide_eq_false g1
              have H1 : Hid (¬ In (S i).who 1 9999) := g1
              clear g1
              refine wp_region_grow (by kernel_rfl) (by kernel_rfl) ?_
              repeat (first | go_big_quiet_skip | (go_big_quiet_want; go_big_quiet_op; first | go_big_quiet_on | (apply Exists.intro; refine ⟨fun g => ?_, ?_⟩; (focus (first | (go_at_call 97; refine grown_call (v := .bool false) ((l4By_is _ _).mono ?_); rintro e w4 ⟨rfl, rfl⟩; exact ⟨by rw [e1], Below.refl _ _⟩))); go_big_quiet_on)))
              refine wpQuiet_nil ?_
              rintro _ ⟨g, rfl⟩
              go_wp2
              go_meet
              exact ⟨tells_bad (fun h => H1.out h.1), g.bel⟩
          case rest =>
            obtain ⟨⟨tb, rfl, htb⟩, hbc⟩ := hcut
            have HT : Hid (tb = false ↔ OkR0 p S i) := htb
            have bwc := after hbx hbc
            have hboxc := blk_below HBX.out hbc
            clear htb hbx hbc HBX
            cases tb with
            | true =>
              have HNO : Hid (¬ OkR0 p S i) := fun h => by have := HT.out.2 h; cases this
              clear HT
              go_wp2
              go_ret
              exact ⟨says_no (fun h => HNO.out (h.2.2.1 i hlt).1), bwc⟩
            | false =>
              have H0 : Hid (OkR0 p S i) := HT.out.1 rfl
              clear HT
              generalize wc = W2 at *
              go_wp2
              go_loopw [8, 72] (fun _ j wq => ∃ k : Nat, k ≤ i ∧ j = .int .i64 k ∧ (∀ j, j < k → OkR2 S i j) ∧ Below W2.heap.size W2 wq) (fun _ j _ => i - (intOf j).toNat)
              case atStart => exact ⟨0, Nat.zero_le _, rfl, fun j hj => by omega, Below.refl _ _⟩
              case round =>
                obtain ⟨k, hk, rfl, hall2, hbel2⟩ := hrel
                have HA2 : Hid (∀ j, j < k → OkR2 S i j) := hall2
                clear hall2
                by_cases hlt2 : k < i
                · obtain ⟨b2, off2, e2, h0, h1, h2, h3⟩ := HZ.out k (by omega)
                  simp only [Option.some.injEq, Addr.mk.injEq, and_true] at e2
                  obtain ⟨rfl, rfl⟩ := e2
                  have c0 := ((after bwc hbel2).cell (p := ⟨b, off + k * 4, none⟩) hb).trans h0
                  have c1 := ((after bwc hbel2).cell (p := ⟨b, off + k * 4 + 1, none⟩) hb).trans h1
                  have c2 := ((after bwc hbel2).cell (p := ⟨b, off + k * 4 + 2, none⟩) hb).trans h2
                  have c3 := ((after bwc hbel2).cell (p := ⟨b, off + k * 4 + 3, none⟩) hb).trans h3
                  have hB2 := blk_alloc (blk_below hboxc hbel2) (.cells #[.int .i64 (S k).who, .int .i64 (S k).cab, .int .i64 (S k).many, .bool (S k).all] 128)
                  have y1 := blk_cell hB2 1 _ rfl
                  have y3 := blk_cell hB2 3 _ rfl
                  clear h0 h1 h2 h3 hB2
                  by_cases g1 : (S k).cab = (S i).cab
                  · have e1 : ((S k).cab == (S i).cab) = true := by simpa using g1
                    have HG1 : Hid ((S k).cab = (S i).cab) := g1
                    clear g1
                    cases ho : (S k).all with
                    | true =>
                      rw [ho] at c3 y1 y3
                      have HO : Hid ((S k).all = true) := ho
                      clear ho
                      go_wp2
                      go_ret
                      exact ⟨says_no (fun h => by have := ((h.2.2.1 i hlt).2 k hlt2 HG1.out).1; rw [HO.out] at this; cases this), after bwc (push hbel2 _)⟩
                    | false =>
                      rw [ho] at c3 y1 y3
                      have HO : Hid ((S k).all = false) := ho
                      clear ho
                      cases hr : (S i).all with
                      | true =>
                        rw [hr] at y3
                        have HR : Hid ((S i).all = true) := hr
                        clear hr
                        go_wp2
                        go_ret
                        exact ⟨says_no (fun h => by have := ((h.2.2.1 i hlt).2 k hlt2 HG1.out).2; rw [HR.out] at this; cases this), after bwc (push hbel2 _)⟩
                      | false =>
                        rw [hr] at y3
                        have HR : Hid ((S i).all = false) := hr
                        clear hr
                        go_wp2
                        go_roundw
                        case rel => exact ⟨k + 1, by omega, by go_num, fun j hj => by
                          by_cases e : j = k
                          · subst e; exact fun _ => ⟨HO.out, HR.out⟩
                          · exact HA2.out j (by omega), push hbel2 _⟩
                        case measure => simp [intOf]; omega
                  · have e1 : ((S k).cab == (S i).cab) = false := by simpa using g1
                    have HG1 : Hid (¬ (S k).cab = (S i).cab) := g1
                    clear g1
                    go_wp2
                    go_roundw
                    case rel => exact ⟨k + 1, by omega, by go_num, fun j hj => by
                      by_cases e : j = k
                      · subst e; exact fun h => absurd h HG1.out
                      · exact HA2.out j (by omega), push hbel2 _⟩
                    case measure => simp [intOf]; omega
                · obtain rfl : k = i := by omega
                  have HAN : Hid (∀ j, j < k + 1 → OkR p S j) := fun j hj => by
                    by_cases e : j = k
                    · subst e; exact ⟨H0.out, HA2.out⟩
                    · exact HA.out j (by omega)
                  go_wp2
                  go_roundw
                  case rel => exact ⟨k + 1, by omega, by go_num, HAN.out, after bwc hbel2⟩
                  case measure => simp [intOf]; omega
        · obtain rfl : i = n := by omega
          go_wp2_with fail
          refine (l5Free_any ao bo m mc i c p S _ HL.out HG.out h60 (fun j hj => (HA.out j hj).1.2.2.2.1) (HX.out.below hbel) (HZ.out.below hbel)).mono ?_
          rintro e w2 ⟨⟨v, rfl, hown⟩, hb2⟩
          obtain ⟨aw, cw, rfl, _⟩ := own_form hown
          have HI : Hid (IntsAt w2 aw m (leftR p S i)) := own_ints hown
          have hbw := after hbel hb2
          clear hown hb2 hbel
          go_wp2
          go_loopw [10, 95] (fun _ j wr => ∃ k : Nat, k ≤ m ∧ j = .int .i64 k ∧ (∀ j, j < k → 0 ≤ leftR p S i j) ∧ wr = w2) (fun _ j _ => m - (intOf j).toNat)
          case atStart => exact ⟨0, Nat.zero_le _, rfl, fun j hj => by omega, rfl⟩
          case round =>
            obtain ⟨k, hk, rfl, hall, hwr⟩ := hrel
            have hwr' := hwr.symm
            subst hwr'
            clear hwr
            have HK : Hid (∀ j, j < k → 0 ≤ leftR p S i j) := hall
            clear hall
            by_cases hlt3 : k < m
            · obtain ⟨b3, off3, rfl, h0⟩ := HI.out k hlt3
              by_cases hneg : leftR p S i k < 0
              · have e1 : decide (leftR p S i k < 0) = true := decide_eq_true hneg
                have HNE : Hid (leftR p S i k < 0) := hneg
                clear hneg
                go_wp2
                go_ret
                exact ⟨says_no (fun h => by have := h.2.2.2 k (by rw [HL.out]; exact hlt3); have := HNE.out; omega), hbw⟩
              · have e1 : decide (leftR p S i k < 0) = false := decide_eq_false hneg
                have HNE : Hid (¬ leftR p S i k < 0) := hneg
                clear hneg
                go_wp2
                go_roundw
                case rel => exact ⟨k + 1, by omega, by go_num, fun j hj => by
                  by_cases e : j = k
                  · subst e; have := HNE.out; omega
                  · exact HK.out j (by omega), by trivial⟩
                case measure => simp [intOf]; omega
            · obtain rfl : k = m := by omega
              go_wp2
              go_ret
              exact ⟨says_yes ⟨HG.out, h60, HA.out, fun j hj => HK.out j (by rw [HL.out] at hj; exact hj)⟩, hbw⟩
    · have d0 : decide (60 < n) = true := by simp; omega
      go_wp2
      go_ret
      exact ⟨says_no (fun h => h60 h.2.1), hb1⟩

end Go.Proofs.YtaopapjnhlombaaGreat

namespace Go.Proofs.YtaopapjnhlombaaGreat
open Go.RowKit

set_option maxHeartbeats 800000 in
set_option maxRecDepth 100000 in
theorem l5Sits_any (ao : Option Addr) (n c : Nat) (S : Nat → Seat) (x : Int) (w : World) (hn : n ≤ 1048576) (hz : SeatsAt w ao n S) :
    Calls Tryz.prog 102 #[.slice ao n c, .int .i64 x] w fun e w' => SaysIf (Has (whoT S) n x) e ∧ Below w.heap.size w w' := by
  go_enter Tryz.func102, Tryz.ntmps102
  go_wp2
  go_loopw [6, 9] (fun _ i wr => ∃ k : Nat, k ≤ n ∧ i = .int .i64 k ∧ (∀ j, j < k → whoT S j ≠ x) ∧ Below w.heap.size w wr) (fun _ i _ => n - (intOf i).toNat)
  case atStart => exact ⟨0, Nat.zero_le _, rfl, fun j hj => by omega, Below.refl _ _⟩
  case round =>
    obtain ⟨k, hk, rfl, hall, hbel⟩ := hrel
    have HA : Hid (∀ j, j < k → whoT S j ≠ x) := hall
    clear hall
    by_cases hlt2 : k < n
    · obtain ⟨b, off, rfl, h0, h1⟩ := hz k hlt2
      have hb := World.block_lt_of_cell? w _ h0
      have c0 := (hbel.cell (p := ⟨b, off + k * 2, none⟩) hb).trans h0
      have c1 := (hbel.cell (p := ⟨b, off + k * 2 + 1, none⟩) hb).trans h1
      clear h0 h1
      by_cases he : whoT S k = x
      · have e1 : ((S k).who == x) = true := by unfold whoT at he; simpa using he
        have HF : Hid (Has (whoT S) n x) := ⟨k, hlt2, he⟩
        clear he
        go_wp2
        go_ret
        exact ⟨says_yes HF.out, push hbel _⟩
      · have e1 : ((S k).who == x) = false := by unfold whoT at he; simpa using he
        have HE : Hid (whoT S k ≠ x) := he
        clear he
        go_wp2
        go_roundw
        case rel => exact ⟨k + 1, by omega, by go_num, fun j hj => by
          by_cases e : j = k
          · subst e; exact HE.out
          · exact HA.out j (by omega), push hbel _⟩
        case measure => simp [intOf]; omega
    · obtain rfl : k = n := by omega
      have HF : Hid (¬ Has (whoT S) k x) := not_has HA.out
      go_wp2
      go_ret
      exact ⟨says_no HF.out, hbel⟩

set_option maxHeartbeats 800000 in
set_option maxRecDepth 100000 in
theorem l5Seats_any (bo : Option Addr) (n c : Nat) (S : Nat → Seat) (w : World) (hn : n ≤ 60) (hs : ∀ j, j < n → In (S j).many 1 20) (hz : SeatsAt w bo n S) :
    Calls Tryz.prog 26 #[.slice bo n c] w fun e w' => e = .returned (.int .i64 (sits S n)) ∧ Below w.heap.size w w' := by
  have HS : Hid (∀ j, j < n → In (S j).many 1 20) := hs
  clear hs
  go_enter Tryz.func26, Tryz.ntmps26
  go_wp2
  go_loopw [3, 5, 8] (fun v _ i wr => ∃ k : Nat, k ≤ n ∧ i = .int .i64 k ∧ v = .int .i64 (sits S k) ∧ Below w.heap.size w wr) (fun _ _ i _ => n - (intOf i).toNat)
  case atStart => exact ⟨0, Nat.zero_le _, rfl, rfl, Below.refl _ _⟩
  case round =>
    obtain ⟨k, hk, rfl, rfl, hbel⟩ := hrel
    by_cases hlt : k < n
    · obtain ⟨b, off, rfl, h0, h1⟩ := hz k hlt
      have hb := World.block_lt_of_cell? w _ h0
      have c0 := (hbel.cell (p := ⟨b, off + k * 2, none⟩) hb).trans h0
      have c1 := (hbel.cell (p := ⟨b, off + k * 2 + 1, none⟩) hb).trans h1
      clear h0 h1
      have hwr : IntKind.i64.wrap (sits S k + (S k).many) = sits S (k + 1) := by
        have h1 := sits_bounds S k (fun j hj => HS.out j (by omega))
        have h2 := HS.out k hlt
        unfold In at h2
        have h3 : sits S (k + 1) = sits S k + (S k).many := rfl
        rw [h3, IntKind.wrap_i64]; omega
      go_wp2
      go_roundw
      case rel => exact ⟨k + 1, by omega, by go_num, rfl, push hbel _⟩
      case measure => simp [intOf]; omega
    · obtain rfl : k = n := by omega
      go_wp2
      go_ret
      exact ⟨rfl, hbel⟩

set_option maxHeartbeats 3200000 in
set_option maxRecDepth 100000 in
theorem specSeats_any (most : Int) (bo : Option Addr) (n c : Nat) (S : Nat → Seat) (w : World) (hn : n ≤ 2097152) (hc : n ≤ c) (hz : SeatsAt w bo n S) :
    Calls Tryz.prog 57 #[.int .i64 most, .slice bo n c] w fun e w' => SaysIf (SeatsOk most n S) e ∧ Below w.heap.size w w' := by
  have HZ : Hid (SeatsAt w bo n S) := hz
  clear hz
  by_cases g0 : In most 0 500
  · have e0 : decide (In most 0 500) = true := decide_eq_true g0
    have H0 : Hid (In most 0 500) := g0
    clear g0
    by_cases h60 : n ≤ 60
    · have d0 : decide (60 < n) = false := by simp; omega
      go_enter Tryz.func57, Tryz.ntmps57
      go_wp2_with (first | (go_at_call 98; refine (l1In_is _ _ _ _).mono ?_; rintro e w' ⟨rfl, hw'⟩; have hw' := hw'.symm; subst hw'))
      go_loopw [5, 6, 17] (fun _ _ i wr => ∃ k : Nat, k ≤ n ∧ i = .int .i64 k ∧ (∀ j, j < k → In (S j).who 1 9999 ∧ ¬ Has (whoT S) j (S j).who ∧ In (S j).many 1 20) ∧ Below w.heap.size w wr) (fun _ _ i _ => n - (intOf i).toNat)
      case atStart => exact ⟨0, Nat.zero_le _, rfl, fun j hj => by omega, Below.refl _ _⟩
      case round =>
        obtain ⟨i, hi, rfl, hall, hbel⟩ := hrel
        have HA : Hid (∀ j, j < i → In (S j).who 1 9999 ∧ ¬ Has (whoT S) j (S j).who ∧ In (S j).many 1 20) := hall
        clear hall e0 d0
        by_cases hlt : i < n
        · obtain ⟨b, off, rfl, h0, h1⟩ := HZ.out i hlt
          have hb := World.block_lt_of_cell? w _ h0
          have c0 := (hbel.cell (p := ⟨b, off + i * 2, none⟩) hb).trans h0
          have c1 := (hbel.cell (p := ⟨b, off + i * 2 + 1, none⟩) hb).trans h1
          have hbox := heap_alloc_new wr (.cells #[.int .i64 (S i).who, .int .i64 (S i).many] 130)
          have hbx := push hbel (.cells #[.int .i64 (S i).who, .int .i64 (S i).many] 130)
          clear h0 h1
          go_upto_region 6 with fail
          generalize hW : wr.alloc (.cells #[.int .i64 (S i).who, .int .i64 (S i).many] 130) = W at hbox hbx ⊢
          clear hW
          have hsW : wr.heap.size < W.heap.size := blk_lt hbox
          have z0 : ∀ g : Grown W, g.val.cell? ⟨wr.heap.size, 0, none⟩ = some (.int .i64 (S i).who) := fun g => (g.bel.cell hsW).trans (blk_cell hbox 0 _ rfl)
          have z1 : ∀ g : Grown W, g.val.cell? ⟨wr.heap.size, 1, none⟩ = some (.int .i64 (S i).many) := fun g => (g.bel.cell hsW).trans (blk_cell hbox 1 _ rfl)
          have i1 : (0 : Int) ≤ (i : Int) := by omega
          have i2 : (i : Int) ≤ (c : Int) := by omega
          clear c0 c1 hbox hbel
          by_cases g1 : In (S i).who 1 9999
          · have e1 : decide (In (S i).who 1 9999) = true := decide_eq_true g1
            have H1 : Hid (In (S i).who 1 9999) := g1
            clear g1
            by_cases g2 : Has (whoT S) i (S i).who
            · have H2 : Hid (Has (whoT S) i (S i).who) := g2
              clear g2
              refine wp_region_grow (by kernel_rfl) (by kernel_rfl) ?_
              repeat (first | go_big_quiet_skip | (go_big_quiet_want; go_big_quiet_op; first | go_big_quiet_on | (apply Exists.intro; refine ⟨fun g => ?_, ?_⟩; (focus (first | (go_at_call 97; refine grown_call (v := .bool true) ((l4By_is _ _).mono ?_); rintro e w4 ⟨rfl, rfl⟩; exact ⟨by rw [e1], Below.refl _ _⟩) | (go_at_call 102; refine grown_call (v := .bool true) ((l5Sits_any _ i c S (S i).who _ (by omega) ((HZ.out.upto (by omega)).below (after hbx g.bel))).mono ?_); rintro e w4 ⟨⟨bb, rfl, hi⟩, hbb⟩; obtain rfl := hi.2 H2.out; exact ⟨rfl, hbb⟩))); go_big_quiet_on)))
              refine wpQuiet_nil ?_
              rintro _ ⟨g, rfl⟩
              go_wp2
              go_ret
              exact ⟨says_no (fun h => (h.2.2.1 i hlt).2.1 H2.out), after hbx g.bel⟩
            · have H2 : Hid (¬ Has (whoT S) i (S i).who) := g2
              clear g2
              by_cases g3 : In (S i).many 1 20
              · have e3 : decide (In (S i).many 1 20) = true := decide_eq_true g3
                have H3 : Hid (In (S i).many 1 20) := g3
                clear g3
                refine wp_region_grow (by kernel_rfl) (by kernel_rfl) ?_
                repeat (first | go_big_quiet_skip | (go_big_quiet_want; go_big_quiet_op; first | go_big_quiet_on | (apply Exists.intro; refine ⟨fun g => ?_, ?_⟩; (focus (first | (go_at_call 97; refine grown_call (v := .bool true) ((l4By_is _ _).mono ?_); rintro e w4 ⟨rfl, rfl⟩; exact ⟨by rw [e1], Below.refl _ _⟩) | (go_at_call 102; refine grown_call (v := .bool false) ((l5Sits_any _ i c S (S i).who _ (by omega) ((HZ.out.upto (by omega)).below (after hbx g.bel))).mono ?_); rintro e w4 ⟨⟨bb, rfl, hi⟩, hbb⟩; obtain rfl := Bool.eq_false_iff.2 (fun e => H2.out (hi.1 e)); exact ⟨rfl, hbb⟩) | (go_at_call 98; refine grown_call (v := .bool true) ((l1In_is _ _ _ _).mono ?_); rintro e w4 ⟨rfl, rfl⟩; exact ⟨by rw [e3], Below.refl _ _⟩))); go_big_quiet_on)))
                refine wpQuiet_nil ?_
                rintro _ ⟨g, rfl⟩
                go_wp2
                have HAN : Hid (∀ j, j < i + 1 → In (S j).who 1 9999 ∧ ¬ Has (whoT S) j (S j).who ∧ In (S j).many 1 20) := fun j hj => by
                  by_cases e : j = i
                  · subst e; exact ⟨H1.out, H2.out, H3.out⟩
                  · exact HA.out j (by omega)
                go_roundw
                case rel => exact ⟨i + 1, by omega, by go_num, HAN.out, after hbx g.bel⟩
                case measure => simp [intOf]; omega
              · have e3 : decide (In (S i).many 1 20) = false := decide_eq_false g3
                have H3 : Hid (¬ In (S i).many 1 20) := g3
                clear g3
                refine wp_region_grow (by kernel_rfl) (by kernel_rfl) ?_
                repeat (first | go_big_quiet_skip | (go_big_quiet_want; go_big_quiet_op; first | go_big_quiet_on | (apply Exists.intro; refine ⟨fun g => ?_, ?_⟩; (focus (first | (go_at_call 97; refine grown_call (v := .bool true) ((l4By_is _ _).mono ?_); rintro e w4 ⟨rfl, rfl⟩; exact ⟨by rw [e1], Below.refl _ _⟩) | (go_at_call 102; refine grown_call (v := .bool false) ((l5Sits_any _ i c S (S i).who _ (by omega) ((HZ.out.upto (by omega)).below (after hbx g.bel))).mono ?_); rintro e w4 ⟨⟨bb, rfl, hi⟩, hbb⟩; obtain rfl := Bool.eq_false_iff.2 (fun e => H2.out (hi.1 e)); exact ⟨rfl, hbb⟩) | (go_at_call 98; refine grown_call (v := .bool false) ((l1In_is _ _ _ _).mono ?_); rintro e w4 ⟨rfl, rfl⟩; exact ⟨by rw [e3], Below.refl _ _⟩))); go_big_quiet_on)))
                refine wpQuiet_nil ?_
                rintro _ ⟨g, rfl⟩
                go_wp2
                go_ret
                exact ⟨says_no (fun h => H3.out (h.2.2.1 i hlt).2.2), after hbx g.bel⟩
          · have e1 : decide (In (S i).who 1 9999) = false := decide_eq_false g1
            have H1 : Hid (¬ In (S i).who 1 9999) := g1
            clear g1
            refine wp_region_grow (by kernel_rfl) (by kernel_rfl) ?_
            repeat (first | go_big_quiet_skip | (go_big_quiet_want; go_big_quiet_op; first | go_big_quiet_on | (apply Exists.intro; refine ⟨fun g => ?_, ?_⟩; (focus (first | (go_at_call 97; refine grown_call (v := .bool false) ((l4By_is _ _).mono ?_); rintro e w4 ⟨rfl, rfl⟩; exact ⟨by rw [e1], Below.refl _ _⟩))); go_big_quiet_on)))
            refine wpQuiet_nil ?_
            rintro _ ⟨g, rfl⟩
            go_wp2
            go_ret
            exact ⟨says_no (fun h => H1.out (h.2.2.1 i hlt).1), after hbx g.bel⟩
        · obtain rfl : i = n := by omega
          go_wp2_with fail
          refine (l5Seats_any bo i c S _ h60 (fun j hj => (HA.out j hj).2.2) (HZ.out.below hbel)).mono ?_
          rintro e w2 ⟨rfl, hb2⟩
          have hbw := after hbel hb2
          by_cases hle : sits S i ≤ most
          · have e5 : decide (sits S i ≤ most) = true := decide_eq_true hle
            have HLE : Hid (sits S i ≤ most) := hle
            clear hle
            go_wp2
            go_ret
            exact ⟨says_yes ⟨H0.out, h60, HA.out, HLE.out⟩, hbw⟩
          · have e5 : decide (sits S i ≤ most) = false := decide_eq_false hle
            have HLE : Hid (¬ sits S i ≤ most) := hle
            clear hle
            go_wp2
            go_ret
            exact ⟨says_no (fun h => by have := HLE.out; have := h.2.2.2; omega), hbw⟩
    · have d0 : decide (60 < n) = true := by simp; omega
      go_enter Tryz.func57, Tryz.ntmps57
      go_wp2_with (first | (go_at_call 98; refine (l1In_is _ _ _ _).mono ?_; rintro e w' ⟨rfl, hw'⟩; have hw' := hw'.symm; subst hw'))
      go_ret
      exact ⟨says_no (fun h => h60 h.2.1), Below.refl _ _⟩
  · have e0 : decide (In most 0 500) = false := decide_eq_false g0
    have H0 : Hid (¬ In most 0 500) := g0
    clear g0
    go_enter Tryz.func57, Tryz.ntmps57
    go_wp2_with (first | (go_at_call 98; refine (l1In_is _ _ _ _).mono ?_; rintro e w' ⟨rfl, hw'⟩; have hw' := hw'.symm; subst hw'))
    go_ret
    exact ⟨says_no (fun h => H0.out h.1), Below.refl _ _⟩

end Go.Proofs.YtaopapjnhlombaaGreat
