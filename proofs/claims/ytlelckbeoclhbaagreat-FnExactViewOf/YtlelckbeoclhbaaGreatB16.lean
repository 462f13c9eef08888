/-
  OWN TEXT: SpecR, InfoSeat, SpecSe, SpecOff.
-/
import Derived.Deep.DeepCutAuto
import Derived.Test.YtlelckbeoclhbaaGreatRows
import Derived.Deep.LoopGhost
import Derived.Test.YtlelckbeoclhbaaGreatB15
import Derived.Test.YtlelckbeoclhbaaGreatB11
import Derived.Test.YtlelckbeoclhbaaGreatB02
import Derived.Test.YtlelckbeoclhbaaGreatB07
import Derived.Test.YtlelckbeoclhbaaGreatB09
import Derived.Test.YtlelckbeoclhbaaGreatB13
import Derived.Test.YtlelckbeoclhbaaGreatB12
import Derived.Test.YtlelckbeoclhbaaGreatB14
set_option maxHeartbeats 12800000
set_option maxRecDepth 100000
namespace Go.Proofs.YtlelckbeoclhbaaGreat
open Go.RowKit
theorem l5Has_any (ao : Option Addr) (n c : Nat) (S : Nat → Room) (x : Int) (w : World) (hn : n ≤ 1048576) (hz : RoomsAt w ao n S) :
    Calls Tryz.prog 94 #[.slice ao n c, .int .i64 x] w fun e w' => SaysIf (Has (whoR S) n x) e ∧ Below w.heap.size w w' := by
  go_enter Tryz.func94, Tryz.ntmps94
  go_wp2
  go_loopw [6, 9] (fun _ i wr => ∃ k : Nat, k ≤ n ∧ i = .int .i64 k ∧ (∀ j, j < k → whoR S j ≠ x) ∧ Below w.heap.size w wr) (fun _ i _ => n - (intOf i).toNat)
  case atStart => exact ⟨0, Nat.zero_le _, rfl, fun j hj => by omega, Below.refl _ _⟩
  case round =>
    obtain ⟨k, hk, rfl, hall, hbel⟩ := hrel
    have HA : Hid (∀ j, j < k → whoR S j ≠ x) := hall
    clear hall
    by_cases hlt2 : k < n
    · obtain ⟨b, off, rfl, h0, h1, h2, h3⟩ := hz k hlt2
      have hb := World.block_lt_of_cell? w _ h0
      have c0 := (hbel.cell (p := ⟨b, off + k * 4, none⟩) hb).trans h0
      have c1 := (hbel.cell (p := ⟨b, off + k * 4 + 1, none⟩) hb).trans h1
      have c2 := (hbel.cell (p := ⟨b, off + k * 4 + 2, none⟩) hb).trans h2
      have c3 := (hbel.cell (p := ⟨b, off + k * 4 + 3, none⟩) hb).trans h3
      clear h0 h1 h2 h3
      by_cases he : whoR S k = x
      · have e1 : ((S k).who == x) = true := by unfold whoR at he; simpa using he
        have HF : Hid (Has (whoR S) n x) := ⟨k, hlt2, he⟩
        clear he
        go_wp2
        go_ret
        exact ⟨says_yes HF.out, push hbel _⟩
      · have e1 : ((S k).who == x) = false := by unfold whoR at he; simpa using he
        have HE : Hid (whoR S k ≠ x) := he
        clear he
        go_wp2
        go_roundw
        case rel => exact ⟨k + 1, by omega, by go_num, fun j hj => by
          by_cases e : j = k
          · subst e; exact HE.out
          · exact HA.out j (by omega), push hbel _⟩
        case measure => simp [intOf]; omega
    · obtain rfl : k = n := by omega
      have HF : Hid (¬ Has (whoR S) k x) := not_has HA.out
      go_wp2
      go_ret
      exact ⟨says_no HF.out, hbel⟩
theorem l5Free_any (ao bo : Option Addr) (m mc n c : Nat) (p : Pairs) (S : Nat → Room) (w : World) (hl : p.n = m) (hg : GoodC p) (hn : n ≤ 60) (hs : ∀ j, j < n → In (S j).many 1 4) (hx : PairsAt w ao p) (hz : RoomsAt w bo n S) :
    Calls Tryz.prog 20 #[.slice ao m mc, .slice bo n c] w fun e w' => (∃ v, e = .returned v ∧ w'.ownsRow w.heap.size 3 1 v m (intList (leftR p S n) m)) ∧ Below w.heap.size w w' := by
  obtain ⟨j0, ji, jz0, jz1, jz2⟩ := info_parts Tryz.infoInt
  have HL : Hid (p.n = m) := hl
  have HG : Hid (GoodC p) := hg
  have HS : Hid (∀ j, j < n → In (S j).many 1 4) := hs
  have HX : Hid (PairsAt w ao p) := hx
  have HZ : Hid (RoomsAt w bo n S) := hz
  have hm4 : m ≤ 6 := by rw [← hl]; exact hg.1
  clear hl hg hs hx hz
  go_enter Tryz.func20, Tryz.ntmps20
  go_wp2
  go_loopw [5, 6, 7, 8, 10, 13, 20, 21, 22] (fun v _ _ _ _ i _ _ _ wr => ∃ k : Nat, k ≤ m ∧ i = .int .i64 k ∧ wr.ownsRow w.heap.size 3 1 v k (intList (leftR p S n) k) ∧ Below w.heap.size w wr) (fun _ _ _ _ _ i _ _ _ _ => m - (intOf i).toNat)
  case atStart => exact ⟨0, Nat.zero_le _, rfl, ⟨rfl, .inl ⟨rfl, rfl⟩⟩, Below.refl _ _⟩
  case round =>
    obtain ⟨k, hk, rfl, hown, hbel⟩ := hrel
    by_cases hlt : k < m
    · obtain ⟨b, off, rfl, h1, h2⟩ := HX.out k (by rw [HL.out]; exact hlt)
      have hb := World.block_lt_of_cell? w _ h1
      have c1 := (hbel.cell (p := ⟨b, off + k * 2, none⟩) hb).trans h1
      have c2 := (hbel.cell (p := ⟨b, off + k * 2 + 1, none⟩) hb).trans h2
      clear h1 h2
      go_wp2
      go_loopw [8, 10, 22] (fun s8 _ i wq => ∃ t : Nat, t ≤ n ∧ i = .int .i64 t ∧ s8 = .int .i64 (leftR p S t k) ∧ wq.ownsRow w.heap.size 3 1 u5 k (intList (leftR p S n) k) ∧ Below w.heap.size w wq) (fun _ _ i _ => n - (intOf i).toNat)
      case atStart => exact ⟨0, Nat.zero_le _, rfl, by rw [leftR_0], own_below (push (Below.refl _ _) _) hown, push hbel _⟩
      case round =>
        obtain ⟨t, ht, rfl, rfl, hown2, hbel2⟩ := hrel
        clear hown hbel c1 c2
        by_cases hlt2 : t < n
        · obtain ⟨b2, off2, rfl, h0, h1, h2, h3⟩ := HZ.out t hlt2
          have hb2 := World.block_lt_of_cell? w _ h0
          have c0 := (hbel2.cell (p := ⟨b2, off2 + t * 4, none⟩) hb2).trans h0
          have c1 := (hbel2.cell (p := ⟨b2, off2 + t * 4 + 1, none⟩) hb2).trans h1
          have c2 := (hbel2.cell (p := ⟨b2, off2 + t * 4 + 2, none⟩) hb2).trans h2
          have c3 := (hbel2.cell (p := ⟨b2, off2 + t * 4 + 3, none⟩) hb2).trans h3
          clear h0 h1 h2 h3
          by_cases he : (S t).cab = (k : Int)
          · have e1 : ((S t).cab == (k : Int)) = true := by simpa using he
            have HE : Hid ((S t).cab = (k : Int)) := he
            have hwr : IntKind.i64.wrap (leftR p S t k - (S t).many) = leftR p S t k - (S t).many := by
              have h1 := leftR_bounds HG.out (show t ≤ 60 by omega) (fun j hj => HS.out j (by omega)) (show k < p.n by rw [HL.out]; exact hlt)
              have h2 := HS.out t hlt2
              unfold In at h2
              rw [IntKind.wrap_i64]; omega
            clear he
            go_wp2
            go_roundw
            case rel => exact ⟨t + 1, by omega, by go_num, by rw [leftR_at p S t k HE.out], own_below (push (Below.refl _ _) _) hown2, push hbel2 _⟩
            case measure => simp [intOf]; omega
          · have e1 : ((S t).cab == (k : Int)) = false := by simpa using he
            have HE : Hid ((S t).cab ≠ (k : Int)) := he
            clear he
            go_wp2
            go_roundw
            case rel => exact ⟨t + 1, by omega, by go_num, by rw [leftR_ne p S t k HE.out], own_below (push (Below.refl _ _) _) hown2, push hbel2 _⟩
            case measure => simp [intOf]; omega
        · obtain rfl : t = n := by omega
          have hsz := hbel2.size
          have HC : Hid (∀ ad, (some ⟨wr.heap.size, 0, none⟩ : Option Addr) = some ad → ∀ j u, [Value.int .i64 (leftR p S t k)][j]? = some u → (wr.alloc (.cells #[.int .i64 (leftR p S t k)] 3)).cell? (ad.add j) = some u) := by
            intro ad e
            cases e
            exact World.news_of_block (heap_alloc_new wr _)
          go_wp2_with (first | (at_builtin; refine wpList_append_any _ (by rfl) (.tmp 35) (.tmp 37) 31 (by rfl) w.heap.size 3 j0 (.int .i64 0) 1 8 Tryz.underlying31 ji jz0 jz1 jz2 rfl (by decide) _ k (intList (leftR p S t) k) (by rfl) (hown2.alloc _) (some ⟨wr.heap.size, 0, none⟩) 1 1 [.int .i64 (leftR p S t k)] (by rfl) (fun h => (by cases h)) (by rfl) HC.out (by intro u hu; simp at hu; subst hu; rfl) (by unfold maxLen; omega) (by omega) (by simp; omega) ?_; intro v' w3 ho3 hg3))
          go_roundw
          case rel => exact ⟨k + 1, by omega, by go_num, by rw [intList_succ]; exact ho3, (push hbel2 _).grown hg3 (by simp; omega) (fun j hj => (hown2.lt j hj).1)⟩
          case measure => simp [intOf]; omega
    · obtain rfl : k = m := by omega
      go_wp2
      go_ret
      exact ⟨⟨_, rfl, hown⟩, hbel⟩
theorem specRooms_any (ao bo : Option Addr) (m mc n c : Nat) (p : Pairs) (S : Nat → Room) (w : World) (hl : p.n = m) (hm : m ≤ 1048576) (hn : n ≤ 1048576) (hc : n ≤ c) (hx : PairsAt w ao p) (hz : RoomsAt w bo n S) :
    Calls Tryz.prog 50 #[.slice ao m mc, .slice bo n c] w fun e w' => SaysIf (RoomsS p n S) e ∧ Below w.heap.size w w' := by
  have HL : Hid (p.n = m) := hl
  have HX : Hid (PairsAt w ao p) := hx
  have HZ : Hid (RoomsAt w bo n S) := hz
  clear hl hx hz
  go_enter Tryz.func50, Tryz.ntmps50
  go_wp2_with fail
  refine (l5Cabins_any ao m mc p _ HL.out hm HX.out).mono ?_
  rintro e w1 ⟨⟨q, rfl, hq⟩, hb1⟩
  cases q with
  | false =>
    have HG : Hid (¬ GoodC p) := fun h => by have := hq.2 h; cases this
    clear hq
    go_wp2
    go_ret
    exact ⟨says_no (fun h => HG.out h.1), hb1⟩
  | true =>
    have HG : Hid (GoodC p) := hq.1 rfl
    have hm4 : m ≤ 6 := by rw [← HL.out]; exact HG.out.1
    clear hq
    by_cases h60 : n ≤ 60
    · have d0 : decide (60 < n) = false := by simp; omega
      have hwm : IntKind.i64.wrap ((m : Int) - 1) = (m : Int) - 1 := by rw [IntKind.wrap_i64]; omega
      go_wp2
      go_loopw [5, 6, 8, 21, 70, 71, 72] (fun _ _ _ i _ _ _ wr => ∃ k : Nat, k ≤ n ∧ i = .int .i64 k ∧ (∀ j, j < k → OkR p S j) ∧ Below w.heap.size w wr) (fun _ _ _ i _ _ _ _ => n - (intOf i).toNat)
      case atStart => exact ⟨0, Nat.zero_le _, rfl, fun j hj => by omega, hb1⟩
      case round =>
        obtain ⟨i, hi, rfl, hall, hbel⟩ := hrel
        have HA : Hid (∀ j, j < i → OkR p S j) := hall
        clear hall hb1
        by_cases hlt : i < n
        · obtain ⟨b, off, rfl, h0, h1, h2, h3⟩ := HZ.out i hlt
          have hb := World.block_lt_of_cell? w _ h0
          have c0 := (hbel.cell (p := ⟨b, off + i * 4, none⟩) hb).trans h0
          have c1 := (hbel.cell (p := ⟨b, off + i * 4 + 1, none⟩) hb).trans h1
          have c2 := (hbel.cell (p := ⟨b, off + i * 4 + 2, none⟩) hb).trans h2
          have c3 := (hbel.cell (p := ⟨b, off + i * 4 + 3, none⟩) hb).trans h3
          have hbox := heap_alloc_new wr (.cells #[.int .i64 (S i).who, .int .i64 (S i).cab, .int .i64 (S i).many, .bool (S i).all] 120)
          have hbx := push hbel (.cells #[.int .i64 (S i).who, .int .i64 (S i).cab, .int .i64 (S i).many, .bool (S i).all] 120)
          clear h0 h1 h2 h3
          go_upto_region 6 with fail
          generalize hW : wr.alloc (.cells #[.int .i64 (S i).who, .int .i64 (S i).cab, .int .i64 (S i).many, .bool (S i).all] 120) = W at hbox hbx ⊢
          clear hW
          have hsW : wr.heap.size < W.heap.size := blk_lt hbox
          have HBX : Hid (W.heap[wr.heap.size]? = some (.cells #[.int .i64 (S i).who, .int .i64 (S i).cab, .int .i64 (S i).many, .bool (S i).all] 120 (0, 0))) := hbox
          generalize wr.heap.size = B at *
          clear c0 c1 c2 c3 hbox hbel
          have i1 : (0 : Int) ≤ (i : Int) := by omega
          have i2 : (i : Int) ≤ (c : Int) := by omega
          go_cut [67] (fun c67 wx => Tells (OkR0 p S i) c67 ∧ Below W.heap.size W wx)
          case first =>
            have z0 : ∀ g : Grown W, g.val.cell? ⟨B, 0, none⟩ = some (.int .i64 (S i).who) := fun g => (g.bel.cell hsW).trans (blk_cell HBX.out 0 _ rfl)
            have z1 : ∀ g : Grown W, g.val.cell? ⟨B, 1, none⟩ = some (.int .i64 (S i).cab) := fun g => (g.bel.cell hsW).trans (blk_cell HBX.out 1 _ rfl)
            have z2 : ∀ g : Grown W, g.val.cell? ⟨B, 2, none⟩ = some (.int .i64 (S i).many) := fun g => (g.bel.cell hsW).trans (blk_cell HBX.out 2 _ rfl)
            have z3 : ∀ g : Grown W, g.val.cell? ⟨B, 3, none⟩ = some (.bool (S i).all) := fun g => (g.bel.cell hsW).trans (blk_cell HBX.out 3 _ rfl)
            by_cases g1 : In (S i).who 1 9999
            · have e1 : decide (In (S i).who 1 9999) = true := decide_eq_true g1
              have H1 : Hid (In (S i).who 1 9999) := g1
              clear g1
              by_cases g2 : Has (whoR S) i (S i).who
              · have H2 : Hid (Has (whoR S) i (S i).who) := g2
                clear g2
                refine wp_region_grow (by kernel_rfl) (by kernel_rfl) ?_
                repeat (first | go_big_quiet_skip | (go_big_quiet_want; go_big_quiet_op; first | go_big_quiet_on | (apply Exists.intro; refine ⟨fun g => ?_, ?_⟩; (focus (first | (go_at_call 90; refine grown_call (v := .bool true) ((l4By_is _ _).mono ?_); rintro e w4 ⟨rfl, rfl⟩; exact ⟨by rw [e1], Below.refl _ _⟩) | (go_at_call 94; refine grown_call (v := .bool true) ((l5Has_any _ i c S (S i).who _ (by omega) ((HZ.out.upto (by omega)).below (after hbx g.bel))).mono ?_); rintro e w4 ⟨⟨bb, rfl, hi⟩, hbb⟩; obtain rfl := hi.2 H2.out; exact ⟨rfl, hbb⟩))); go_big_quiet_on)))
                refine wpQuiet_nil ?_
                rintro _ ⟨g, rfl⟩
                go_wp2
                go_meet
                exact ⟨tells_bad (fun h => h.2.1 H2.out), g.bel⟩
              · have H2 : Hid (¬ Has (whoR S) i (S i).who) := g2
                clear g2
                by_cases g3 : In (S i).cab 0 ((m : Int) - 1)
                · have H3 : Hid (In (S i).cab 0 ((p.n : Int) - 1)) := by rw [HL.out]; exact g3
                  obtain ⟨l, hl⟩ : ∃ l : Nat, (S i).cab = l := ⟨(S i).cab.toNat, by unfold In at g3; omega⟩
                  have hlm : l < m := by unfold In at g3; omega
                  have HLN : Hid ((S i).cab = l) := hl
                  have e3 : decide (In (l : Int) 0 ((m : Int) - 1)) = true := decide_eq_true (by rw [← hl]; exact g3)
                  have z1' : ∀ g : Grown W, g.val.cell? ⟨B, 1, none⟩ = some (.int .i64 (l : Int)) := fun g => by rw [z1 g, hl]
                  obtain ⟨b', off', rfl, k1, k2⟩ := HX.out l (by rw [HL.out]; exact hlm)
                  have hb' := World.block_lt_of_cell? w _ k1
                  have y2 : ∀ g : Grown W, g.val.cell? ⟨b', off' + l * 2 + 1, none⟩ = some (.int .i64 (p.B l)) := fun g => ((after hbx g.bel).cell (p := ⟨b', off' + l * 2 + 1, none⟩) hb').trans k2
                  have l1 : (0 : Int) ≤ (l : Int) := by omega
                  have l2 : (l : Int) < (m : Int) := by omega
                  clear g3 z1 hl k1 k2
                  by_cases g4 : In (S i).many 1 4
                  · have e4 : decide (In (S i).many 1 4) = true := decide_eq_true g4
                    have H4 : Hid (In (S i).many 1 4) := g4
                    clear g4
                    cases hall : (S i).all with
                    | false =>
                      rw [hall] at z3
                      have H5 : Hid ((S i).all = false) := hall
                      clear hall
                      refine wp_region_grow (by kernel_rfl) (by kernel_rfl) ?_
                      repeat (first | go_big_quiet_skip | (go_big_quiet_want; go_big_quiet_op; first | go_big_quiet_on | (apply Exists.intro; refine ⟨fun g => ?_, ?_⟩; (focus (first | (go_at_call 90; refine grown_call (v := .bool true) ((l4By_is _ _).mono ?_); rintro e w4 ⟨rfl, rfl⟩; exact ⟨by rw [e1], Below.refl _ _⟩) | (go_at_call 94; refine grown_call (v := .bool false) ((l5Has_any _ i c S (S i).who _ (by omega) ((HZ.out.upto (by omega)).below (after hbx g.bel))).mono ?_); rintro e w4 ⟨⟨bb, rfl, hi⟩, hbb⟩; obtain rfl := Bool.eq_false_iff.2 (fun e => H2.out (hi.1 e)); exact ⟨rfl, hbb⟩) | (go_at_call 91; first | (refine grown_call (v := .bool true) ((l1In_is _ _ _ _).mono ?_); rintro e w4 ⟨rfl, rfl⟩; exact ⟨by rw [e3], Below.refl _ _⟩) | (refine grown_call (v := .bool true) ((l1In_is _ _ _ _).mono ?_); rintro e w4 ⟨rfl, rfl⟩; exact ⟨by rw [e4], Below.refl _ _⟩)))); go_big_quiet_on)))
                      refine wpQuiet_nil ?_
                      rintro _ ⟨g, rfl⟩
                      go_wp2
                      go_meet
                      exact ⟨tells_good ⟨H1.out, H2.out, H3.out, H4.out, fun h => by rw [H5.out] at h; cases h⟩, g.bel⟩
                    | true =>
                      rw [hall] at z3
                      have H5 : Hid ((S i).all = true) := hall
                      clear hall
                      by_cases g6 : (S i).many = p.B l
                      · have e6 : ((S i).many == p.B l) = true := by simpa using g6
                        have e7 : ((S i).many != p.B l) = false := by simpa using g6
                        have H6 : Hid ((S i).many = p.B l) := g6
                        clear g6
                        refine wp_region_grow (by kernel_rfl) (by kernel_rfl) ?_
                        repeat (first | go_big_quiet_skip | (go_big_quiet_want; go_big_quiet_op; first | go_big_quiet_on | (apply Exists.intro; refine ⟨fun g => ?_, ?_⟩; (focus (first | (go_at_call 90; refine grown_call (v := .bool true) ((l4By_is _ _).mono ?_); rintro e w4 ⟨rfl, rfl⟩; exact ⟨by rw [e1], Below.refl _ _⟩) | (go_at_call 94; refine grown_call (v := .bool false) ((l5Has_any _ i c S (S i).who _ (by omega) ((HZ.out.upto (by omega)).below (after hbx g.bel))).mono ?_); rintro e w4 ⟨⟨bb, rfl, hi⟩, hbb⟩; obtain rfl := Bool.eq_false_iff.2 (fun e => H2.out (hi.1 e)); exact ⟨rfl, hbb⟩) | (go_at_call 91; first | (refine grown_call (v := .bool true) ((l1In_is _ _ _ _).mono ?_); rintro e w4 ⟨rfl, rfl⟩; exact ⟨by rw [e3], Below.refl _ _⟩) | (refine grown_call (v := .bool true) ((l1In_is _ _ _ _).mono ?_); rintro e w4 ⟨rfl, rfl⟩; exact ⟨by rw [e4], Below.refl _ _⟩)))); go_big_quiet_on)))
                        refine wpQuiet_nil ?_
                        rintro _ ⟨g, rfl⟩
                        go_wp2
                        go_meet
                        exact ⟨tells_good ⟨H1.out, H2.out, H3.out, H4.out, fun _ => by rw [HLN.out]; exact H6.out⟩, g.bel⟩
                      · have e6 : ((S i).many == p.B l) = false := by simpa using g6
                        have e7 : ((S i).many != p.B l) = true := by simpa using g6
                        have H6 : Hid (¬ (S i).many = p.B l) := g6
                        clear g6
                        refine wp_region_grow (by kernel_rfl) (by kernel_rfl) ?_
                        repeat (first | go_big_quiet_skip | (go_big_quiet_want; go_big_quiet_op; first | go_big_quiet_on | (apply Exists.intro; refine ⟨fun g => ?_, ?_⟩; (focus (first | (go_at_call 90; refine grown_call (v := .bool true) ((l4By_is _ _).mono ?_); rintro e w4 ⟨rfl, rfl⟩; exact ⟨by rw [e1], Below.refl _ _⟩) | (go_at_call 94; refine grown_call (v := .bool false) ((l5Has_any _ i c S (S i).who _ (by omega) ((HZ.out.upto (by omega)).below (after hbx g.bel))).mono ?_); rintro e w4 ⟨⟨bb, rfl, hi⟩, hbb⟩; obtain rfl := Bool.eq_false_iff.2 (fun e => H2.out (hi.1 e)); exact ⟨rfl, hbb⟩) | (go_at_call 91; first | (refine grown_call (v := .bool true) ((l1In_is _ _ _ _).mono ?_); rintro e w4 ⟨rfl, rfl⟩; exact ⟨by rw [e3], Below.refl _ _⟩) | (refine grown_call (v := .bool true) ((l1In_is _ _ _ _).mono ?_); rintro e w4 ⟨rfl, rfl⟩; exact ⟨by rw [e4], Below.refl _ _⟩)))); go_big_quiet_on)))
                        refine wpQuiet_nil ?_
                        rintro _ ⟨g, rfl⟩
                        go_wp2
                        go_meet
                        exact ⟨tells_bad (fun h => H6.out (by have := h.2.2.2.2 H5.out; rw [HLN.out] at this; exact this)), g.bel⟩
                  · have e4 : decide (In (S i).many 1 4) = false := decide_eq_false g4
                    have H4 : Hid (¬ In (S i).many 1 4) := g4
                    clear g4
                    refine wp_region_grow (by kernel_rfl) (by kernel_rfl) ?_
                    repeat (first | go_big_quiet_skip | (go_big_quiet_want; go_big_quiet_op; first | go_big_quiet_on | (apply Exists.intro; refine ⟨fun g => ?_, ?_⟩; (focus (first | (go_at_call 90; refine grown_call (v := .bool true) ((l4By_is _ _).mono ?_); rintro e w4 ⟨rfl, rfl⟩; exact ⟨by rw [e1], Below.refl _ _⟩) | (go_at_call 94; refine grown_call (v := .bool false) ((l5Has_any _ i c S (S i).who _ (by omega) ((HZ.out.upto (by omega)).below (after hbx g.bel))).mono ?_); rintro e w4 ⟨⟨bb, rfl, hi⟩, hbb⟩; obtain rfl := Bool.eq_false_iff.2 (fun e => H2.out (hi.1 e)); exact ⟨rfl, hbb⟩) | (go_at_call 91; first | (refine grown_call (v := .bool true) ((l1In_is _ _ _ _).mono ?_); rintro e w4 ⟨rfl, rfl⟩; exact ⟨by rw [e3], Below.refl _ _⟩) | (refine grown_call (v := .bool false) ((l1In_is _ _ _ _).mono ?_); rintro e w4 ⟨rfl, rfl⟩; exact ⟨by rw [e4], Below.refl _ _⟩)))); go_big_quiet_on)))
                    refine wpQuiet_nil ?_
                    rintro _ ⟨g, rfl⟩
                    go_wp2
                    go_meet
                    exact ⟨tells_bad (fun h => H4.out h.2.2.2.1), g.bel⟩
                · have e3 : decide (In (S i).cab 0 ((m : Int) - 1)) = false := decide_eq_false g3
                  have H3 : Hid (¬ In (S i).cab 0 ((p.n : Int) - 1)) := by rw [HL.out]; exact g3
                  clear g3
                  refine wp_region_grow (by kernel_rfl) (by kernel_rfl) ?_
                  repeat (first | go_big_quiet_skip | (go_big_quiet_want; go_big_quiet_op; first | go_big_quiet_on | (apply Exists.intro; refine ⟨fun g => ?_, ?_⟩; (focus (first | (go_at_call 90; refine grown_call (v := .bool true) ((l4By_is _ _).mono ?_); rintro e w4 ⟨rfl, rfl⟩; exact ⟨by rw [e1], Below.refl _ _⟩) | (go_at_call 94; refine grown_call (v := .bool false) ((l5Has_any _ i c S (S i).who _ (by omega) ((HZ.out.upto (by omega)).below (after hbx g.bel))).mono ?_); rintro e w4 ⟨⟨bb, rfl, hi⟩, hbb⟩; obtain rfl := Bool.eq_false_iff.2 (fun e => H2.out (hi.1 e)); exact ⟨rfl, hbb⟩) | (go_at_call 91; first | (refine grown_call (v := .bool false) ((l1In_is _ _ _ _).mono ?_); rintro e w4 ⟨rfl, rfl⟩; exact ⟨by rw [e3], Below.refl _ _⟩)))); go_big_quiet_on)))
                  refine wpQuiet_nil ?_
                  rintro _ ⟨g, rfl⟩
                  go_wp2
                  go_meet
                  exact ⟨tells_bad (fun h => H3.out h.2.2.1), g.bel⟩
            · have e1 : decide (In (S i).who 1 9999) = false := decide_eq_false g1
              have H1 : Hid (¬ In (S i).who 1 9999) := g1
              clear g1
              refine wp_region_grow (by kernel_rfl) (by kernel_rfl) ?_
              repeat (first | go_big_quiet_skip | (go_big_quiet_want; go_big_quiet_op; first | go_big_quiet_on | (apply Exists.intro; refine ⟨fun g => ?_, ?_⟩; (focus (first | (go_at_call 90; refine grown_call (v := .bool false) ((l4By_is _ _).mono ?_); rintro e w4 ⟨rfl, rfl⟩; exact ⟨by rw [e1], Below.refl _ _⟩))); go_big_quiet_on)))
              refine wpQuiet_nil ?_
              rintro _ ⟨g, rfl⟩
              go_wp2
              go_meet
              exact ⟨tells_bad (fun h => H1.out h.1), g.bel⟩
          case rest =>
            obtain ⟨⟨tb, rfl, htb⟩, hbc⟩ := hcut
            have HT : Hid (tb = false ↔ OkR0 p S i) := htb
            have bwc := after hbx hbc
            have hboxc := blk_below HBX.out hbc
            clear htb hbx hbc HBX
            cases tb with
            | true =>
              have HNO : Hid (¬ OkR0 p S i) := fun h => by have := HT.out.2 h; cases this
              clear HT
              go_wp2
              go_ret
              exact ⟨says_no (fun h => HNO.out (h.2.2.1 i hlt).1), bwc⟩
            | false =>
              have H0 : Hid (OkR0 p S i) := HT.out.1 rfl
              clear HT
              generalize wc = W2 at *
              go_wp2
              go_loopw [8, 72] (fun _ j wq => ∃ k : Nat, k ≤ i ∧ j = .int .i64 k ∧ (∀ j, j < k → OkR2 S i j) ∧ Below W2.heap.size W2 wq) (fun _ j _ => i - (intOf j).toNat)
              case atStart => exact ⟨0, Nat.zero_le _, rfl, fun j hj => by omega, Below.refl _ _⟩
              case round =>
                obtain ⟨k, hk, rfl, hall2, hbel2⟩ := hrel
                have HA2 : Hid (∀ j, j < k → OkR2 S i j) := hall2
                clear hall2
                by_cases hlt2 : k < i
                · obtain ⟨b2, off2, e2, h0, h1, h2, h3⟩ := HZ.out k (by omega)
                  simp only [Option.some.injEq, Addr.mk.injEq, and_true] at e2
                  obtain ⟨rfl, rfl⟩ := e2
                  have c0 := ((after bwc hbel2).cell (p := ⟨b, off + k * 4, none⟩) hb).trans h0
                  have c1 := ((after bwc hbel2).cell (p := ⟨b, off + k * 4 + 1, none⟩) hb).trans h1
                  have c2 := ((after bwc hbel2).cell (p := ⟨b, off + k * 4 + 2, none⟩) hb).trans h2
                  have c3 := ((after bwc hbel2).cell (p := ⟨b, off + k * 4 + 3, none⟩) hb).trans h3
                  have hB2 := blk_alloc (blk_below hboxc hbel2) (.cells #[.int .i64 (S k).who, .int .i64 (S k).cab, .int .i64 (S k).many, .bool (S k).all] 120)
                  have y1 := blk_cell hB2 1 _ rfl
                  have y3 := blk_cell hB2 3 _ rfl
                  clear h0 h1 h2 h3 hB2
                  by_cases g1 : (S k).cab = (S i).cab
                  · have e1 : ((S k).cab == (S i).cab) = true := by simpa using g1
                    have HG1 : Hid ((S k).cab = (S i).cab) := g1
                    clear g1
                    cases ho : (S k).all with
                    | true =>
                      rw [ho] at c3 y1 y3
                      have HO : Hid ((S k).all = true) := ho
                      clear ho
                      go_wp2
                      go_ret
                      exact ⟨says_no (fun h => by have := ((h.2.2.1 i hlt).2 k hlt2 HG1.out).1; rw [HO.out] at this; cases this), after bwc (push hbel2 _)⟩
                    | false =>
                      rw [ho] at c3 y1 y3
                      have HO : Hid ((S k).all = false) := ho
                      clear ho
                      cases hr : (S i).all with
                      | true =>
                        rw [hr] at y3
                        have HR : Hid ((S i).all = true) := hr
                        clear hr
                        go_wp2
                        go_ret
                        exact ⟨says_no (fun h => by have := ((h.2.2.1 i hlt).2 k hlt2 HG1.out).2; rw [HR.out] at this; cases this), after bwc (push hbel2 _)⟩
                      | false =>
                        rw [hr] at y3
                        have HR : Hid ((S i).all = false) := hr
                        clear hr
                        go_wp2
                        go_roundw
                        case rel => exact ⟨k + 1, by omega, by go_num, fun j hj => by
                          by_cases e : j = k
                          · subst e; exact fun _ => ⟨HO.out, HR.out⟩
                          · exact HA2.out j (by omega), push hbel2 _⟩
                        case measure => simp [intOf]; omega
                  · have e1 : ((S k).cab == (S i).cab) = false := by simpa using g1
                    have HG1 : Hid (¬ (S k).cab = (S i).cab) := g1
                    clear g1
                    go_wp2
                    go_roundw
                    case rel => exact ⟨k + 1, by omega, by go_num, fun j hj => by
                      by_cases e : j = k
                      · subst e; exact fun h => absurd h HG1.out
                      · exact HA2.out j (by omega), push hbel2 _⟩
                    case measure => simp [intOf]; omega
                · obtain rfl : k = i := by omega
                  have HAN : Hid (∀ j, j < k + 1 → OkR p S j) := fun j hj => by
                    by_cases e : j = k
                    · subst e; exact ⟨H0.out, HA2.out⟩
                    · exact HA.out j (by omega)
                  go_wp2
                  go_roundw
                  case rel => exact ⟨k + 1, by omega, by go_num, HAN.out, after bwc hbel2⟩
                  case measure => simp [intOf]; omega
        · obtain rfl : i = n := by omega
          go_wp2_with fail
          refine (l5Free_any ao bo m mc i c p S _ HL.out HG.out h60 (fun j hj => (HA.out j hj).1.2.2.2.1) (HX.out.below hbel) (HZ.out.below hbel)).mono ?_
          rintro e w2 ⟨⟨v, rfl, hown⟩, hb2⟩
          obtain ⟨aw, cw, rfl, _⟩ := own_form hown
          have HI : Hid (IntsAt w2 aw m (leftR p S i)) := own_ints hown
          have hbw := after hbel hb2
          clear hown hb2 hbel
          go_wp2
          go_loopw [10, 95] (fun _ j wr => ∃ k : Nat, k ≤ m ∧ j = .int .i64 k ∧ (∀ j, j < k → 0 ≤ leftR p S i j) ∧ wr = w2) (fun _ j _ => m - (intOf j).toNat)
          case atStart => exact ⟨0, Nat.zero_le _, rfl, fun j hj => by omega, rfl⟩
          case round =>
            obtain ⟨k, hk, rfl, hall, hwr⟩ := hrel
            have hwr' := hwr.symm
            subst hwr'
            clear hwr
            have HK : Hid (∀ j, j < k → 0 ≤ leftR p S i j) := hall
            clear hall
            by_cases hlt3 : k < m
            · obtain ⟨b3, off3, rfl, h0⟩ := HI.out k hlt3
              by_cases hneg : leftR p S i k < 0
              · have e1 : decide (leftR p S i k < 0) = true := decide_eq_true hneg
                have HNE : Hid (leftR p S i k < 0) := hneg
                clear hneg
                go_wp2
                go_ret
                exact ⟨says_no (fun h => by have := h.2.2.2 k (by rw [HL.out]; exact hlt3); have := HNE.out; omega), hbw⟩
              · have e1 : decide (leftR p S i k < 0) = false := decide_eq_false hneg
                have HNE : Hid (¬ leftR p S i k < 0) := hneg
                clear hneg
                go_wp2
                go_roundw
                case rel => exact ⟨k + 1, by omega, by go_num, fun j hj => by
                  by_cases e : j = k
                  · subst e; have := HNE.out; omega
                  · exact HK.out j (by omega), by trivial⟩
                case measure => simp [intOf]; omega
            · obtain rfl : k = m := by omega
              go_wp2
              go_ret
              exact ⟨says_yes ⟨HG.out, h60, HA.out, fun j hj => HK.out j (by rw [HL.out] at hj; exact hj)⟩, hbw⟩
    · have d0 : decide (60 < n) = true := by simp; omega
      go_wp2
      go_ret
      exact ⟨says_no (fun h => h60 h.2.1), hb1⟩
end Go.Proofs.YtlelckbeoclhbaaGreat

namespace Go.Proofs.YtlelckbeoclhbaaGreat
open Go.RowKit
theorem Tryz.infoSeat : (Tryz.prog.info? 126).map (fun i => (i.zero, i.size, i.bytes)) = some (some (.agg #[.int .i64 0, .int .i64 0]), 2, 16) := by kernel_rfl
end Go.Proofs.YtlelckbeoclhbaaGreat

namespace Go.Proofs.YtlelckbeoclhbaaGreat
open Go.RowKit
theorem l5Sits_any (ao : Option Addr) (n c : Nat) (S : Nat → Seat) (x : Int) (w : World) (hn : n ≤ 1048576) (hz : SeatsAt w ao n S) :
    Calls Tryz.prog 95 #[.slice ao n c, .int .i64 x] w fun e w' => SaysIf (Has (whoT S) n x) e ∧ Below w.heap.size w w' := by
  go_enter Tryz.func95, Tryz.ntmps95
  go_wp2
  go_loopw [6, 9] (fun _ i wr => ∃ k : Nat, k ≤ n ∧ i = .int .i64 k ∧ (∀ j, j < k → whoT S j ≠ x) ∧ Below w.heap.size w wr) (fun _ i _ => n - (intOf i).toNat)
  case atStart => exact ⟨0, Nat.zero_le _, rfl, fun j hj => by omega, Below.refl _ _⟩
  case round =>
    obtain ⟨k, hk, rfl, hall, hbel⟩ := hrel
    have HA : Hid (∀ j, j < k → whoT S j ≠ x) := hall
    clear hall
    by_cases hlt2 : k < n
    · obtain ⟨b, off, rfl, h0, h1⟩ := hz k hlt2
      have hb := World.block_lt_of_cell? w _ h0
      have c0 := (hbel.cell (p := ⟨b, off + k * 2, none⟩) hb).trans h0
      have c1 := (hbel.cell (p := ⟨b, off + k * 2 + 1, none⟩) hb).trans h1
      clear h0 h1
      by_cases he : whoT S k = x
      · have e1 : ((S k).who == x) = true := by unfold whoT at he; simpa using he
        have HF : Hid (Has (whoT S) n x) := ⟨k, hlt2, he⟩
        clear he
        go_wp2
        go_ret
        exact ⟨says_yes HF.out, push hbel _⟩
      · have e1 : ((S k).who == x) = false := by unfold whoT at he; simpa using he
        have HE : Hid (whoT S k ≠ x) := he
        clear he
        go_wp2
        go_roundw
        case rel => exact ⟨k + 1, by omega, by go_num, fun j hj => by
          by_cases e : j = k
          · subst e; exact HE.out
          · exact HA.out j (by omega), push hbel _⟩
        case measure => simp [intOf]; omega
    · obtain rfl : k = n := by omega
      have HF : Hid (¬ Has (whoT S) k x) := not_has HA.out
      go_wp2
      go_ret
      exact ⟨says_no HF.out, hbel⟩
theorem l5Seats_any (bo : Option Addr) (n c : Nat) (S : Nat → Seat) (w : World) (hn : n ≤ 60) (hs : ∀ j, j < n → In (S j).many 1 20) (hz : SeatsAt w bo n S) :
    Calls Tryz.prog 21 #[.slice bo n c] w fun e w' => e = .returned (.int .i64 (sits S n)) ∧ Below w.heap.size w w' := by
  have HS : Hid (∀ j, j < n → In (S j).many 1 20) := hs
  clear hs
  go_enter Tryz.func21, Tryz.ntmps21
  go_wp2
  go_loopw [3, 5, 8] (fun v _ i wr => ∃ k : Nat, k ≤ n ∧ i = .int .i64 k ∧ v = .int .i64 (sits S k) ∧ Below w.heap.size w wr) (fun _ _ i _ => n - (intOf i).toNat)
  case atStart => exact ⟨0, Nat.zero_le _, rfl, rfl, Below.refl _ _⟩
  case round =>
    obtain ⟨k, hk, rfl, rfl, hbel⟩ := hrel
    by_cases hlt : k < n
    · obtain ⟨b, off, rfl, h0, h1⟩ := hz k hlt
      have hb := World.block_lt_of_cell? w _ h0
      have c0 := (hbel.cell (p := ⟨b, off + k * 2, none⟩) hb).trans h0
      have c1 := (hbel.cell (p := ⟨b, off + k * 2 + 1, none⟩) hb).trans h1
      clear h0 h1
      have hwr : IntKind.i64.wrap (sits S k + (S k).many) = sits S (k + 1) := by
        have h1 := sits_bounds S k (fun j hj => HS.out j (by omega))
        have h2 := HS.out k hlt
        unfold In at h2
        have h3 : sits S (k + 1) = sits S k + (S k).many := rfl
        rw [h3, IntKind.wrap_i64]; omega
      go_wp2
      go_roundw
      case rel => exact ⟨k + 1, by omega, by go_num, rfl, push hbel _⟩
      case measure => simp [intOf]; omega
    · obtain rfl : k = n := by omega
      go_wp2
      go_ret
      exact ⟨rfl, hbel⟩
theorem specSeats_any (most : Int) (bo : Option Addr) (n c : Nat) (S : Nat → Seat) (w : World) (hn : n ≤ 2097152) (hc : n ≤ c) (hz : SeatsAt w bo n S) :
    Calls Tryz.prog 51 #[.int .i64 most, .slice bo n c] w fun e w' => SaysIf (SeatsOk most n S) e ∧ Below w.heap.size w w' := by
  have HZ : Hid (SeatsAt w bo n S) := hz
  clear hz
  by_cases g0 : In most 0 500
  · have e0 : decide (In most 0 500) = true := decide_eq_true g0
    have H0 : Hid (In most 0 500) := g0
    clear g0
    by_cases h60 : n ≤ 60
    · have d0 : decide (60 < n) = false := by simp; omega
      go_enter Tryz.func51, Tryz.ntmps51
      go_wp2_with (first | (go_at_call 91; refine (l1In_is _ _ _ _).mono ?_; rintro e w' ⟨rfl, hw'⟩; have hw' := hw'.symm; subst hw'))
      go_loopw [5, 6, 17] (fun _ _ i wr => ∃ k : Nat, k ≤ n ∧ i = .int .i64 k ∧ (∀ j, j < k → In (S j).who 1 9999 ∧ ¬ Has (whoT S) j (S j).who ∧ In (S j).many 1 20) ∧ Below w.heap.size w wr) (fun _ _ i _ => n - (intOf i).toNat)
      case atStart => exact ⟨0, Nat.zero_le _, rfl, fun j hj => by omega, Below.refl _ _⟩
      case round =>
        obtain ⟨i, hi, rfl, hall, hbel⟩ := hrel
        have HA : Hid (∀ j, j < i → In (S j).who 1 9999 ∧ ¬ Has (whoT S) j (S j).who ∧ In (S j).many 1 20) := hall
        clear hall e0 d0
        by_cases hlt : i < n
        · obtain ⟨b, off, rfl, h0, h1⟩ := HZ.out i hlt
          have hb := World.block_lt_of_cell? w _ h0
          have c0 := (hbel.cell (p := ⟨b, off + i * 2, none⟩) hb).trans h0
          have c1 := (hbel.cell (p := ⟨b, off + i * 2 + 1, none⟩) hb).trans h1
          have hbox := heap_alloc_new wr (.cells #[.int .i64 (S i).who, .int .i64 (S i).many] 126)
          have hbx := push hbel (.cells #[.int .i64 (S i).who, .int .i64 (S i).many] 126)
          clear h0 h1
          go_upto_region 6 with fail
          generalize hW : wr.alloc (.cells #[.int .i64 (S i).who, .int .i64 (S i).many] 126) = W at hbox hbx ⊢
          clear hW
          have hsW : wr.heap.size < W.heap.size := blk_lt hbox
          have z0 : ∀ g : Grown W, g.val.cell? ⟨wr.heap.size, 0, none⟩ = some (.int .i64 (S i).who) := fun g => (g.bel.cell hsW).trans (blk_cell hbox 0 _ rfl)
          have z1 : ∀ g : Grown W, g.val.cell? ⟨wr.heap.size, 1, none⟩ = some (.int .i64 (S i).many) := fun g => (g.bel.cell hsW).trans (blk_cell hbox 1 _ rfl)
          have i1 : (0 : Int) ≤ (i : Int) := by omega
          have i2 : (i : Int) ≤ (c : Int) := by omega
          clear c0 c1 hbox hbel
          by_cases g1 : In (S i).who 1 9999
          · have e1 : decide (In (S i).who 1 9999) = true := decide_eq_true g1
            have H1 : Hid (In (S i).who 1 9999) := g1
            clear g1
            by_cases g2 : Has (whoT S) i (S i).who
            · have H2 : Hid (Has (whoT S) i (S i).who) := g2
              clear g2
              refine wp_region_grow (by kernel_rfl) (by kernel_rfl) ?_
              repeat (first | go_big_quiet_skip | (go_big_quiet_want; go_big_quiet_op; first | go_big_quiet_on | (apply Exists.intro; refine ⟨fun g => ?_, ?_⟩; (focus (first | (go_at_call 90; refine grown_call (v := .bool true) ((l4By_is _ _).mono ?_); rintro e w4 ⟨rfl, rfl⟩; exact ⟨by rw [e1], Below.refl _ _⟩) | (go_at_call 95; refine grown_call (v := .bool true) ((l5Sits_any _ i c S (S i).who _ (by omega) ((HZ.out.upto (by omega)).below (after hbx g.bel))).mono ?_); rintro e w4 ⟨⟨bb, rfl, hi⟩, hbb⟩; obtain rfl := hi.2 H2.out; exact ⟨rfl, hbb⟩))); go_big_quiet_on)))
              refine wpQuiet_nil ?_
              rintro _ ⟨g, rfl⟩
              go_wp2
              go_ret
              exact ⟨says_no (fun h => (h.2.2.1 i hlt).2.1 H2.out), after hbx g.bel⟩
            · have H2 : Hid (¬ Has (whoT S) i (S i).who) := g2
              clear g2
              by_cases g3 : In (S i).many 1 20
              · have e3 : decide (In (S i).many 1 20) = true := decide_eq_true g3
                have H3 : Hid (In (S i).many 1 20) := g3
                clear g3
                refine wp_region_grow (by kernel_rfl) (by kernel_rfl) ?_
                repeat (first | go_big_quiet_skip | (go_big_quiet_want; go_big_quiet_op; first | go_big_quiet_on | (apply Exists.intro; refine ⟨fun g => ?_, ?_⟩; (focus (first | (go_at_call 90; refine grown_call (v := .bool true) ((l4By_is _ _).mono ?_); rintro e w4 ⟨rfl, rfl⟩; exact ⟨by rw [e1], Below.refl _ _⟩) | (go_at_call 95; refine grown_call (v := .bool false) ((l5Sits_any _ i c S (S i).who _ (by omega) ((HZ.out.upto (by omega)).below (after hbx g.bel))).mono ?_); rintro e w4 ⟨⟨bb, rfl, hi⟩, hbb⟩; obtain rfl := Bool.eq_false_iff.2 (fun e => H2.out (hi.1 e)); exact ⟨rfl, hbb⟩) | (go_at_call 91; refine grown_call (v := .bool true) ((l1In_is _ _ _ _).mono ?_); rintro e w4 ⟨rfl, rfl⟩; exact ⟨by rw [e3], Below.refl _ _⟩))); go_big_quiet_on)))
                refine wpQuiet_nil ?_
                rintro _ ⟨g, rfl⟩
                go_wp2
                have HAN : Hid (∀ j, j < i + 1 → In (S j).who 1 9999 ∧ ¬ Has (whoT S) j (S j).who ∧ In (S j).many 1 20) := fun j hj => by
                  by_cases e : j = i
                  · subst e; exact ⟨H1.out, H2.out, H3.out⟩
                  · exact HA.out j (by omega)
                go_roundw
                case rel => exact ⟨i + 1, by omega, by go_num, HAN.out, after hbx g.bel⟩
                case measure => simp [intOf]; omega
              · have e3 : decide (In (S i).many 1 20) = false := decide_eq_false g3
                have H3 : Hid (¬ In (S i).many 1 20) := g3
                clear g3
                refine wp_region_grow (by kernel_rfl) (by kernel_rfl) ?_
                repeat (first | go_big_quiet_skip | (go_big_quiet_want; go_big_quiet_op; first | go_big_quiet_on | (apply Exists.intro; refine ⟨fun g => ?_, ?_⟩; (focus (first | (go_at_call 90; refine grown_call (v := .bool true) ((l4By_is _ _).mono ?_); rintro e w4 ⟨rfl, rfl⟩; exact ⟨by rw [e1], Below.refl _ _⟩) | (go_at_call 95; refine grown_call (v := .bool false) ((l5Sits_any _ i c S (S i).who _ (by omega) ((HZ.out.upto (by omega)).below (after hbx g.bel))).mono ?_); rintro e w4 ⟨⟨bb, rfl, hi⟩, hbb⟩; obtain rfl := Bool.eq_false_iff.2 (fun e => H2.out (hi.1 e)); exact ⟨rfl, hbb⟩) | (go_at_call 91; refine grown_call (v := .bool false) ((l1In_is _ _ _ _).mono ?_); rintro e w4 ⟨rfl, rfl⟩; exact ⟨by rw [e3], Below.refl _ _⟩))); go_big_quiet_on)))
                refine wpQuiet_nil ?_
                rintro _ ⟨g, rfl⟩
                go_wp2
                go_ret
                exact ⟨says_no (fun h => H3.out (h.2.2.1 i hlt).2.2), after hbx g.bel⟩
          · have e1 : decide (In (S i).who 1 9999) = false := decide_eq_false g1
            have H1 : Hid (¬ In (S i).who 1 9999) := g1
            clear g1
            refine wp_region_grow (by kernel_rfl) (by kernel_rfl) ?_
            repeat (first | go_big_quiet_skip | (go_big_quiet_want; go_big_quiet_op; first | go_big_quiet_on | (apply Exists.intro; refine ⟨fun g => ?_, ?_⟩; (focus (first | (go_at_call 90; refine grown_call (v := .bool false) ((l4By_is _ _).mono ?_); rintro e w4 ⟨rfl, rfl⟩; exact ⟨by rw [e1], Below.refl _ _⟩))); go_big_quiet_on)))
            refine wpQuiet_nil ?_
            rintro _ ⟨g, rfl⟩
            go_wp2
            go_ret
            exact ⟨says_no (fun h => H1.out (h.2.2.1 i hlt).1), after hbx g.bel⟩
        · obtain rfl : i = n := by omega
          go_wp2_with fail
          refine (l5Seats_any bo i c S _ h60 (fun j hj => (HA.out j hj).2.2) (HZ.out.below hbel)).mono ?_
          rintro e w2 ⟨rfl, hb2⟩
          have hbw := after hbel hb2
          by_cases hle : sits S i ≤ most
          · have e5 : decide (sits S i ≤ most) = true := decide_eq_true hle
            have HLE : Hid (sits S i ≤ most) := hle
            clear hle
            go_wp2
            go_ret
            exact ⟨says_yes ⟨H0.out, h60, HA.out, HLE.out⟩, hbw⟩
          · have e5 : decide (sits S i ≤ most) = false := decide_eq_false hle
            have HLE : Hid (¬ sits S i ≤ most) := hle
            clear hle
            go_wp2
            go_ret
            exact ⟨says_no (fun h => by have := HLE.out; have := h.2.2.2; omega), hbw⟩
    · have d0 : decide (60 < n) = true := by simp; omega
      go_enter Tryz.func51, Tryz.ntmps51
      go_wp2_with (first | (go_at_call 91; refine (l1In_is _ _ _ _).mono ?_; rintro e w' ⟨rfl, hw'⟩; have hw' := hw'.symm; subst hw'))
      go_ret
      exact ⟨says_no (fun h => h60 h.2.1), Below.refl _ _⟩
  · have e0 : decide (In most 0 500) = false := decide_eq_false g0
    have H0 : Hid (¬ In most 0 500) := g0
    clear g0
    go_enter Tryz.func51, Tryz.ntmps51
    go_wp2_with (first | (go_at_call 91; refine (l1In_is _ _ _ _).mono ?_; rintro e w' ⟨rfl, hw'⟩; have hw' := hw'.symm; subst hw'))
    go_ret
    exact ⟨says_no (fun h => H0.out h.1), Below.refl _ _⟩
end Go.Proofs.YtlelckbeoclhbaaGreat

namespace Go.Proofs.YtlelckbeoclhbaaGreat
open Go.RowKit
theorem specOff_raw (x : Off) (asa ald abk : Option Addr) (csa cld cbk : Nat) (w : World) (hs : Off.Short x 1048576) (hsa : SailsAt w asa x.san x.sa) (hld : LoadsAt w ald x.ldn x.ld) (hbk : BooksAt w abk x.bkn x.bk) (hcb : x.bkn ≤ cbk) :
    Calls Tryz.prog 16 #[.agg #[.slice asa x.san csa, .slice ald x.ldn cld, .slice abk x.bkn cbk]] w fun e w' => SaysIf (OffOk x) e ∧ Below w.heap.size w w' := by
  have HSA : Hid (SailsAt w asa x.san x.sa) := hsa
  have HLD : Hid (LoadsAt w ald x.ldn x.ld) := hld
  have HBK : Hid (BooksAt w abk x.bkn x.bk) := hbk
  have HSH : Hid (Off.Short x 1048576) := hs
  have n1 : x.san ≤ 1048576 := hs.1.1
  have n2 : x.ldn ≤ 1048576 := hs.2.1.1
  have n3 : x.bkn ≤ 1048576 := hs.2.2.1
  clear hsa hld hbk hs
  have hb0 : Below w.heap.size w (w.alloc (.cells #[.slice asa x.san csa, .slice ald x.ldn cld, .slice abk x.bkn cbk] 39)) := push (Below.refl _ _) _
  have bO := heap_alloc_new w (.cells #[.slice asa x.san csa, .slice ald x.ldn cld, .slice abk x.bkn cbk] 39)
  go_enter Tryz.func16, Tryz.ntmps16
  go_wp2_with fail
  generalize w.alloc (.cells #[.slice asa x.san csa, .slice ald x.ldn cld, .slice abk x.bkn cbk] 39) = V0 at hb0 bO ⊢
  refine (specTab_any asa x.san csa x.sa _ n1 HSH.out.1.2 (HSA.out.below hb0)).mono ?_
  rintro e V ⟨⟨t0, rfl, ht0⟩, hbv⟩
  have HT0 : Hid (t0 = true ↔ GoodTab x.san x.sa) := ht0
  have bO1 := blk_below bO hbv
  have hb1 := after hb0 hbv
  clear ht0 hb0 bO hbv V0
  have z0 := blk_cell bO1 0 _ rfl
  have z1 := blk_cell bO1 1 _ rfl
  have z2 := blk_cell bO1 2 _ rfl
  cases t0 with
  | false =>
    have HN : Hid (¬ OffOk x) := fun h => by have := HT0.out.2 h.1; cases this
    go_wp2
    go_ret
    exact ⟨says_no HN.out, hb1⟩
  | true =>
  have HTAB : Hid (GoodTab x.san x.sa) := HT0.out.1 rfl
  clear HT0
  by_cases m1 : x.ldn = x.san
  case neg =>
    have e1 : ((x.ldn : Int) != (x.san : Int)) = true := by simp; omega
    have HN : Hid (¬ OffOk x) := fun h => m1 h.2.1
    clear m1
    go_wp2
    go_ret
    exact ⟨says_no HN.out, hb1⟩
  have e1 : ((x.ldn : Int) != (x.san : Int)) = false := by simp; omega
  by_cases m2 : x.bkn ≤ 30
  case neg =>
    have e2 : decide ((30 : Int) < (x.bkn : Int)) = true := by simp; omega
    have HN : Hid (¬ OffOk x) := fun h => m2 h.2.2.1
    clear m1 m2
    go_wp2
    go_ret
    exact ⟨says_no HN.out, hb1⟩
  have e2 : decide ((30 : Int) < (x.bkn : Int)) = false := by simp; omega
  have HM1 : Hid (x.ldn = x.san) := m1
  have HM2 : Hid (x.bkn ≤ 30) := m2
  clear m1
  go_wp2
  clear e1 e2 z0 z1 z2
  go_loopw [3, 4, 5, 37] (fun _ _ _ q wr => ∃ k : Nat, k ≤ x.san ∧ q = .int .i64 k ∧ (∀ j, j < k → LoadOk (x.sa j) (x.ld j)) ∧ Below V.heap.size V wr) (fun _ _ _ q _ => x.san - (intOf q).toNat)
  case atStart => exact ⟨0, Nat.zero_le _, rfl, fun j hj => by omega, Below.refl _ _⟩
  case round =>
    obtain ⟨k, hk, rfl, hall, hbel⟩ := hrel
    have HA : Hid (∀ j, j < k → LoadOk (x.sa j) (x.ld j)) := hall
    clear hall
    have hbw := after hb1 hbel
    by_cases hlt : k < x.san
    · obtain ⟨sb, so, la, lc, ca, cc, rfl, f0, f1, f2, f3, f4, f5, f6, f7, hla, hca, sla, sca⟩ := HSA.out k hlt
      obtain ⟨s, hsd⟩ : ∃ s, s = x.sa k := ⟨_, rfl⟩
      rw [← hsd] at f0 f1 f2 f3 f4 f5 f6 f7 hla hca sla sca
      have HSD : Hid (s = x.sa k) := hsd
      have HSS : Hid (ShortS s 1048576) := by rw [hsd]; exact HSH.out.1.2 k hlt
      have lsb := World.block_lt_of_cell? w _ f0
      have c0 : wr.cell? ⟨sb, so + k * 8, none⟩ = some (.int .i64 s.id) := (hbw.cell (p := ⟨sb, so + k * 8, none⟩) lsb).trans f0
      have c1 : wr.cell? ⟨sb, so + k * 8 + 1, none⟩ = some (.string s.fr) := (hbw.cell (p := ⟨sb, so + k * 8 + 1, none⟩) lsb).trans f1
      have c2 : wr.cell? ⟨sb, so + k * 8 + 2, none⟩ = some (.string s.dst) := (hbw.cell (p := ⟨sb, so + k * 8 + 2, none⟩) lsb).trans f2
      have c3 : wr.cell? ⟨sb, so + k * 8 + 3, none⟩ = some (.int .i64 s.dep) := (hbw.cell (p := ⟨sb, so + k * 8 + 3, none⟩) lsb).trans f3
      have c4 : wr.cell? ⟨sb, so + k * 8 + 4, none⟩ = some (.int .i64 s.arr) := (hbw.cell (p := ⟨sb, so + k * 8 + 4, none⟩) lsb).trans f4
      have c5 : wr.cell? ⟨sb, so + k * 8 + 5, none⟩ = some (.slice la s.la.n lc) := (hbw.cell (p := ⟨sb, so + k * 8 + 5, none⟩) lsb).trans f5
      have c6 : wr.cell? ⟨sb, so + k * 8 + 6, none⟩ = some (.slice ca s.ca.n cc) := (hbw.cell (p := ⟨sb, so + k * 8 + 6, none⟩) lsb).trans f6
      have c7 : wr.cell? ⟨sb, so + k * 8 + 7, none⟩ = some (.int .i64 s.most) := (hbw.cell (p := ⟨sb, so + k * 8 + 7, none⟩) lsb).trans f7
      obtain ⟨C, hC, hI⟩ := HLD.out
      obtain ⟨lb, lo, rfl, hc⟩ := hC k (by have := HM1.out; omega)
      obtain ⟨l, hld⟩ : ∃ l, l = x.ld k := ⟨_, rfl⟩
      obtain ⟨ast, cst, aro, cro, ase, cse, eC, hst, sst, hro, sro, hse, sse⟩ := hI k (by have := HM1.out; omega)
      rw [← hld] at eC hst sst hro sro hse sse
      have HLL : Hid (l = x.ld k) := hld
      have HLS : Hid (Load.Short l 1048576) := by rw [hld]; exact HSH.out.2.1.2 k (by have := HM1.out; omega)
      have llb : lb < w.heap.size := World.block_lt_of_cell? w _ (hc 0 (by decide))
      have d0 : ∀ o, (wr.alloc o).cell? ⟨lb, lo + k * 3, none⟩ = some (.slice ast l.stn cst) := fun o => ((hbw.alloc hbw.size o).cell (p := ⟨lb, lo + k * 3, none⟩) llb).trans (by have := hc 0 (by decide); rw [eC] at this; exact this)
      have d1 : ∀ o, (wr.alloc o).cell? ⟨lb, lo + k * 3 + 1, none⟩ = some (.slice aro l.ron cro) := fun o => ((hbw.alloc hbw.size o).cell (p := ⟨lb, lo + k * 3 + 1, none⟩) llb).trans (by have := hc 1 (by decide); rw [eC] at this; exact this)
      have d2 : ∀ o, (wr.alloc o).cell? ⟨lb, lo + k * 3 + 2, none⟩ = some (.slice ase l.sen cse) := fun o => ((hbw.alloc hbw.size o).cell (p := ⟨lb, lo + k * 3 + 2, none⟩) llb).trans (by have := hc 2 (by decide); rw [eC] at this; exact this)
      have HLA : Hid (PairsAt w la s.la) := hla
      have HCA : Hid (PairsAt w ca s.ca) := hca
      have HST : Hid (StaysAt w ast l.stn l.st) := hst
      have HRO : Hid (RoomsAt w aro l.ron l.ro) := hro
      have HSE : Hid (SeatsAt w ase l.sen l.se) := hse
      have q1 : l.stn ≤ cst := sst.1
      have q2 : l.ron ≤ cro := sro.1
      have q3 : l.sen ≤ cse := sse.1
      clear hC hI hc eC hsd hld f0 f1 f2 f3 f4 f5 f6 f7 hla hca sla sca hst sst hro sro hse sse
      have hk0 : (0 : Int) ≤ (k : Int) := by omega
      have hk1 : (k : Int) < (x.ldn : Int) := by have := HM1.out; omega
      have z1 : ∀ o, (wr.alloc o).cell? ⟨w.heap.size, 1, none⟩ = some (.slice (some ⟨lb, lo, none⟩) x.ldn cld) := fun o => blk_cell (blk_alloc (blk_below bO1 hbel) o) 1 _ rfl
      go_wp2_with fail
      have hbx : Below V.heap.size V ((wr.alloc (.cells #[.int .i64 s.id, .string s.fr, .string s.dst, .int .i64 s.dep, .int .i64 s.arr, .slice la s.la.n lc, .slice ca s.ca.n cc, .int .i64 s.most] 54)).alloc (.cells #[.slice ast l.stn cst, .slice aro l.ron cro, .slice ase l.sen cse] 62)) := (hbel.alloc hbel.size _).alloc (by have := hbel.size; simp; omega) _
      have bS : ((wr.alloc (.cells #[.int .i64 s.id, .string s.fr, .string s.dst, .int .i64 s.dep, .int .i64 s.arr, .slice la s.la.n lc, .slice ca s.ca.n cc, .int .i64 s.most] 54)).alloc (.cells #[.slice ast l.stn cst, .slice aro l.ron cro, .slice ase l.sen cse] 62)).heap[wr.heap.size]? = some (.cells #[.int .i64 s.id, .string s.fr, .string s.dst, .int .i64 s.dep, .int .i64 s.arr, .slice la s.la.n lc, .slice ca s.ca.n cc, .int .i64 s.most] 54 (0, 0)) := blk_alloc (heap_alloc_new wr _) _
      have bL : ((wr.alloc (.cells #[.int .i64 s.id, .string s.fr, .string s.dst, .int .i64 s.dep, .int .i64 s.arr, .slice la s.la.n lc, .slice ca s.ca.n cc, .int .i64 s.most] 54)).alloc (.cells #[.slice ast l.stn cst, .slice aro l.ron cro, .slice ase l.sen cse] 62)).heap[wr.heap.size + 1]? = some (.cells #[.slice ast l.stn cst, .slice aro l.ron cro, .slice ase l.sen cse] 62 (0, 0)) := by simpa using heap_alloc_new (wr.alloc _) _
      generalize ((wr.alloc (.cells #[.int .i64 s.id, .string s.fr, .string s.dst, .int .i64 s.dep, .int .i64 s.arr, .slice la s.la.n lc, .slice ca s.ca.n cc, .int .i64 s.most] 54)).alloc (.cells #[.slice ast l.stn cst, .slice aro l.ron cro, .slice ase l.sen cse] 62)) = X at hbx bS bL ⊢
      clear c0 c1 c2 c3 c4 c5 c6 c7 d0 d1 d2 z1 hbw
      have hbw := after hb1 hbx
      have s6 := blk_cell bS 6 _ rfl
      have s7 := blk_cell bS 7 _ rfl
      have l1 := blk_cell bL 1 _ rfl
      have l2 := blk_cell bL 2 _ rfl
      refine (specDeck_any la ast s.la.n lc l.stn cst s.la l.st _ rfl HSS.out.2.2.1 HLS.out.1 q1 (HLA.out.below hbw) (HST.out.below hbw)).mono ?_
      rintro e X1 ⟨⟨t1, rfl, ht1⟩, hbq⟩
      have HT1 : Hid (t1 = true ↔ DeckS s.la l.stn l.st) := ht1
      clear ht1
      have bS2 := blk_below bS hbq
      have bL2 := blk_below bL hbq
      have hbx2 := after hbx hbq
      clear s6 s7 l1 l2 bS bL hbx hbw hbq
      have bS := bS2
      have bL := bL2
      have hbx := hbx2
      clear bS2 bL2 hbx2
      have hbw := after hb1 hbx
      have s6 := blk_cell bS 6 _ rfl
      have s7 := blk_cell bS 7 _ rfl
      have l1 := blk_cell bL 1 _ rfl
      have l2 := blk_cell bL 2 _ rfl
      cases t1 with
      | false =>
        have HN : Hid (¬ OffOk x) := fun h => by have h := h.2.2.2.1 k hlt; rw [← HSD.out, ← HLL.out] at h; have := HT1.out.2 h.1; cases this
        go_wp2
        go_ret
        exact ⟨says_no HN.out, hbw⟩
      | true =>
      have HP1 : Hid (DeckS s.la l.stn l.st) := HT1.out.1 rfl
      clear HT1
      go_wp2_with fail
      refine (specRooms_any ca aro s.ca.n cc l.ron cro s.ca l.ro _ rfl HSS.out.2.2.2 HLS.out.2.1 q2 (HCA.out.below hbw) (HRO.out.below hbw)).mono ?_
      rintro e X2 ⟨⟨t2, rfl, ht2⟩, hbq⟩
      have HT2 : Hid (t2 = true ↔ RoomsS s.ca l.ron l.ro) := ht2
      clear ht2
      have bS2 := blk_below bS hbq
      have bL2 := blk_below bL hbq
      have hbx2 := after hbx hbq
      clear s6 s7 l1 l2 bS bL hbx hbw hbq
      have bS := bS2
      have bL := bL2
      have hbx := hbx2
      clear bS2 bL2 hbx2
      have hbw := after hb1 hbx
      have s6 := blk_cell bS 6 _ rfl
      have s7 := blk_cell bS 7 _ rfl
      have l1 := blk_cell bL 1 _ rfl
      have l2 := blk_cell bL 2 _ rfl
      cases t2 with
      | false =>
        have HN : Hid (¬ OffOk x) := fun h => by have h := h.2.2.2.1 k hlt; rw [← HSD.out, ← HLL.out] at h; have := HT2.out.2 h.2.1; cases this
        go_wp2
        go_ret
        exact ⟨says_no HN.out, hbw⟩
      | true =>
      have HP2 : Hid (RoomsS s.ca l.ron l.ro) := HT2.out.1 rfl
      clear HT2
      go_wp2_with fail
      refine (specSeats_any s.most ase l.sen cse l.se _ (by have := HLS.out.2.2; omega) q3 (HSE.out.below hbw)).mono ?_
      rintro e X3 ⟨⟨t3, rfl, ht3⟩, hbq⟩
      have HT3 : Hid (t3 = true ↔ SeatsOk s.most l.sen l.se) := ht3
      clear ht3
      have bS2 := blk_below bS hbq
      have bL2 := blk_below bL hbq
      have hbx2 := after hbx hbq
      clear s6 s7 l1 l2 bS bL hbx hbw hbq
      have bS := bS2
      have bL := bL2
      have hbx := hbx2
      clear bS2 bL2 hbx2
      have hbw := after hb1 hbx
      have s6 := blk_cell bS 6 _ rfl
      have s7 := blk_cell bS 7 _ rfl
      have l1 := blk_cell bL 1 _ rfl
      have l2 := blk_cell bL 2 _ rfl
      cases t3 with
      | false =>
        have HN : Hid (¬ OffOk x) := fun h => by have h := h.2.2.2.1 k hlt; rw [← HSD.out, ← HLL.out] at h; have := HT3.out.2 h.2.2; cases this
        go_wp2
        go_ret
        exact ⟨says_no HN.out, hbw⟩
      | true =>
      have HP3 : Hid (SeatsOk s.most l.sen l.se) := HT3.out.1 rfl
      clear HT3
      have HLO : Hid (LoadOk (x.sa k) (x.ld k)) := by show LoadOk (x.sa k) (x.ld k); rw [← HSD.out, ← HLL.out]; exact ⟨HP1.out, HP2.out, HP3.out⟩
      clear s6 s7 l1 l2
      go_wp2
      go_roundw
      case rel => exact ⟨k + 1, by omega, by go_num, fun j hj => by
        by_cases e : j = k
        · subst e; exact HLO.out
        · exact HA.out j (by omega), hbx⟩
      case measure => simp [intOf]; omega
    · obtain rfl : k = x.san := by omega
      have HL1 : Hid (∀ j, j < x.san → LoadOk (x.sa j) (x.ld j)) := HA.out
      have HB1 : Hid (Below V.heap.size V wr) := hbel
      have z2 := blk_cell (blk_below bO1 hbel) 2 _ rfl
      clear HA hbel hbw hk hlt
      go_wp2
      clear z2
      go_loopw [6, 73] (fun _ q wr => ∃ k : Nat, k ≤ x.bkn ∧ q = .int .i64 k ∧ (∀ j, j < k → BookOk x j) ∧ Below V.heap.size V wr) (fun _ q _ => x.bkn - (intOf q).toNat)
      case atStart => exact ⟨0, Nat.zero_le _, rfl, fun j hj => by omega, HB1.out⟩
      case round =>
        obtain ⟨k, hk, rfl, hall, hbel⟩ := hrel
        have HA : Hid (∀ j, j < k → BookOk x j) := hall
        clear hall
        have hbw := after hb1 hbel
        by_cases hlt : k < x.bkn
        · obtain ⟨C, hC, hI⟩ := HBK.out
          obtain ⟨bb, bo, rfl, _⟩ := hC k hlt
          have HCC : Hid (RecsAt wr (some ⟨bb, bo, none⟩) x.bkn 13 C) := hC.below hbw
          have HII : Hid (∀ k, k < x.bkn → Book.Is wr (C k) (x.bk k)) := fun k hk => (hI k hk).below hbw
          have z0 := blk_cell (blk_below bO1 hbel) 0 _ rfl
          have z1 := blk_cell (blk_below bO1 hbel) 1 _ rfl
          have z2 := blk_cell (blk_below bO1 hbel) 2 _ rfl
          clear hC hI
          go_wp2_with fail
          refine (l7Booking_raw x asa ald bb bo csa cld cbk k C _ hlt HSH.out (HSA.out.below hbw) HCC.out HII.out hcb).mono ?_
          rintro e X ⟨⟨t, rfl, ht⟩, hbx⟩
          have HT : Hid (t = true ↔ BookOk x k) := ht
          clear ht z0 z1 z2
          cases t with
          | false =>
            have HN : Hid (¬ OffOk x) := fun h => by have := HT.out.2 (h.2.2.2.2.1 k hlt); cases this
            go_wp2
            go_ret
            exact ⟨says_no HN.out, after hbw hbx⟩
          | true =>
            have HP : Hid (BookOk x k) := HT.out.1 rfl
            clear HT
            go_wp2
            go_roundw
            case rel => exact ⟨k + 1, by omega, by go_num, fun j hj => by
              by_cases e : j = k
              · subst e; exact HP.out
              · exact HA.out j (by omega), after hbel hbx⟩
            case measure => simp [intOf]; omega
        · obtain rfl : k = x.bkn := by omega
          have HL2 : Hid (∀ j, j < x.bkn → BookOk x j) := HA.out
          have HB2 : Hid (Below V.heap.size V wr) := hbel
          have z0 := blk_cell (blk_below bO1 hbel) 0 _ rfl
          clear HA hbel hbw hk hlt HB1
          go_wp2
          clear z0
          go_loopw [7, 8, 9, 10, 11, 12, 14, 84, 95, 96, 97] (fun _ _ _ _ _ _ _ q _ _ _ wr => ∃ k : Nat, k ≤ x.san ∧ q = .int .i64 k ∧ (∀ j, j < k → Tallies x j) ∧ Below V.heap.size V wr) (fun _ _ _ _ _ _ _ q _ _ _ _ => x.san - (intOf q).toNat)
          case atStart => exact ⟨0, Nat.zero_le _, rfl, fun j hj => by omega, HB2.out⟩
          case round =>
            obtain ⟨k, hk, rfl, hall, hbel⟩ := hrel
            have HA : Hid (∀ j, j < k → Tallies x j) := hall
            clear hall
            have hbw := after hb1 hbel
            by_cases hlt : k < x.san
            · obtain ⟨sb, so, la, lc, ca, cc, rfl, f0, f1, f2, f3, f4, f5, f6, f7, hla, hca, sla, sca⟩ := HSA.out k hlt
              obtain ⟨s, hsd⟩ : ∃ s, s = x.sa k := ⟨_, rfl⟩
              rw [← hsd] at f0 f1 f2 f3 f4 f5 f6 f7 hla hca sla sca
              have HSD : Hid (s = x.sa k) := hsd
              have HSS : Hid (ShortS s 1048576) := by rw [hsd]; exact HSH.out.1.2 k hlt
              have lsb := World.block_lt_of_cell? w _ f0
              have c0 : wr.cell? ⟨sb, so + k * 8, none⟩ = some (.int .i64 s.id) := (hbw.cell (p := ⟨sb, so + k * 8, none⟩) lsb).trans f0
              have c1 : wr.cell? ⟨sb, so + k * 8 + 1, none⟩ = some (.string s.fr) := (hbw.cell (p := ⟨sb, so + k * 8 + 1, none⟩) lsb).trans f1
              have c2 : wr.cell? ⟨sb, so + k * 8 + 2, none⟩ = some (.string s.dst) := (hbw.cell (p := ⟨sb, so + k * 8 + 2, none⟩) lsb).trans f2
              have c3 : wr.cell? ⟨sb, so + k * 8 + 3, none⟩ = some (.int .i64 s.dep) := (hbw.cell (p := ⟨sb, so + k * 8 + 3, none⟩) lsb).trans f3
              have c4 : wr.cell? ⟨sb, so + k * 8 + 4, none⟩ = some (.int .i64 s.arr) := (hbw.cell (p := ⟨sb, so + k * 8 + 4, none⟩) lsb).trans f4
              have c5 : wr.cell? ⟨sb, so + k * 8 + 5, none⟩ = some (.slice la s.la.n lc) := (hbw.cell (p := ⟨sb, so + k * 8 + 5, none⟩) lsb).trans f5
              have c6 : wr.cell? ⟨sb, so + k * 8 + 6, none⟩ = some (.slice ca s.ca.n cc) := (hbw.cell (p := ⟨sb, so + k * 8 + 6, none⟩) lsb).trans f6
              have c7 : wr.cell? ⟨sb, so + k * 8 + 7, none⟩ = some (.int .i64 s.most) := (hbw.cell (p := ⟨sb, so + k * 8 + 7, none⟩) lsb).trans f7
              obtain ⟨C, hC, hI⟩ := HLD.out
              obtain ⟨lb, lo, rfl, hc⟩ := hC k (by have := HM1.out; omega)
              obtain ⟨l, hld⟩ : ∃ l, l = x.ld k := ⟨_, rfl⟩
              obtain ⟨ast, cst, aro, cro, ase, cse, eC, hst, sst, hro, sro, hse, sse⟩ := hI k (by have := HM1.out; omega)
              rw [← hld] at eC hst sst hro sro hse sse
              have HLL : Hid (l = x.ld k) := hld
              have HLS : Hid (Load.Short l 1048576) := by rw [hld]; exact HSH.out.2.1.2 k (by have := HM1.out; omega)
              have llb : lb < w.heap.size := World.block_lt_of_cell? w _ (hc 0 (by decide))
              have d0 : ∀ o, (wr.alloc o).cell? ⟨lb, lo + k * 3, none⟩ = some (.slice ast l.stn cst) := fun o => ((hbw.alloc hbw.size o).cell (p := ⟨lb, lo + k * 3, none⟩) llb).trans (by have := hc 0 (by decide); rw [eC] at this; exact this)
              have d1 : ∀ o, (wr.alloc o).cell? ⟨lb, lo + k * 3 + 1, none⟩ = some (.slice aro l.ron cro) := fun o => ((hbw.alloc hbw.size o).cell (p := ⟨lb, lo + k * 3 + 1, none⟩) llb).trans (by have := hc 1 (by decide); rw [eC] at this; exact this)
              have d2 : ∀ o, (wr.alloc o).cell? ⟨lb, lo + k * 3 + 2, none⟩ = some (.slice ase l.sen cse) := fun o => ((hbw.alloc hbw.size o).cell (p := ⟨lb, lo + k * 3 + 2, none⟩) llb).trans (by have := hc 2 (by decide); rw [eC] at this; exact this)
              have HLA : Hid (PairsAt w la s.la) := hla
              have HCA : Hid (PairsAt w ca s.ca) := hca
              have HST : Hid (StaysAt w ast l.stn l.st) := hst
              have HRO : Hid (RoomsAt w aro l.ron l.ro) := hro
              have HSE : Hid (SeatsAt w ase l.sen l.se) := hse
              have q1 : l.stn ≤ cst := sst.1
              have q2 : l.ron ≤ cro := sro.1
              have q3 : l.sen ≤ cse := sse.1
              clear hC hI hc eC hsd hld f0 f1 f2 f3 f4 f5 f6 f7 hla hca sla sca hst sst hro sro hse sse
              have HLO := HL1.out k hlt
              rw [← HSD.out, ← HLL.out] at HLO
              have HCB : Hid (∀ j, j < l.ron → 0 ≤ (l.ro j).cab ∧ (l.ro j).cab < s.ca.n) := fun j hj => rooms_cab HLO.2.1 j hj
              clear HLO
              have hk0 : (0 : Int) ≤ (k : Int) := by omega
              have hk1 : (k : Int) < (x.ldn : Int) := by have := HM1.out; omega
              have z1 : ∀ o, (wr.alloc o).cell? ⟨w.heap.size, 1, none⟩ = some (.slice (some ⟨lb, lo, none⟩) x.ldn cld) := fun o => blk_cell (blk_alloc (blk_below bO1 hbel) o) 1 _ rfl
              have z2 : ∀ o p, ((wr.alloc o).alloc p).cell? ⟨w.heap.size, 2, none⟩ = some (.slice abk x.bkn cbk) := fun o p => blk_cell (blk_alloc (blk_alloc (blk_below bO1 hbel) o) p) 2 _ rfl
              go_wp2
              have hbx : Below V.heap.size V ((wr.alloc (.cells #[.int .i64 s.id, .string s.fr, .string s.dst, .int .i64 s.dep, .int .i64 s.arr, .slice la s.la.n lc, .slice ca s.ca.n cc, .int .i64 s.most] 54)).alloc (.cells #[.slice ast l.stn cst, .slice aro l.ron cro, .slice ase l.sen cse] 62)) := (hbel.alloc hbel.size _).alloc (by have := hbel.size; simp; omega) _
              have bS : ((wr.alloc (.cells #[.int .i64 s.id, .string s.fr, .string s.dst, .int .i64 s.dep, .int .i64 s.arr, .slice la s.la.n lc, .slice ca s.ca.n cc, .int .i64 s.most] 54)).alloc (.cells #[.slice ast l.stn cst, .slice aro l.ron cro, .slice ase l.sen cse] 62)).heap[wr.heap.size]? = some (.cells #[.int .i64 s.id, .string s.fr, .string s.dst, .int .i64 s.dep, .int .i64 s.arr, .slice la s.la.n lc, .slice ca s.ca.n cc, .int .i64 s.most] 54 (0, 0)) := blk_alloc (heap_alloc_new wr _) _
              have bL : ((wr.alloc (.cells #[.int .i64 s.id, .string s.fr, .string s.dst, .int .i64 s.dep, .int .i64 s.arr, .slice la s.la.n lc, .slice ca s.ca.n cc, .int .i64 s.most] 54)).alloc (.cells #[.slice ast l.stn cst, .slice aro l.ron cro, .slice ase l.sen cse] 62)).heap[wr.heap.size + 1]? = some (.cells #[.slice ast l.stn cst, .slice aro l.ron cro, .slice ase l.sen cse] 62 (0, 0)) := by simpa using heap_alloc_new (wr.alloc _) _
              generalize ((wr.alloc (.cells #[.int .i64 s.id, .string s.fr, .string s.dst, .int .i64 s.dep, .int .i64 s.arr, .slice la s.la.n lc, .slice ca s.ca.n cc, .int .i64 s.most] 54)).alloc (.cells #[.slice ast l.stn cst, .slice aro l.ron cro, .slice ase l.sen cse] 62)) = X at hbx bS bL ⊢
              generalize wr.heap.size = sbx at bS bL ⊢
              clear c0 c1 c2 c3 c4 c5 c6 c7 d0 d1 d2 z1 z2 hbw hbel
              go_loopw [10, 11, 12, 14, 97] (fun v10 v11 v12 _ q wq => ∃ (i : Nat), i ≤ x.bkn ∧ q = .int .i64 i ∧ v10 = .int .i64 (cnt (fun i => On x k i ∧ 0 < (x.bk i).len) i : Nat) ∧ v11 = .int .i64 (cnt (fun i => On x k i ∧ 0 < (x.bk i).cl) i : Nat) ∧ v12 = .int .i64 (cnt (On x k) i : Nat) ∧ (∀ j, j < i → On x k j → StandsB s l (x.bk j)) ∧ Below X.heap.size X wq) (fun _ _ _ _ q _ => x.bkn - (intOf q).toNat)
              case atStart => exact ⟨0, Nat.zero_le _, rfl, rfl, rfl, rfl, fun j hj => by omega, Below.refl _ _⟩
              case round =>
                obtain ⟨i, hi, rfl, rfl, rfl, rfl, hall, hbel⟩ := hrel
                have HW : Hid (∀ j, j < i → On x k j → StandsB s l (x.bk j)) := hall
                clear hall
                have hbw := after (after hb1 hbx) hbel
                obtain ⟨m0, hm0⟩ : ∃ m, m = cnt (fun i => On x k i ∧ 0 < (x.bk i).len) i := ⟨_, rfl⟩
                have hml0 : m0 ≤ i := by rw [hm0]; exact cnt_le _ _
                have HM0 : Hid (m0 = cnt (fun i => On x k i ∧ 0 < (x.bk i).len) i) := hm0
                rw [← hm0]
                clear hm0
                obtain ⟨m1, hm1⟩ : ∃ m, m = cnt (fun i => On x k i ∧ 0 < (x.bk i).cl) i := ⟨_, rfl⟩
                have hml1 : m1 ≤ i := by rw [hm1]; exact cnt_le _ _
                have HM1 : Hid (m1 = cnt (fun i => On x k i ∧ 0 < (x.bk i).cl) i) := hm1
                rw [← hm1]
                clear hm1
                obtain ⟨m2, hm2⟩ : ∃ m, m = cnt (On x k) i := ⟨_, rfl⟩
                have hml2 : m2 ≤ i := by rw [hm2]; exact cnt_le _ _
                have HM2 : Hid (m2 = cnt (On x k) i) := hm2
                rw [← hm2]
                clear hm2
                by_cases hlt2 : i < x.bkn
                · obtain ⟨C, hC, hI⟩ := HBK.out
                  obtain ⟨bb, bo, rfl, hc⟩ := hC i hlt2
                  obtain ⟨alg, clg, eC, hlg, slg⟩ := hI i hlt2
                  obtain ⟨b, hb⟩ : ∃ b, b = x.bk i := ⟨_, rfl⟩
                  rw [← hb] at eC hlg slg
                  have HBB : Hid (b = x.bk i) := hb
                  have HLG : Hid (IntsAt w alg b.lgn b.lg) := hlg
                  have HBS : Hid (Book.Short b 1048576) := by rw [hb]; exact HSH.out.2.2.2 i hlt2
                  have lbb : bb < w.heap.size := World.block_lt_of_cell? w _ (hc 0 (by decide))
                  have c0 : wr.cell? ⟨bb, bo + i * 13, none⟩ = some (.int .i64 b.name) := (hbw.cell (p := ⟨bb, bo + i * 13, none⟩) lbb).trans (by have := hc 0 (by decide); rw [eC] at this; exact this)
                  have c1 : wr.cell? ⟨bb, bo + i * 13 + 1, none⟩ = some (.int .i64 b.who) := (hbw.cell (p := ⟨bb, bo + i * 13 + 1, none⟩) lbb).trans (by have := hc 1 (by decide); rw [eC] at this; exact this)
                  have c2 : wr.cell? ⟨bb, bo + i * 13 + 2, none⟩ = some (.string b.own) := (hbw.cell (p := ⟨bb, bo + i * 13 + 2, none⟩) lbb).trans (by have := hc 2 (by decide); rw [eC] at this; exact this)
                  have c3 : wr.cell? ⟨bb, bo + i * 13 + 3, none⟩ = some (.slice alg b.lgn clg) := (hbw.cell (p := ⟨bb, bo + i * 13 + 3, none⟩) lbb).trans (by have := hc 3 (by decide); rw [eC] at this; exact this)
                  have c4 : wr.cell? ⟨bb, bo + i * 13 + 4, none⟩ = some (.int .i64 b.pe) := (hbw.cell (p := ⟨bb, bo + i * 13 + 4, none⟩) lbb).trans (by have := hc 4 (by decide); rw [eC] at this; exact this)
                  have c5 : wr.cell? ⟨bb, bo + i * 13 + 5, none⟩ = some (.int .i64 b.len) := (hbw.cell (p := ⟨bb, bo + i * 13 + 5, none⟩) lbb).trans (by have := hc 5 (by decide); rw [eC] at this; exact this)
                  have c6 : wr.cell? ⟨bb, bo + i * 13 + 6, none⟩ = some (.int .i64 b.hei) := (hbw.cell (p := ⟨bb, bo + i * 13 + 6, none⟩) lbb).trans (by have := hc 6 (by decide); rw [eC] at this; exact this)
                  have c7 : wr.cell? ⟨bb, bo + i * 13 + 7, none⟩ = some (.int .i64 b.cl) := (hbw.cell (p := ⟨bb, bo + i * 13 + 7, none⟩) lbb).trans (by have := hc 7 (by decide); rw [eC] at this; exact this)
                  have c8 : wr.cell? ⟨bb, bo + i * 13 + 8, none⟩ = some (.bool b.all) := (hbw.cell (p := ⟨bb, bo + i * 13 + 8, none⟩) lbb).trans (by have := hc 8 (by decide); rw [eC] at this; exact this)
                  have c9 : wr.cell? ⟨bb, bo + i * 13 + 9, none⟩ = some (.int .i64 b.be) := (hbw.cell (p := ⟨bb, bo + i * 13 + 9, none⟩) lbb).trans (by have := hc 9 (by decide); rw [eC] at this; exact this)
                  have c10 : wr.cell? ⟨bb, bo + i * 13 + 10, none⟩ = some (.int .i64 b.state) := (hbw.cell (p := ⟨bb, bo + i * 13 + 10, none⟩) lbb).trans (by have := hc 10 (by decide); rw [eC] at this; exact this)
                  have c11 : wr.cell? ⟨bb, bo + i * 13 + 11, none⟩ = some (.int .i64 b.unt) := (hbw.cell (p := ⟨bb, bo + i * 13 + 11, none⟩) lbb).trans (by have := hc 11 (by decide); rw [eC] at this; exact this)
                  have c12 : wr.cell? ⟨bb, bo + i * 13 + 12, none⟩ = some (.int .i64 b.price) := (hbw.cell (p := ⟨bb, bo + i * 13 + 12, none⟩) lbb).trans (by have := hc 12 (by decide); rw [eC] at this; exact this)
                  clear hC hI hc eC hb hlg slg
                  go_wp2_with fail
                  have bB := heap_alloc_new wr (.cells #[.int .i64 b.name, .int .i64 b.who, .string b.own, .slice alg b.lgn clg, .int .i64 b.pe, .int .i64 b.len, .int .i64 b.hei, .int .i64 b.cl, .bool b.all, .int .i64 b.be, .int .i64 b.state, .int .i64 b.unt, .int .i64 b.price] 72)
                  have hbq : Below X.heap.size X (wr.alloc (.cells #[.int .i64 b.name, .int .i64 b.who, .string b.own, .slice alg b.lgn clg, .int .i64 b.pe, .int .i64 b.len, .int .i64 b.hei, .int .i64 b.cl, .bool b.all, .int .i64 b.be, .int .i64 b.state, .int .i64 b.unt, .int .i64 b.price] 72)) := push hbel _
                  generalize wr.alloc (.cells #[.int .i64 b.name, .int .i64 b.who, .string b.own, .slice alg b.lgn clg, .int .i64 b.pe, .int .i64 b.len, .int .i64 b.hei, .int .i64 b.cl, .bool b.all, .int .i64 b.be, .int .i64 b.state, .int .i64 b.unt, .int .i64 b.price] 72) = Y at bB hbq ⊢
                  generalize wr.heap.size = bbx at bB ⊢
                  clear c0 c1 c2 c3 c4 c5 c6 c7 c8 c9 c10 c11 c12 hbel hbw
                  refine (l7Live_any b alg clg _).mono ?_
                  rintro e Y1 ⟨rfl, hby⟩
                  have bB1 := blk_below bB hby
                  have hbq1 := after hbq hby
                  clear bB hbq hby
                  obtain ⟨t1, ht1⟩ : ∃ t, t = decide (Live b) := ⟨_, rfl⟩
                  rw [← ht1]
                  have HT1 : Hid (t1 = true ↔ Live b) := by show t1 = true ↔ Live b; rw [ht1, decide_eq_true_eq]
                  clear ht1
                  cases t1 with
                  | false =>
                    have HN : Hid (¬ On x k i) := fun h => by unfold On at h; rw [← HBB.out, ← HSD.out] at h; have := HT1.out.2 h.1; cases this
                    go_wp2
                    go_roundw
                    case rel => exact ⟨i + 1, by omega, by go_num, by rw [cnt_no (fun h => HN.out h.1), ← HM0.out], by rw [cnt_no (fun h => HN.out h.1), ← HM1.out], by rw [cnt_no HN.out, ← HM2.out], fun j hj ho => by
                      by_cases e : j = i
                      · subst e; exact absurd ho HN.out
                      · exact HW.out j (by omega) ho, hbq1⟩
                    case measure => simp [intOf]; omega
                  | true =>
                    have HLV : Hid (Live b) := HT1.out.1 rfl
                    clear HT1
                    have y3 := blk_cell bB1 3 _ rfl
                    have s0 := blk_cell (blk_below bS hbq1) 0 _ rfl
                    go_wp2_with fail
                    refine (l1Has_any alg b.lgn clg b.lg s.id _ HBS.out.2 (HLG.out.below (after (after hb1 hbx) hbq1))).mono ?_
                    rintro e Y2 ⟨⟨t2, rfl, ht2⟩, hw2⟩
                    have hw2 := hw2.symm
                    subst hw2
                    have HT2 : Hid (t2 = true ↔ HasLeg b s.id) := ht2
                    clear ht2 y3 s0
                    cases t2 with
                    | false =>
                      have HN : Hid (¬ On x k i) := fun h => by unfold On at h; rw [← HBB.out, ← HSD.out] at h; have := HT2.out.2 h.2; cases this
                      go_wp2
                      go_roundw
                      case rel => exact ⟨i + 1, by omega, by go_num, by rw [cnt_no (fun h => HN.out h.1), ← HM0.out], by rw [cnt_no (fun h => HN.out h.1), ← HM1.out], by rw [cnt_no HN.out, ← HM2.out], fun j hj ho => by
                        by_cases e : j = i
                        · subst e; exact absurd ho HN.out
                        · exact HW.out j (by omega) ho, hbq1⟩
                      case measure => simp [intOf]; omega
                    | true =>
                      have HON : Hid (On x k i) := by show On x k i; unfold On; rw [← HBB.out, ← HSD.out]; exact ⟨HLV.out, HT2.out.1 rfl⟩
                      clear HT2 HLV
                      have y0 := blk_cell bB1 0 _ rfl
                      have y1 := blk_cell bB1 1 _ rfl
                      have y2 := blk_cell bB1 2 _ rfl
                      have y3 := blk_cell bB1 3 _ rfl
                      have y4 := blk_cell bB1 4 _ rfl
                      have y5 := blk_cell bB1 5 _ rfl
                      have y6 := blk_cell bB1 6 _ rfl
                      have y7 := blk_cell bB1 7 _ rfl
                      have y8 := blk_cell bB1 8 _ rfl
                      have y9 := blk_cell bB1 9 _ rfl
                      have y10 := blk_cell bB1 10 _ rfl
                      have y11 := blk_cell bB1 11 _ rfl
                      have y12 := blk_cell bB1 12 _ rfl
                      have s0 := blk_cell (blk_below bS hbq1) 0 _ rfl
                      have s1 := blk_cell (blk_below bS hbq1) 1 _ rfl
                      have s2 := blk_cell (blk_below bS hbq1) 2 _ rfl
                      have s3 := blk_cell (blk_below bS hbq1) 3 _ rfl
                      have s4 := blk_cell (blk_below bS hbq1) 4 _ rfl
                      have s5 := blk_cell (blk_below bS hbq1) 5 _ rfl
                      have s6 := blk_cell (blk_below bS hbq1) 6 _ rfl
                      have s7 := blk_cell (blk_below bS hbq1) 7 _ rfl
                      have l0 := blk_cell (blk_below bL hbq1) 0 _ rfl
                      have l1 := blk_cell (blk_below bL hbq1) 1 _ rfl
                      have l2 := blk_cell (blk_below bL hbq1) 2 _ rfl
                      have hbz := after (after hb1 hbx) hbq1
                      go_wp2_with fail
                      refine (l7Stands_any s la ca lc cc l ast aro ase cst cro cse b alg clg _ HLS.out.1 HLS.out.2.1 HLS.out.2.2 (HCA.out.below hbz) (HST.out.below hbz) (HRO.out.below hbz) (HSE.out.below hbz) HCB.out).mono ?_
                      rintro e Y3 ⟨⟨t3, rfl, ht3⟩, hby⟩
                      have HT3 : Hid (t3 = true ↔ StandsB s l b) := ht3
                      have bB2 := blk_below bB1 hby
                      have hbq2 := after hbq1 hby
                      clear ht3 y0 y1 y2 y3 y4 y5 y6 y7 y8 y9 y10 y11 y12 s0 s1 s2 s3 s4 s5 s6 s7 l0 l1 l2 bB1 hbq1 hby hbz
                      cases t3 with
                      | false =>
                        have HN : Hid (¬ OffOk x) := fun h => by have h := (h.2.2.2.2.2 k hlt).1 i hlt2 HON.out; rw [← HBB.out, ← HSD.out, ← HLL.out] at h; have := HT3.out.2 h; cases this
                        go_wp2
                        go_ret
                        exact ⟨says_no HN.out, after (after hb1 hbx) hbq2⟩
                      | true =>
                        have HST3 : Hid (StandsB s l (x.bk i)) := by show StandsB s l (x.bk i); rw [← HBB.out]; exact HT3.out.1 rfl
                        clear HT3
                        have y5 := blk_cell bB2 5 _ rfl
                        have y7 := blk_cell bB2 7 _ rfl
                        have hwm0 : IntKind.i64.wrap ((m0 : Int) + 1) = (m0 : Int) + 1 := by rw [IntKind.wrap_i64]; omega
                        have hwm1 : IntKind.i64.wrap ((m1 : Int) + 1) = (m1 : Int) + 1 := by rw [IntKind.wrap_i64]; omega
                        have hwm2 : IntKind.i64.wrap ((m2 : Int) + 1) = (m2 : Int) + 1 := by rw [IntKind.wrap_i64]; omega
                        by_cases u1 : 0 < b.len
                        · have u1' : decide (0 < b.len) = true := decide_eq_true u1
                          have HU1 : Hid (0 < b.len) := u1
                          clear u1
                          by_cases u2 : 0 < b.cl
                          · have u2' : decide (0 < b.cl) = true := decide_eq_true u2
                            have HU2 : Hid (0 < b.cl) := u2
                            clear u2
                            go_wp2
                            go_roundw
                            case rel => exact ⟨i + 1, by omega, by go_num, by rw [cnt_yes ⟨HON.out, by rw [← HBB.out]; exact HU1.out⟩, ← HM0.out]; simp, by rw [cnt_yes ⟨HON.out, by rw [← HBB.out]; exact HU2.out⟩, ← HM1.out]; simp, by rw [cnt_yes HON.out, ← HM2.out]; simp, fun j hj ho => by
                              by_cases e : j = i
                              · subst e; exact HST3.out
                              · exact HW.out j (by omega) ho, hbq2⟩
                            case measure => simp [intOf]; omega
                          · have u2' : decide (0 < b.cl) = false := decide_eq_false u2
                            have HU2 : Hid (¬ 0 < b.cl) := u2
                            clear u2
                            go_wp2
                            go_roundw
                            case rel => exact ⟨i + 1, by omega, by go_num, by rw [cnt_yes ⟨HON.out, by rw [← HBB.out]; exact HU1.out⟩, ← HM0.out]; simp, by rw [cnt_no (fun h => by have h1 := h.2; rw [← HBB.out] at h1; have h2 := HU2.out; omega), ← HM1.out], by rw [cnt_yes HON.out, ← HM2.out]; simp, fun j hj ho => by
                              by_cases e : j = i
                              · subst e; exact HST3.out
                              · exact HW.out j (by omega) ho, hbq2⟩
                            case measure => simp [intOf]; omega
                        · have u1' : decide (0 < b.len) = false := decide_eq_false u1
                          have HU1 : Hid (¬ 0 < b.len) := u1
                          clear u1
                          by_cases u2 : 0 < b.cl
                          · have u2' : decide (0 < b.cl) = true := decide_eq_true u2
                            have HU2 : Hid (0 < b.cl) := u2
                            clear u2
                            go_wp2
                            go_roundw
                            case rel => exact ⟨i + 1, by omega, by go_num, by rw [cnt_no (fun h => by have h1 := h.2; rw [← HBB.out] at h1; have h2 := HU1.out; omega), ← HM0.out], by rw [cnt_yes ⟨HON.out, by rw [← HBB.out]; exact HU2.out⟩, ← HM1.out]; simp, by rw [cnt_yes HON.out, ← HM2.out]; simp, fun j hj ho => by
                              by_cases e : j = i
                              · subst e; exact HST3.out
                              · exact HW.out j (by omega) ho, hbq2⟩
                            case measure => simp [intOf]; omega
                          · have u2' : decide (0 < b.cl) = false := decide_eq_false u2
                            have HU2 : Hid (¬ 0 < b.cl) := u2
                            clear u2
                            go_wp2
                            go_roundw
                            case rel => exact ⟨i + 1, by omega, by go_num, by rw [cnt_no (fun h => by have h1 := h.2; rw [← HBB.out] at h1; have h2 := HU1.out; omega), ← HM0.out], by rw [cnt_no (fun h => by have h1 := h.2; rw [← HBB.out] at h1; have h2 := HU2.out; omega), ← HM1.out], by rw [cnt_yes HON.out, ← HM2.out]; simp, fun j hj ho => by
                              by_cases e : j = i
                              · subst e; exact HST3.out
                              · exact HW.out j (by omega) ho, hbq2⟩
                            case measure => simp [intOf]; omega
                · obtain rfl : i = x.bkn := by omega
                  have l0 := blk_cell (blk_below bL hbel) 0 _ rfl
                  have l1 := blk_cell (blk_below bL hbel) 1 _ rfl
                  have l2 := blk_cell (blk_below bL hbel) 2 _ rfl
                  have HTL : Hid (Tallies x k ↔ l.stn = m0 ∧ l.ron = m1 ∧ l.sen = m2) := by
                    show Tallies x k ↔ l.stn = m0 ∧ l.ron = m1 ∧ l.sen = m2
                    unfold Tallies
                    rw [← HSD.out, ← HLL.out, HM0.out, HM1.out, HM2.out]
                    exact ⟨fun h => h.2, fun h => ⟨HW.out, h⟩⟩
                  have HBQ : Hid (Below V.heap.size V wr) := after hbx hbel
                  clear hbel HM0 HM1 HM2 HW
                  by_cases v1 : l.stn = m0
                  case neg =>
                    have e1 : ((l.stn : Int) != (m0 : Int)) = true := by simp; omega
                    have HN : Hid (¬ OffOk x) := fun h => v1 (HTL.out.1 (h.2.2.2.2.2 k hlt)).1
                    clear v1
                    go_wp2
                    go_ret
                    exact ⟨says_no HN.out, after hb1 HBQ.out⟩
                  have e1 : ((l.stn : Int) != (m0 : Int)) = false := by simp; omega
                  by_cases v2 : l.ron = m1
                  case neg =>
                    have e2 : ((l.ron : Int) != (m1 : Int)) = true := by simp; omega
                    have HN : Hid (¬ OffOk x) := fun h => v2 (HTL.out.1 (h.2.2.2.2.2 k hlt)).2.1
                    clear v1 v2
                    go_wp2
                    go_ret
                    exact ⟨says_no HN.out, after hb1 HBQ.out⟩
                  have e2 : ((l.ron : Int) != (m1 : Int)) = false := by simp; omega
                  by_cases v3 : l.sen = m2
                  case neg =>
                    have e3 : ((l.sen : Int) != (m2 : Int)) = true := by simp; omega
                    have HN : Hid (¬ OffOk x) := fun h => v3 (HTL.out.1 (h.2.2.2.2.2 k hlt)).2.2
                    clear v1 v2 v3
                    go_wp2
                    go_ret
                    exact ⟨says_no HN.out, after hb1 HBQ.out⟩
                  have e3 : ((l.sen : Int) != (m2 : Int)) = false := by simp; omega
                  have HTY : Hid (Tallies x k) := HTL.out.2 ⟨v1, v2, v3⟩
                  clear v1 v2 v3 HTL
                  go_wp2
                  go_roundw
                  case rel => exact ⟨k + 1, by omega, by go_num, fun j hj => by
                    by_cases e : j = k
                    · subst e; exact HTY.out
                    · exact HA.out j (by omega), HBQ.out⟩
                  case measure => simp [intOf]; omega
            · obtain rfl : k = x.san := by omega
              have HY : Hid (OffOk x) := ⟨HTAB.out, HM1.out, HM2.out, HL1.out, HL2.out, HA.out⟩
              clear HA
              go_wp2
              go_ret
              exact ⟨says_yes HY.out, hbw⟩
open Classical in
noncomputable instance (x : Off) : Decidable (OffOk x) := propDecidable _
theorem says_decide {P : Prop} [Decidable P] {e : Ending} (h : SaysIf P e) : e = .returned (.bool (decide P)) := by
  obtain ⟨b, rfl, hb⟩ := h
  congr 2
  rw [Bool.eq_iff_iff, hb, decide_eq_true_eq]
theorem specOffice_any (cs : List Value) (x : Off) (w : World) (hs : Off.Short x 1048576) (h : Off.Is w cs x) :
    Calls Tryz.prog 16 #[.agg cs.toArray] w fun e w' => e = .returned (.bool (decide (OffOk x))) ∧ Below w.heap.size w w' := by
  obtain ⟨asa, csa, ald, cld, abk, cbk, rfl, h1, s1, h2, s2, h3, s3⟩ := h
  exact (specOff_raw x asa ald abk csa cld cbk w hs h1 h2 h3 s3.1).mono fun _ _ ⟨a, b⟩ => ⟨says_decide a, b⟩
end Go.Proofs.YtlelckbeoclhbaaGreat
