/-
  OWN TEXT: SameA, ClerkI.
-/
import Derived.Deep.DeepCutAuto
import Derived.Deep.RegionHeld3
import Derived.Laws.Cover1
import Derived.Test.YtogbaoggebghdaaB04
import Derived.Test.YtogbaoggebghdaaB21
import Derived.Test.YtogbaoggebghdaaB10
namespace Go.Proofs.Ytogbaoggebghdaa
open Go.RowKit Classical

def AnsSame (a b : AnsD) : Prop := a.code = b.code ∧ a.anam = b.anam ∧ a.price = b.price ∧ rowsAlike a.rwn b.rwn a.rw b.rw

set_option maxHeartbeats 1600000 in
set_option maxRecDepth 100000 in
theorem sameAnswer_raw (c1 n1 p1 : Int) (ao : Option Addr) (rn rc : Nat) (S : Nat → MRow) (c2 n2 p2 : Int) (bo : Option Addr) (rm rd : Nat) (T : Nat → MRow) (w : World) (hn : rn ≤ 1048576) (hm : rm ≤ 1048576) (hx : MRowsAt w ao rn S) (hy : MRowsAt w bo rm T) :
    Calls Try.prog 71 #[.agg #[.int .i64 c1, .int .i64 n1, .int .i64 p1, .slice ao rn rc], .agg #[.int .i64 c2, .int .i64 n2, .int .i64 p2, .slice bo rm rd]] w fun e w' => e = .returned (.bool (decide (AnsSame ⟨c1, n1, p1, rn, S⟩ ⟨c2, n2, p2, rm, T⟩))) ∧ Below w.heap.size w w' := by
  have hb0 : Below w.heap.size w ((w.alloc (.cells #[.int .i64 c1, .int .i64 n1, .int .i64 p1, .slice ao rn rc] 28)).alloc (.cells #[.int .i64 c2, .int .i64 n2, .int .i64 p2, .slice bo rm rd] 28)) := push (push (Below.refl _ _) _) _
  by_cases h1 : c1 = c2
  case neg =>
    have e1 : decide (AnsSame ⟨c1, n1, p1, rn, S⟩ ⟨c2, n2, p2, rm, T⟩) = false := decide_eq_false (fun h => h1 h.1)
    rw [e1]
    have e2 : (c1 = c2) = False := eq_false h1
    go_enter Try.func71, Try.ntmps71
    go_wp2
    go_ret
    exact ⟨rfl, hb0⟩
  subst h1
  by_cases h2 : n1 = n2
  case neg =>
    have e1 : decide (AnsSame ⟨c1, n1, p1, rn, S⟩ ⟨c1, n2, p2, rm, T⟩) = false := decide_eq_false (fun h => h2 h.2.1)
    rw [e1]
    have e2 : (n1 = n2) = False := eq_false h2
    go_enter Try.func71, Try.ntmps71
    go_wp2
    go_ret
    exact ⟨rfl, hb0⟩
  subst h2
  by_cases h3 : p1 = p2
  case neg =>
    have e1 : decide (AnsSame ⟨c1, n1, p1, rn, S⟩ ⟨c1, n1, p2, rm, T⟩) = false := decide_eq_false (fun h => h3 h.2.2.1)
    rw [e1]
    have e2 : (p1 = p2) = False := eq_false h3
    go_enter Try.func71, Try.ntmps71
    go_wp2
    go_ret
    exact ⟨rfl, hb0⟩
  subst h3
  have e1 : decide (AnsSame ⟨c1, n1, p1, rn, S⟩ ⟨c1, n1, p1, rm, T⟩) = decide (rowsAlike rn rm S T) := by rw [decide_eq_decide]; exact ⟨fun h => h.2.2.2, fun h => ⟨rfl, rfl, rfl, h⟩⟩
  rw [e1]
  clear e1
  obtain ⟨q, hq⟩ : ∃ q : Bool, q = decide (rowsAlike rn rm S T) := ⟨_, rfl⟩
  rw [← hq]
  have HQ : Hid (q = decide (rowsAlike rn rm S T)) := hq
  clear hq
  go_enter Try.func71, Try.ntmps71
  go_wp2_with fail
  refine (equalRow_any ao bo rn rc rm rd S T _ hn hm (hx.below hb0) (hy.below hb0)).mono ?_
  rintro e w1 ⟨he, hb1⟩
  rw [← HQ.out] at he
  subst he
  go_wp2
  go_ret
  exact ⟨rfl, after hb0 hb1⟩

end Go.Proofs.Ytogbaoggebghdaa

namespace Go.Proofs.Ytogbaoggebghdaa
open Go.RowKit Classical

theorem isRequest_is (z : Int) (w : World) : Calls Try.prog 68 #[.int .i64 z] w fun e w' => e = .returned (.bool (decide (In z 1 1000000))) ∧ w' = w := by
  go_enter Try.func68, Try.ntmps68
  go_wp2_with fail
  refine (within_is z 1 1000000 _).mono ?_
  rintro e w1 ⟨rfl, rfl⟩
  go_wp2
  go_ret
  exact ⟨rfl, rfl⟩

def ClerkGood (c : ClkD) : Prop := IsName c.nam ∧ In c.num 1 1000000 ∧ (c.opn = true → AnsZero c)

set_option maxHeartbeats 3200000 in
set_option maxRecDepth 100000 in
theorem good_any (c : ClkD) (arw : Option Addr) (crw : Nat) (w : World) (hsz : c.nam.size ≤ 1048576) (hrn : c.rwn ≤ 1048576) (hrw : MRowsAt w arw c.rwn c.rw) :
    Calls Try.prog 54 #[.agg #[.string c.nam, .int .i64 c.num, .bool c.opn, .int .i64 c.code, .int .i64 c.anam, .int .i64 c.price, .slice arw c.rwn crw]] w fun e w' => e = .returned (.bool (decide (ClerkGood c))) ∧ Below w.heap.size w w' := by
  obtain ⟨q, hq⟩ : ∃ q : Bool, q = decide (ClerkGood c) := ⟨_, rfl⟩
  have HQ : Hid (q = true ↔ ClerkGood c) := by rw [hq]; exact decide_eq_true_iff
  rw [← hq]
  clear hq
  have hb0 : Below w.heap.size w (w.alloc (.cells #[.string c.nam, .int .i64 c.num, .bool c.opn, .int .i64 c.code, .int .i64 c.anam, .int .i64 c.price, .slice arw c.rwn crw] 68)) := push (Below.refl _ _) _
  by_cases hn : IsName c.nam
  case neg =>
    have hf : q = false := Bool.eq_false_iff.2 (fun h => hn (HQ.out.1 h).1)
    subst hf
    go_enter Try.func54, Try.ntmps54
    go_wp2_with fail
    refine (isName_is c.nam _ (by omega)).mono ?_
    rintro e w1 ⟨he, rfl⟩
    rw [decide_eq_false hn] at he
    subst he
    go_wp2
    go_ret
    exact ⟨rfl, hb0⟩
  by_cases hi : In c.num 1 1000000
  case neg =>
    have hf : q = false := Bool.eq_false_iff.2 (fun h => hi (HQ.out.1 h).2.1)
    subst hf
    go_enter Try.func54, Try.ntmps54
    go_wp2_with fail
    refine (isName_is c.nam _ (by omega)).mono ?_
    rintro e w1 ⟨he, rfl⟩
    rw [decide_eq_true hn] at he
    subst he
    go_wp2_with fail
    refine (isRequest_is c.num _).mono ?_
    rintro e w1 ⟨he, rfl⟩
    rw [decide_eq_false hi] at he
    subst he
    go_wp2
    go_ret
    exact ⟨rfl, hb0⟩
  cases hop : c.opn with
  | false =>
    have ht : q = true := HQ.out.2 ⟨hn, hi, fun h => by rw [hop] at h; cases h⟩
    subst ht
    rw [hop] at hb0
    go_enter Try.func54, Try.ntmps54
    go_wp2_with fail
    refine (isName_is c.nam _ (by omega)).mono ?_
    rintro e w1 ⟨he, rfl⟩
    rw [decide_eq_true hn] at he
    subst he
    go_wp2_with fail
    refine (isRequest_is c.num _).mono ?_
    rintro e w1 ⟨he, rfl⟩
    rw [decide_eq_true hi] at he
    subst he
    go_wp2
    go_ret
    exact ⟨rfl, hb0⟩
  | true =>
    have HE : Hid (q = decide (AnsSame ⟨c.code, c.anam, c.price, c.rwn, c.rw⟩ ⟨0, 0, 0, 0, c.rw⟩)) := by
      show q = _
      rw [Bool.eq_iff_iff, HQ.out, decide_eq_true_eq]
      constructor
      · rintro ⟨_, _, h⟩
        obtain ⟨h1, h2, h3, h4⟩ := h hop
        exact ⟨h1, h2, h3, h4, fun i hi => absurd hi (by rw [h4]; exact Nat.not_lt_zero i)⟩
      · rintro ⟨h1, h2, h3, h4, _⟩
        exact ⟨hn, hi, fun _ => ⟨h1, h2, h3, h4⟩⟩
    rw [hop] at hb0
    go_enter Try.func54, Try.ntmps54
    go_wp2_with fail
    refine (isName_is c.nam _ (by omega)).mono ?_
    rintro e w1 ⟨he, rfl⟩
    rw [decide_eq_true hn] at he
    subst he
    go_wp2_with fail
    refine (isRequest_is c.num _).mono ?_
    rintro e w1 ⟨he, rfl⟩
    rw [decide_eq_true hi] at he
    subst he
    go_wp2_with fail
    refine (sameAnswer_raw c.code c.anam c.price arw c.rwn crw c.rw 0 0 0 none 0 0 c.rw _ hrn (by omega) (hrw.below hb0) (fun j hj => absurd hj (Nat.not_lt_zero j))).mono ?_
    rintro e w1 ⟨he, hb1⟩
    rw [← HE.out] at he
    subst he
    go_wp2
    go_ret
    exact ⟨rfl, after hb0 hb1⟩

set_option maxHeartbeats 6400000 in
set_option maxRecDepth 100000 in
theorem implGoodC_any (ao : Option Addr) (N c : Nat) (S : Nat → ClkD) (w : World) (hN : N ≤ 1048576) (hs : ClkDsShort N S 1048576) (hx : ClkDsAt w ao N S) :
    Calls Try.prog 17 #[.slice ao N c] w fun e w' => e = .returned (.bool (clerksOk N S)) ∧ Below w.heap.size w w' := by
  obtain ⟨q, hq⟩ : ∃ q : Bool, q = clerksOk N S := ⟨_, rfl⟩
  have HQ : Hid (q = true ↔ ClerksOk N S) := by rw [hq]; exact decide_eq_true_iff
  rw [← hq]
  clear hq
  have HX : Hid (ClkDsAt w ao N S) := hx
  have HS : Hid (ClkDsShort N S 1048576) := hs
  clear hx hs
  by_cases h20 : N ≤ 20
  case neg =>
    have hf : q = false := Bool.eq_false_iff.2 (fun h => h20 (HQ.out.1 h).1)
    have hh : decide ((20 : Int) < (N : Int)) = true := by simp; omega
    subst hf
    go_enter Try.func17, Try.ntmps17
    go_wp2
    go_ret
    exact ⟨rfl, Below.refl _ _⟩
  go_enter Try.func17, Try.ntmps17
  go_wp2
  go_loopw [10] (fun i wr => ∃ k : Nat, k ≤ N ∧ i = .int .i64 k ∧ (∀ j, j < k → ClerkOk S j) ∧ Below w.heap.size w wr) (fun i _ => N - (intOf i).toNat)
  case atStart => exact ⟨0, Nat.zero_le _, rfl, fun j hj => absurd hj (Nat.not_lt_zero _), Below.refl _ _⟩
  case round =>
    obtain ⟨k, hk, rfl, hal, hbel⟩ := hrel
    have HA : Hid (∀ j, j < k → ClerkOk S j) := hal
    clear hal
    by_cases hlt : k < N
    case neg =>
      obtain rfl : k = N := by omega
      have hqt : q = true := HQ.out.2 ⟨h20, HA.out⟩
      subst hqt
      go_wp2
      go_ret
      exact ⟨rfl, hbel⟩
    have HNO : Hid (¬ ClerkOk S k → q = false) := fun h => Bool.eq_false_iff.2 (fun e => h ((HQ.out.1 e).2 k hlt))
    obtain ⟨C, hC, hI⟩ := HX.out
    obtain ⟨b, off, ea, hc⟩ := hC k hlt
    obtain ⟨arw, crw, eC, hrw, q1⟩ := hI k hlt
    have l1 : b < w.heap.size := World.block_lt_of_cell? w _ (hc 0 (by decide))
    have HPREV : Hid (0 < k → w.cell? ⟨b, off + (k - 1) * 7, none⟩ = some (.string (S (k - 1)).nam)) := fun h0 => by
      obtain ⟨b', off', ea', hc'⟩ := hC (k - 1) (by omega)
      obtain ⟨_, _, eC', _⟩ := hI (k - 1) (by omega)
      rw [ea] at ea'
      simp only [Option.some.injEq, Addr.mk.injEq] at ea'
      obtain ⟨rfl, rfl, _⟩ := ea'
      have := hc' 0 (by decide)
      rw [eC'] at this
      exact this
    subst ea
    have hsz := (HS.out k hlt).1
    have hrn : (S k).rwn ≤ 1048576 := (HS.out k hlt).2.1
    have c0 : wr.cell? ⟨b, off + k * 7, none⟩ = some (.string (S k).nam) := (hbel.cell (p := ⟨b, off + k * 7, none⟩) l1).trans (by have := hc 0 (by decide); rw [eC] at this; exact this)
    have c1 : wr.cell? ⟨b, off + k * 7 + 1, none⟩ = some (.int .i64 (S k).num) := (hbel.cell (p := ⟨b, off + k * 7 + 1, none⟩) l1).trans (by have := hc 1 (by decide); rw [eC] at this; exact this)
    have c2 : wr.cell? ⟨b, off + k * 7 + 2, none⟩ = some (.bool (S k).opn) := (hbel.cell (p := ⟨b, off + k * 7 + 2, none⟩) l1).trans (by have := hc 2 (by decide); rw [eC] at this; exact this)
    have c3 : wr.cell? ⟨b, off + k * 7 + 3, none⟩ = some (.int .i64 (S k).code) := (hbel.cell (p := ⟨b, off + k * 7 + 3, none⟩) l1).trans (by have := hc 3 (by decide); rw [eC] at this; exact this)
    have c4 : wr.cell? ⟨b, off + k * 7 + 4, none⟩ = some (.int .i64 (S k).anam) := (hbel.cell (p := ⟨b, off + k * 7 + 4, none⟩) l1).trans (by have := hc 4 (by decide); rw [eC] at this; exact this)
    have c5 : wr.cell? ⟨b, off + k * 7 + 5, none⟩ = some (.int .i64 (S k).price) := (hbel.cell (p := ⟨b, off + k * 7 + 5, none⟩) l1).trans (by have := hc 5 (by decide); rw [eC] at this; exact this)
    have c6 : wr.cell? ⟨b, off + k * 7 + 6, none⟩ = some (.slice arw (S k).rwn crw) := (hbel.cell (p := ⟨b, off + k * 7 + 6, none⟩) l1).trans (by have := hc 6 (by decide); rw [eC] at this; exact this)
    have HW : Hid (MRowsAt w arw (S k).rwn (S k).rw) := hrw
    clear hC hI hc eC hrw q1
    go_upto_region 6 with fail
    generalize hG : wr.alloc (.cells #[.string (S k).nam, .int .i64 (S k).num, .bool (S k).opn, .int .i64 (S k).code, .int .i64 (S k).anam, .int .i64 (S k).price, .slice arw (S k).rwn crw] 68) = W at *
    have bC : W.heap[wr.heap.size]? = some (.cells #[.string (S k).nam, .int .i64 (S k).num, .bool (S k).opn, .int .i64 (S k).code, .int .i64 (S k).anam, .int .i64 (S k).price, .slice arw (S k).rwn crw] 68 (0, 0)) := by rw [← hG]; exact heap_alloc_new _ _
    have hbw : Below w.heap.size w W := by rw [← hG]; exact push hbel _
    obtain ⟨cB, hcB⟩ : ∃ u, u = wr.heap.size := ⟨_, rfl⟩
    rw [← hcB] at bC ⊢
    clear hG hcB c0 c1 c2 c3 c4 c5 c6
    have i0 : (0 : Int) ≤ (k : Int) := by omega
    have i2 : (k : Int) < (N : Int) := by omega
    by_cases hk0 : 0 < k
    · have hsz2 := (HS.out (k - 1) (by omega)).1
      by_cases hl : textLt (S (k - 1)).nam (S k).nam
      case neg =>
        have hlb : (Op.bytesLess (S k).nam.toList (S (k - 1)).nam.toList || (S k).nam.toList == (S (k - 1)).nam.toList) = true := by rw [less_tri, Bool.eq_false_iff.2 hl]; rfl
        have zp : ∀ g : Grown W, g.val.cell? ⟨b, off + (k - 1) * 7, none⟩ = some (.string (S (k - 1)).nam) := fun g => ((hbw.trans (g.bel.mono hbw.size)).cell (p := ⟨b, off + (k - 1) * 7, none⟩) l1).trans (HPREV.out hk0)
        have hsub : ((k : Int) - 1).toNat = k - 1 := by omega
        have hd0 : decide ((0 : Int) < (k : Int)) = true := by simp; omega
        have i3 : (0 : Int) ≤ (k : Int) - 1 := by omega
        have i4 : (k : Int) - 1 < (N : Int) := by omega
        have z0 : ∀ g : Grown W, g.val.cell? ⟨cB, 0, none⟩ = some (.string (S k).nam) := fun g => by exact blk_cell (blk_below bC g.bel) 0 _ rfl
        have z1 : ∀ g : Grown W, g.val.cell? ⟨cB, 1, none⟩ = some (.int .i64 (S k).num) := fun g => by exact blk_cell (blk_below bC g.bel) 1 _ rfl
        have z2 : ∀ g : Grown W, g.val.cell? ⟨cB, 2, none⟩ = some (.bool (S k).opn) := fun g => by exact blk_cell (blk_below bC g.bel) 2 _ rfl
        have z3 : ∀ g : Grown W, g.val.cell? ⟨cB, 3, none⟩ = some (.int .i64 (S k).code) := fun g => by exact blk_cell (blk_below bC g.bel) 3 _ rfl
        have z4 : ∀ g : Grown W, g.val.cell? ⟨cB, 4, none⟩ = some (.int .i64 (S k).anam) := fun g => by exact blk_cell (blk_below bC g.bel) 4 _ rfl
        have z5 : ∀ g : Grown W, g.val.cell? ⟨cB, 5, none⟩ = some (.int .i64 (S k).price) := fun g => by exact blk_cell (blk_below bC g.bel) 5 _ rfl
        have z6 : ∀ g : Grown W, g.val.cell? ⟨cB, 6, none⟩ = some (.slice arw (S k).rwn crw) := fun g => by exact blk_cell (blk_below bC g.bel) 6 _ rfl
        have HG : Hid (∀ g : Grown W, Calls Try.prog 54 #[.agg #[.string (S k).nam, .int .i64 (S k).num, .bool (S k).opn, .int .i64 (S k).code, .int .i64 (S k).anam, .int .i64 (S k).price, .slice arw (S k).rwn crw]] g.val fun e w' => e = .returned (.bool (decide (ClerkGood (S k)))) ∧ Below g.val.heap.size g.val w') := fun g => good_any (S k) arw crw g.val hsz hrn ((HW.out.below hbw).below g.bel)
        refine wp_region_grow (by kernel_rfl) (by kernel_rfl) ?_
        repeat (first | go_big_quiet_skip | (go_big_quiet_want; go_big_quiet_op; first | go_big_quiet_on | (apply Exists.intro; refine ⟨fun g => ?_, ?_⟩; (focus (first | (go_at_call 54; (with_reducible refine grown_call (HG.out g))))); go_big_quiet_on)))
        refine wpQuiet_nil ?_
        rintro _ ⟨g, rfl⟩
        clear z0 z1 z2 z3 z4 z5 z6 HG
        have hf : q = false := HNO.out (fun h => hl (h.2.1 hk0))
        subst hf
        go_wp2
        go_ret
        exact ⟨rfl, after hbw g.bel⟩
      have hlb : (Op.bytesLess (S k).nam.toList (S (k - 1)).nam.toList || (S k).nam.toList == (S (k - 1)).nam.toList) = false := by rw [less_tri, show Op.bytesLess (S (k - 1)).nam.toList (S k).nam.toList = true from hl]; rfl
      by_cases hg : ClerkGood (S k)
      · have hgd : decide (ClerkGood (S k)) = true := decide_eq_true hg
        have zp : ∀ g : Grown W, g.val.cell? ⟨b, off + (k - 1) * 7, none⟩ = some (.string (S (k - 1)).nam) := fun g => ((hbw.trans (g.bel.mono hbw.size)).cell (p := ⟨b, off + (k - 1) * 7, none⟩) l1).trans (HPREV.out hk0)
        have hsub : ((k : Int) - 1).toNat = k - 1 := by omega
        have hd0 : decide ((0 : Int) < (k : Int)) = true := by simp; omega
        have i3 : (0 : Int) ≤ (k : Int) - 1 := by omega
        have i4 : (k : Int) - 1 < (N : Int) := by omega
        have z0 : ∀ g : Grown W, g.val.cell? ⟨cB, 0, none⟩ = some (.string (S k).nam) := fun g => by exact blk_cell (blk_below bC g.bel) 0 _ rfl
        have z1 : ∀ g : Grown W, g.val.cell? ⟨cB, 1, none⟩ = some (.int .i64 (S k).num) := fun g => by exact blk_cell (blk_below bC g.bel) 1 _ rfl
        have z2 : ∀ g : Grown W, g.val.cell? ⟨cB, 2, none⟩ = some (.bool (S k).opn) := fun g => by exact blk_cell (blk_below bC g.bel) 2 _ rfl
        have z3 : ∀ g : Grown W, g.val.cell? ⟨cB, 3, none⟩ = some (.int .i64 (S k).code) := fun g => by exact blk_cell (blk_below bC g.bel) 3 _ rfl
        have z4 : ∀ g : Grown W, g.val.cell? ⟨cB, 4, none⟩ = some (.int .i64 (S k).anam) := fun g => by exact blk_cell (blk_below bC g.bel) 4 _ rfl
        have z5 : ∀ g : Grown W, g.val.cell? ⟨cB, 5, none⟩ = some (.int .i64 (S k).price) := fun g => by exact blk_cell (blk_below bC g.bel) 5 _ rfl
        have z6 : ∀ g : Grown W, g.val.cell? ⟨cB, 6, none⟩ = some (.slice arw (S k).rwn crw) := fun g => by exact blk_cell (blk_below bC g.bel) 6 _ rfl
        have HG : Hid (∀ g : Grown W, Calls Try.prog 54 #[.agg #[.string (S k).nam, .int .i64 (S k).num, .bool (S k).opn, .int .i64 (S k).code, .int .i64 (S k).anam, .int .i64 (S k).price, .slice arw (S k).rwn crw]] g.val fun e w' => e = .returned (.bool (decide (ClerkGood (S k)))) ∧ Below g.val.heap.size g.val w') := fun g => good_any (S k) arw crw g.val hsz hrn ((HW.out.below hbw).below g.bel)
        refine wp_region_grow (by kernel_rfl) (by kernel_rfl) ?_
        repeat (first | go_big_quiet_skip | (go_big_quiet_want; go_big_quiet_op; first | go_big_quiet_on | (apply Exists.intro; refine ⟨fun g => ?_, ?_⟩; (focus (first | (go_at_call 54; (with_reducible refine grown_call (HG.out g))))); go_big_quiet_on)))
        refine wpQuiet_nil ?_
        rintro _ ⟨g, rfl⟩
        clear z0 z1 z2 z3 z4 z5 z6 HG
        go_wp2
        go_roundw
        case rel =>
          refine ⟨k + 1, by omega, by go_num, fun j hj => ?_, after hbw g.bel⟩
          by_cases e : j = k
          · subst e; exact ⟨hg.1, fun _ => hl, hg.2.1, hg.2.2⟩
          · exact HA.out j (by omega)
        case measure => simp [intOf]; omega
      · have hgd : decide (ClerkGood (S k)) = false := decide_eq_false hg
        have zp : ∀ g : Grown W, g.val.cell? ⟨b, off + (k - 1) * 7, none⟩ = some (.string (S (k - 1)).nam) := fun g => ((hbw.trans (g.bel.mono hbw.size)).cell (p := ⟨b, off + (k - 1) * 7, none⟩) l1).trans (HPREV.out hk0)
        have hsub : ((k : Int) - 1).toNat = k - 1 := by omega
        have hd0 : decide ((0 : Int) < (k : Int)) = true := by simp; omega
        have i3 : (0 : Int) ≤ (k : Int) - 1 := by omega
        have i4 : (k : Int) - 1 < (N : Int) := by omega
        have z0 : ∀ g : Grown W, g.val.cell? ⟨cB, 0, none⟩ = some (.string (S k).nam) := fun g => by exact blk_cell (blk_below bC g.bel) 0 _ rfl
        have z1 : ∀ g : Grown W, g.val.cell? ⟨cB, 1, none⟩ = some (.int .i64 (S k).num) := fun g => by exact blk_cell (blk_below bC g.bel) 1 _ rfl
        have z2 : ∀ g : Grown W, g.val.cell? ⟨cB, 2, none⟩ = some (.bool (S k).opn) := fun g => by exact blk_cell (blk_below bC g.bel) 2 _ rfl
        have z3 : ∀ g : Grown W, g.val.cell? ⟨cB, 3, none⟩ = some (.int .i64 (S k).code) := fun g => by exact blk_cell (blk_below bC g.bel) 3 _ rfl
        have z4 : ∀ g : Grown W, g.val.cell? ⟨cB, 4, none⟩ = some (.int .i64 (S k).anam) := fun g => by exact blk_cell (blk_below bC g.bel) 4 _ rfl
        have z5 : ∀ g : Grown W, g.val.cell? ⟨cB, 5, none⟩ = some (.int .i64 (S k).price) := fun g => by exact blk_cell (blk_below bC g.bel) 5 _ rfl
        have z6 : ∀ g : Grown W, g.val.cell? ⟨cB, 6, none⟩ = some (.slice arw (S k).rwn crw) := fun g => by exact blk_cell (blk_below bC g.bel) 6 _ rfl
        have HG : Hid (∀ g : Grown W, Calls Try.prog 54 #[.agg #[.string (S k).nam, .int .i64 (S k).num, .bool (S k).opn, .int .i64 (S k).code, .int .i64 (S k).anam, .int .i64 (S k).price, .slice arw (S k).rwn crw]] g.val fun e w' => e = .returned (.bool (decide (ClerkGood (S k)))) ∧ Below g.val.heap.size g.val w') := fun g => good_any (S k) arw crw g.val hsz hrn ((HW.out.below hbw).below g.bel)
        refine wp_region_grow (by kernel_rfl) (by kernel_rfl) ?_
        repeat (first | go_big_quiet_skip | (go_big_quiet_want; go_big_quiet_op; first | go_big_quiet_on | (apply Exists.intro; refine ⟨fun g => ?_, ?_⟩; (focus (first | (go_at_call 54; (with_reducible refine grown_call (HG.out g))))); go_big_quiet_on)))
        refine wpQuiet_nil ?_
        rintro _ ⟨g, rfl⟩
        clear z0 z1 z2 z3 z4 z5 z6 HG
        have hf : q = false := HNO.out (fun h => hg ⟨h.1, h.2.2.1, h.2.2.2⟩)
        subst hf
        go_wp2
        go_ret
        exact ⟨rfl, after hbw g.bel⟩
    · have hd0 : decide ((0 : Int) < (k : Int)) = false := by simp; omega
      by_cases hg : ClerkGood (S k)
      · have hgd : decide (ClerkGood (S k)) = true := decide_eq_true hg
        have z0 : ∀ g : Grown W, g.val.cell? ⟨cB, 0, none⟩ = some (.string (S k).nam) := fun g => by exact blk_cell (blk_below bC g.bel) 0 _ rfl
        have z1 : ∀ g : Grown W, g.val.cell? ⟨cB, 1, none⟩ = some (.int .i64 (S k).num) := fun g => by exact blk_cell (blk_below bC g.bel) 1 _ rfl
        have z2 : ∀ g : Grown W, g.val.cell? ⟨cB, 2, none⟩ = some (.bool (S k).opn) := fun g => by exact blk_cell (blk_below bC g.bel) 2 _ rfl
        have z3 : ∀ g : Grown W, g.val.cell? ⟨cB, 3, none⟩ = some (.int .i64 (S k).code) := fun g => by exact blk_cell (blk_below bC g.bel) 3 _ rfl
        have z4 : ∀ g : Grown W, g.val.cell? ⟨cB, 4, none⟩ = some (.int .i64 (S k).anam) := fun g => by exact blk_cell (blk_below bC g.bel) 4 _ rfl
        have z5 : ∀ g : Grown W, g.val.cell? ⟨cB, 5, none⟩ = some (.int .i64 (S k).price) := fun g => by exact blk_cell (blk_below bC g.bel) 5 _ rfl
        have z6 : ∀ g : Grown W, g.val.cell? ⟨cB, 6, none⟩ = some (.slice arw (S k).rwn crw) := fun g => by exact blk_cell (blk_below bC g.bel) 6 _ rfl
        have HG : Hid (∀ g : Grown W, Calls Try.prog 54 #[.agg #[.string (S k).nam, .int .i64 (S k).num, .bool (S k).opn, .int .i64 (S k).code, .int .i64 (S k).anam, .int .i64 (S k).price, .slice arw (S k).rwn crw]] g.val fun e w' => e = .returned (.bool (decide (ClerkGood (S k)))) ∧ Below g.val.heap.size g.val w') := fun g => good_any (S k) arw crw g.val hsz hrn ((HW.out.below hbw).below g.bel)
        refine wp_region_grow (by kernel_rfl) (by kernel_rfl) ?_
        repeat (first | go_big_quiet_skip | (go_big_quiet_want; go_big_quiet_op; first | go_big_quiet_on | (apply Exists.intro; refine ⟨fun g => ?_, ?_⟩; (focus (first | (go_at_call 54; (with_reducible refine grown_call (HG.out g))))); go_big_quiet_on)))
        refine wpQuiet_nil ?_
        rintro _ ⟨g, rfl⟩
        clear z0 z1 z2 z3 z4 z5 z6 HG
        go_wp2
        go_roundw
        case rel =>
          refine ⟨k + 1, by omega, by go_num, fun j hj => ?_, after hbw g.bel⟩
          by_cases e : j = k
          · subst e; exact ⟨hg.1, fun h => absurd h hk0, hg.2.1, hg.2.2⟩
          · exact HA.out j (by omega)
        case measure => simp [intOf]; omega
      · have hgd : decide (ClerkGood (S k)) = false := decide_eq_false hg
        have z0 : ∀ g : Grown W, g.val.cell? ⟨cB, 0, none⟩ = some (.string (S k).nam) := fun g => by exact blk_cell (blk_below bC g.bel) 0 _ rfl
        have z1 : ∀ g : Grown W, g.val.cell? ⟨cB, 1, none⟩ = some (.int .i64 (S k).num) := fun g => by exact blk_cell (blk_below bC g.bel) 1 _ rfl
        have z2 : ∀ g : Grown W, g.val.cell? ⟨cB, 2, none⟩ = some (.bool (S k).opn) := fun g => by exact blk_cell (blk_below bC g.bel) 2 _ rfl
        have z3 : ∀ g : Grown W, g.val.cell? ⟨cB, 3, none⟩ = some (.int .i64 (S k).code) := fun g => by exact blk_cell (blk_below bC g.bel) 3 _ rfl
        have z4 : ∀ g : Grown W, g.val.cell? ⟨cB, 4, none⟩ = some (.int .i64 (S k).anam) := fun g => by exact blk_cell (blk_below bC g.bel) 4 _ rfl
        have z5 : ∀ g : Grown W, g.val.cell? ⟨cB, 5, none⟩ = some (.int .i64 (S k).price) := fun g => by exact blk_cell (blk_below bC g.bel) 5 _ rfl
        have z6 : ∀ g : Grown W, g.val.cell? ⟨cB, 6, none⟩ = some (.slice arw (S k).rwn crw) := fun g => by exact blk_cell (blk_below bC g.bel) 6 _ rfl
        have HG : Hid (∀ g : Grown W, Calls Try.prog 54 #[.agg #[.string (S k).nam, .int .i64 (S k).num, .bool (S k).opn, .int .i64 (S k).code, .int .i64 (S k).anam, .int .i64 (S k).price, .slice arw (S k).rwn crw]] g.val fun e w' => e = .returned (.bool (decide (ClerkGood (S k)))) ∧ Below g.val.heap.size g.val w') := fun g => good_any (S k) arw crw g.val hsz hrn ((HW.out.below hbw).below g.bel)
        refine wp_region_grow (by kernel_rfl) (by kernel_rfl) ?_
        repeat (first | go_big_quiet_skip | (go_big_quiet_want; go_big_quiet_op; first | go_big_quiet_on | (apply Exists.intro; refine ⟨fun g => ?_, ?_⟩; (focus (first | (go_at_call 54; (with_reducible refine grown_call (HG.out g))))); go_big_quiet_on)))
        refine wpQuiet_nil ?_
        rintro _ ⟨g, rfl⟩
        clear z0 z1 z2 z3 z4 z5 z6 HG
        have hf : q = false := HNO.out (fun h => hg ⟨h.1, h.2.2.1, h.2.2.2⟩)
        subst hf
        go_wp2
        go_ret
        exact ⟨rfl, after hbw g.bel⟩

end Go.Proofs.Ytogbaoggebghdaa
