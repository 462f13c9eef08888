/-
  OWN TEXT: the laws' helpers eq, mark, held over lists that are empty, and over loads whose lists are empty.
-/
import Derived.Test.YtlnadbnoemlpeaaLSails
import Derived.Test.YtlnadbnoemlpeaaKitG
import Derived.Deep.LoopGhost
import Derived.Deep.DeepCutAuto
namespace Go.Proofs.Ytlnadbnoemlpeaa
open Go.RowKit

theorem eqStayS0 (a b : Option Addr) (c d : Nat) (w : World) : Calls Try.prog 63 #[.slice a 0 c, .slice b 0 d] w fun e w' => e = .returned (.bool true) ∧ w' = w := by
  go_enter Try.func63, Try.ntmps63
  go_wp2
  go_loopw [5] (fun i wr => i = .int .i64 0 ∧ wr = w) (fun _ _ => 0)
  case atStart => exact ⟨rfl, rfl⟩
  case round =>
    obtain ⟨rfl, rfl⟩ := hrel
    go_wp2
    go_ret
    exact ⟨rfl, rfl⟩
theorem markStayS0 (a : Option Addr) (c : Nat) (k : Int) (w : World) : Calls Try.prog 44 #[.slice a 0 c, .int .i64 k] w fun e w' => e = .returned (.int .i64 k) ∧ w' = w := by
  go_enter Try.func44, Try.ntmps44
  go_wp2
  go_loopw [1, 5] (fun q i wr => q = .int .i64 k ∧ i = .int .i64 0 ∧ wr = w) (fun _ _ _ => 0)
  case atStart => exact ⟨rfl, rfl, rfl⟩
  case round =>
    obtain ⟨rfl, rfl, rfl⟩ := hrel
    go_wp2
    go_ret
    exact ⟨rfl, rfl⟩
theorem heldStayS0 (a : Option Addr) (c : Nat) (k : Int) (w : World) : Calls Try.prog 50 #[.slice a 0 c, .int .i64 k] w fun e w' => e = .returned (.int .i64 k) ∧ w' = w := by
  go_enter Try.func50, Try.ntmps50
  go_wp2
  go_loopw [1, 5] (fun q i wr => q = .int .i64 k ∧ i = .int .i64 0 ∧ wr = w) (fun _ _ _ => 0)
  case atStart => exact ⟨rfl, rfl, rfl⟩
  case round =>
    obtain ⟨rfl, rfl, rfl⟩ := hrel
    go_wp2
    go_ret
    exact ⟨rfl, rfl⟩

theorem eqRoomS0 (a b : Option Addr) (c d : Nat) (w : World) : Calls Try.prog 64 #[.slice a 0 c, .slice b 0 d] w fun e w' => e = .returned (.bool true) ∧ w' = w := by
  go_enter Try.func64, Try.ntmps64
  go_wp2
  go_loopw [5] (fun i wr => i = .int .i64 0 ∧ wr = w) (fun _ _ => 0)
  case atStart => exact ⟨rfl, rfl⟩
  case round =>
    obtain ⟨rfl, rfl⟩ := hrel
    go_wp2
    go_ret
    exact ⟨rfl, rfl⟩
theorem markRoomS0 (a : Option Addr) (c : Nat) (k : Int) (w : World) : Calls Try.prog 45 #[.slice a 0 c, .int .i64 k] w fun e w' => e = .returned (.int .i64 k) ∧ w' = w := by
  go_enter Try.func45, Try.ntmps45
  go_wp2
  go_loopw [1, 5] (fun q i wr => q = .int .i64 k ∧ i = .int .i64 0 ∧ wr = w) (fun _ _ _ => 0)
  case atStart => exact ⟨rfl, rfl, rfl⟩
  case round =>
    obtain ⟨rfl, rfl, rfl⟩ := hrel
    go_wp2
    go_ret
    exact ⟨rfl, rfl⟩
theorem heldRoomS0 (a : Option Addr) (c : Nat) (k : Int) (w : World) : Calls Try.prog 51 #[.slice a 0 c, .int .i64 k] w fun e w' => e = .returned (.int .i64 k) ∧ w' = w := by
  go_enter Try.func51, Try.ntmps51
  go_wp2
  go_loopw [1, 5] (fun q i wr => q = .int .i64 k ∧ i = .int .i64 0 ∧ wr = w) (fun _ _ _ => 0)
  case atStart => exact ⟨rfl, rfl, rfl⟩
  case round =>
    obtain ⟨rfl, rfl, rfl⟩ := hrel
    go_wp2
    go_ret
    exact ⟨rfl, rfl⟩

theorem eqSeatS0 (a b : Option Addr) (c d : Nat) (w : World) : Calls Try.prog 65 #[.slice a 0 c, .slice b 0 d] w fun e w' => e = .returned (.bool true) ∧ w' = w := by
  go_enter Try.func65, Try.ntmps65
  go_wp2
  go_loopw [5] (fun i wr => i = .int .i64 0 ∧ wr = w) (fun _ _ => 0)
  case atStart => exact ⟨rfl, rfl⟩
  case round =>
    obtain ⟨rfl, rfl⟩ := hrel
    go_wp2
    go_ret
    exact ⟨rfl, rfl⟩
theorem markSeatS0 (a : Option Addr) (c : Nat) (k : Int) (w : World) : Calls Try.prog 46 #[.slice a 0 c, .int .i64 k] w fun e w' => e = .returned (.int .i64 k) ∧ w' = w := by
  go_enter Try.func46, Try.ntmps46
  go_wp2
  go_loopw [1, 5] (fun q i wr => q = .int .i64 k ∧ i = .int .i64 0 ∧ wr = w) (fun _ _ _ => 0)
  case atStart => exact ⟨rfl, rfl, rfl⟩
  case round =>
    obtain ⟨rfl, rfl, rfl⟩ := hrel
    go_wp2
    go_ret
    exact ⟨rfl, rfl⟩
theorem heldSeatS0 (a : Option Addr) (c : Nat) (k : Int) (w : World) : Calls Try.prog 52 #[.slice a 0 c, .int .i64 k] w fun e w' => e = .returned (.int .i64 k) ∧ w' = w := by
  go_enter Try.func52, Try.ntmps52
  go_wp2
  go_loopw [1, 5] (fun q i wr => q = .int .i64 k ∧ i = .int .i64 0 ∧ wr = w) (fun _ _ _ => 0)
  case atStart => exact ⟨rfl, rfl, rfl⟩
  case round =>
    obtain ⟨rfl, rfl, rfl⟩ := hrel
    go_wp2
    go_ret
    exact ⟨rfl, rfl⟩

theorem eqBookingS0 (a b : Option Addr) (c d : Nat) (w : World) : Calls Try.prog 21 #[.slice a 0 c, .slice b 0 d] w fun e w' => e = .returned (.bool true) ∧ w' = w := by
  go_enter Try.func21, Try.ntmps21
  go_wp2
  go_loopw [5] (fun i wr => i = .int .i64 0 ∧ wr = w) (fun _ _ => 0)
  case atStart => exact ⟨rfl, rfl⟩
  case round =>
    obtain ⟨rfl, rfl⟩ := hrel
    go_wp2
    go_ret
    exact ⟨rfl, rfl⟩
theorem markBookingS0 (a : Option Addr) (c : Nat) (k : Int) (w : World) : Calls Try.prog 27 #[.slice a 0 c, .int .i64 k] w fun e w' => e = .returned (.int .i64 k) ∧ w' = w := by
  go_enter Try.func27, Try.ntmps27
  go_wp2
  go_loopw [1, 5] (fun q i wr => q = .int .i64 k ∧ i = .int .i64 0 ∧ wr = w) (fun _ _ _ => 0)
  case atStart => exact ⟨rfl, rfl, rfl⟩
  case round =>
    obtain ⟨rfl, rfl, rfl⟩ := hrel
    go_wp2
    go_ret
    exact ⟨rfl, rfl⟩
theorem heldBookingS0 (a : Option Addr) (c : Nat) (k : Int) (w : World) : Calls Try.prog 30 #[.slice a 0 c, .int .i64 k] w fun e w' => e = .returned (.int .i64 k) ∧ w' = w := by
  go_enter Try.func30, Try.ntmps30
  go_wp2
  go_loopw [1, 5] (fun q i wr => q = .int .i64 k ∧ i = .int .i64 0 ∧ wr = w) (fun _ _ _ => 0)
  case atStart => exact ⟨rfl, rfl, rfl⟩
  case round =>
    obtain ⟨rfl, rfl, rfl⟩ := hrel
    go_wp2
    go_ret
    exact ⟨rfl, rfl⟩

/-- The slice reads as N loads, all of them empty. -/
def Loads0 (w : World) (ao : Option Addr) (N : Nat) : Prop := ∀ k, k < N → ∃ b off a1 c1 a2 c2 a3 c3, ao = some ⟨b, off, none⟩ ∧ w.cell? ⟨b, off + k * 3, none⟩ = some (.slice a1 0 c1) ∧ w.cell? ⟨b, off + k * 3 + 1, none⟩ = some (.slice a2 0 c2) ∧ w.cell? ⟨b, off + k * 3 + 2, none⟩ = some (.slice a3 0 c3)
theorem Loads0.below {w w' : World} {ao : Option Addr} {N : Nat} (h : Loads0 w ao N) (hb : Below w.heap.size w w') : Loads0 w' ao N := by
  intro k hk
  obtain ⟨b, off, a1, c1, a2, c2, a3, c3, e, h0, h1, h2⟩ := h k hk
  have hl : b < w.heap.size := World.block_lt_of_cell? w _ h0
  exact ⟨b, off, a1, c1, a2, c2, a3, c3, e, (hb.cell (p := ⟨b, off + k * 3, none⟩) hl).trans h0, (hb.cell (p := ⟨b, off + k * 3 + 1, none⟩) hl).trans h1, (hb.cell (p := ⟨b, off + k * 3 + 2, none⟩) hl).trans h2⟩

set_option maxHeartbeats 800000 in
theorem eqLoad0 (a1 a2 a3 b1 b2 b3 : Option Addr) (c1 c2 c3 d1 d2 d3 : Nat) (w : World) :
    Calls Try.prog 40 #[.agg #[.slice a1 0 c1, .slice a2 0 c2, .slice a3 0 c3], .agg #[.slice b1 0 d1, .slice b2 0 d2, .slice b3 0 d3]] w fun e w' => e = .returned (.bool true) ∧ Below w.heap.size w w' := by
  go_enter Try.func40, Try.ntmps40
  go_wp2_with (first | (go_at_call 63; refine (eqStayS0 _ _ _ _ _).mono ?_; rintro e w' ⟨rfl, rfl⟩) | (go_at_call 64; refine (eqRoomS0 _ _ _ _ _).mono ?_; rintro e w' ⟨rfl, rfl⟩) | (go_at_call 65; refine (eqSeatS0 _ _ _ _ _).mono ?_; rintro e w' ⟨rfl, rfl⟩))
  go_ret
  exact ⟨rfl, push (push (Below.refl _ _) _) _⟩

set_option maxHeartbeats 1600000 in
set_option maxRecDepth 100000 in
theorem eqLoadS0 (ao bo : Option Addr) (N c d : Nat) (w : World) (hN : N ≤ 1048576) (hx : Loads0 w ao N) (hy : Loads0 w bo N) :
    Calls Try.prog 20 #[.slice ao N c, .slice bo N d] w fun e w' => e = .returned (.bool true) ∧ Below w.heap.size w w' := by
  have HX : Hid (Loads0 w ao N) := hx
  have HY : Hid (Loads0 w bo N) := hy
  clear hx hy
  go_enter Try.func20, Try.ntmps20
  go_wp2
  go_loopw [5] (fun i wr => ∃ k : Nat, k ≤ N ∧ i = .int .i64 k ∧ Below w.heap.size w wr) (fun i _ => N - (intOf i).toNat)
  case atStart => exact ⟨0, Nat.zero_le _, rfl, Below.refl _ _⟩
  case round =>
    obtain ⟨k, hk, rfl, hbel⟩ := hrel
    by_cases hlt : k < N
    · obtain ⟨b, off, a1, c1, a2, c2, a3, c3, rfl, f0, f1, f2⟩ := HX.out k hlt
      obtain ⟨b', off', b1, d1, b2, d2, b3, d3, rfl, g0, g1, g2⟩ := HY.out k hlt
      have lb := World.block_lt_of_cell? w _ f0
      have lb' := World.block_lt_of_cell? w _ g0
      have i1 : (0 : Int) ≤ (k : Int) := by omega
      have i2 : (k : Int) < (N : Int) := by omega
      have z0 : ∀ g : Grown wr, g.val.cell? ⟨b, off + k * 3, none⟩ = _ := fun g => ((after hbel g.bel).cell (p := ⟨b, off + k * 3, none⟩) lb).trans f0
      have z1 : ∀ g : Grown wr, g.val.cell? ⟨b, off + k * 3 + 1, none⟩ = _ := fun g => ((after hbel g.bel).cell (p := ⟨b, off + k * 3 + 1, none⟩) lb).trans f1
      have z2 : ∀ g : Grown wr, g.val.cell? ⟨b, off + k * 3 + 2, none⟩ = _ := fun g => ((after hbel g.bel).cell (p := ⟨b, off + k * 3 + 2, none⟩) lb).trans f2
      have y0 : ∀ g : Grown wr, g.val.cell? ⟨b', off' + k * 3, none⟩ = _ := fun g => ((after hbel g.bel).cell (p := ⟨b', off' + k * 3, none⟩) lb').trans g0
      have y1 : ∀ g : Grown wr, g.val.cell? ⟨b', off' + k * 3 + 1, none⟩ = _ := fun g => ((after hbel g.bel).cell (p := ⟨b', off' + k * 3 + 1, none⟩) lb').trans g1
      have y2 : ∀ g : Grown wr, g.val.cell? ⟨b', off' + k * 3 + 2, none⟩ = _ := fun g => ((after hbel g.bel).cell (p := ⟨b', off' + k * 3 + 2, none⟩) lb').trans g2
      clear f0 f1 f2 g0 g1 g2
      go_upto_region 6 with fail
      refine wp_region_grow (by kernel_rfl) (by kernel_rfl) ?_
      repeat (first | go_big_quiet_skip | (go_big_quiet_want; go_big_quiet_op; first | go_big_quiet_on | (apply Exists.intro; refine ⟨fun g => ?_, ?_⟩; (focus (go_at_call 40; refine grown_call (v := .bool true) (eqLoad0 _ _ _ _ _ _ _ _ _ _ _ _ _))); go_big_quiet_on)))
      refine wpQuiet_nil ?_
      rintro _ ⟨g, rfl⟩
      go_wp2
      go_roundw
      case rel => exact ⟨k + 1, by omega, by go_num, after hbel g.bel⟩
      case measure => simp [intOf]; omega
    · obtain rfl : k = N := by omega
      go_wp2
      go_ret
      exact ⟨rfl, hbel⟩

set_option maxHeartbeats 1600000 in
set_option maxRecDepth 100000 in
theorem markLoadS0 (ao : Option Addr) (N c : Nat) (k : Int) (w : World) (_hk0 : 0 ≤ k) (hN : N ≤ 1048576) (hx : Loads0 w ao N) :
    Calls Try.prog 26 #[.slice ao N c, .int .i64 k] w fun e w' => e = .returned (.int .i64 k) ∧ w' = w := by
  have HX : Hid (Loads0 w ao N) := hx
  clear hx
  go_enter Try.func26, Try.ntmps26
  go_wp2
  go_loopw [1, 5] (fun q i wr => ∃ t : Nat, t ≤ N ∧ q = .int .i64 k ∧ i = .int .i64 t ∧ wr = w) (fun _ i _ => N - (intOf i).toNat)
  case atStart => exact ⟨0, Nat.zero_le _, rfl, rfl, rfl⟩
  case round =>
    obtain ⟨t, ht, rfl, rfl, rfl⟩ := hrel
    by_cases hlt : t < N
    · obtain ⟨b, off, a1, c1, a2, c2, a3, c3, rfl, f0, f1, f2⟩ := HX.out t hlt
      have i1 : (0 : Int) ≤ (t : Int) := by omega
      have i2 : (t : Int) < (N : Int) := by omega
      go_wp2_with (first | (go_at_call 44; refine (markStayS0 _ _ _ _).mono ?_; rintro e w' ⟨rfl, rfl⟩) | (go_at_call 45; refine (markRoomS0 _ _ _ _).mono ?_; rintro e w' ⟨rfl, rfl⟩) | (go_at_call 46; refine (markSeatS0 _ _ _ _).mono ?_; rintro e w' ⟨rfl, rfl⟩))
      go_roundw
      case rel => exact ⟨t + 1, by omega, rfl, by go_num, trivial⟩
      case measure => simp [intOf]; omega
    · obtain rfl : t = N := by omega
      go_wp2
      go_ret
      exact ⟨rfl, rfl⟩

set_option maxHeartbeats 1600000 in
set_option maxRecDepth 100000 in
theorem heldLoadS0 (ao : Option Addr) (N c : Nat) (k : Int) (w : World) (hk0 : 0 ≤ k) (hN : N ≤ 1048576) (hx : Loads0 w ao N) :
    Calls Try.prog 29 #[.slice ao N c, .int .i64 k] w fun e w' => e = .returned (.int .i64 k) ∧ w' = w := by
  have HX : Hid (Loads0 w ao N) := hx
  clear hx
  go_enter Try.func29, Try.ntmps29
  go_wp2
  go_loopw [1, 5] (fun q i wr => ∃ t : Nat, t ≤ N ∧ q = .int .i64 k ∧ i = .int .i64 t ∧ wr = w) (fun _ i _ => N - (intOf i).toNat)
  case atStart => exact ⟨0, Nat.zero_le _, rfl, rfl, rfl⟩
  case round =>
    obtain ⟨t, ht, rfl, rfl, rfl⟩ := hrel
    by_cases hlt : t < N
    · obtain ⟨b, off, a1, c1, a2, c2, a3, c3, rfl, f0, f1, f2⟩ := HX.out t hlt
      have i1 : (0 : Int) ≤ (t : Int) := by omega
      have i2 : (t : Int) < (N : Int) := by omega
      have e0 : decide (k < 0) = false := by simpa using hk0
      go_wp2_with (first | (go_at_call 50; refine (heldStayS0 _ _ _ _).mono ?_; rintro e w' ⟨rfl, rfl⟩) | (go_at_call 51; refine (heldRoomS0 _ _ _ _).mono ?_; rintro e w' ⟨rfl, rfl⟩) | (go_at_call 52; refine (heldSeatS0 _ _ _ _).mono ?_; rintro e w' ⟨rfl, rfl⟩))
      go_roundw
      case rel => exact ⟨t + 1, by omega, rfl, by go_num, trivial⟩
      case measure => simp [intOf]; omega
    · obtain rfl : t = N := by omega
      go_wp2
      go_ret
      exact ⟨rfl, rfl⟩

set_option maxHeartbeats 1600000 in
theorem eqOffice0 (ao bo al bl : Option Addr) (N c d cl dl : Nat) (S : Nat → Sail) (w : World) (hN : N ≤ 1048576) (hs : ShortAll N S 1048576) (hx : SailsAt w ao N S) (hy : SailsAt w bo N S) (hl : Loads0 w al N) (hm : Loads0 w bl N) :
    Calls Try.prog 8 #[.agg #[.slice ao N c, .slice al N cl, .slice none 0 0], .agg #[.slice bo N d, .slice bl N dl, .slice none 0 0]] w fun e w' => e = .returned (.bool true) ∧ Below w.heap.size w w' := by
  have HX : Hid (SailsAt w ao N S ∧ SailsAt w bo N S ∧ Loads0 w al N ∧ Loads0 w bl N ∧ ShortAll N S 1048576) := ⟨hx, hy, hl, hm, hs⟩
  clear hx hy hl hm hs
  have hb0 : Below w.heap.size w ((w.alloc (.cells #[.slice ao N c, .slice al N cl, .slice none 0 0] 28)).alloc (.cells #[.slice bo N d, .slice bl N dl, .slice none 0 0] 28)) := push (push (Below.refl _ _) _) _
  have bA : ((w.alloc (.cells #[.slice ao N c, .slice al N cl, .slice none 0 0] 28)).alloc (.cells #[.slice bo N d, .slice bl N dl, .slice none 0 0] 28)).heap[w.heap.size]? = some (.cells #[.slice ao N c, .slice al N cl, .slice none 0 0] 28 (0, 0)) := blk_alloc (heap_alloc_new w _) _
  have bB : ((w.alloc (.cells #[.slice ao N c, .slice al N cl, .slice none 0 0] 28)).alloc (.cells #[.slice bo N d, .slice bl N dl, .slice none 0 0] 28)).heap[w.heap.size + 1]? = some (.cells #[.slice bo N d, .slice bl N dl, .slice none 0 0] 28 (0, 0)) := by simpa using heap_alloc_new (w.alloc _) _
  go_enter Try.func8, Try.ntmps8
  go_wp2_with fail
  generalize (w.alloc (.cells #[.slice ao N c, .slice al N cl, .slice none 0 0] 28)).alloc (.cells #[.slice bo N d, .slice bl N dl, .slice none 0 0] 28) = V at hb0 bA bB ⊢
  refine (eqSailingS_same ao bo N c d S _ hN HX.out.2.2.2.2 (HX.out.1.below hb0) (HX.out.2.1.below hb0)).mono ?_
  rintro e V1 ⟨rfl, hbv⟩
  have hb1 := after hb0 hbv
  have bA1 := blk_below bA hbv
  have bB1 := blk_below bB hbv
  clear hb0 bA bB hbv
  have y1 := blk_cell bA1 1 _ rfl
  have z1 := blk_cell bB1 1 _ rfl
  go_wp2_with fail
  refine (eqLoadS0 al bl N cl dl _ hN (HX.out.2.2.1.below hb1) (HX.out.2.2.2.1.below hb1)).mono ?_
  rintro e V2 ⟨rfl, hbv⟩
  have hb2 := after hb1 hbv
  have bA2 := blk_below bA1 hbv
  have bB2 := blk_below bB1 hbv
  clear hb1 bA1 bB1 hbv y1 z1
  have y2 := blk_cell bA2 2 _ rfl
  have z2 := blk_cell bB2 2 _ rfl
  go_wp2_with (first | (go_at_call 21; refine (eqBookingS0 _ _ _ _ _).mono ?_; rintro e w' ⟨rfl, rfl⟩))
  go_ret
  exact ⟨rfl, hb2⟩

end Go.Proofs.Ytlnadbnoemlpeaa
