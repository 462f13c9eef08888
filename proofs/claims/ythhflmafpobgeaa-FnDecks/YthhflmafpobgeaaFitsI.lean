/-
  OWN TEXT: the contract of the program's fitsOn.
-/
import Derived.Test.YthhflmafpobgeaaImplW
import Derived.Test.YthhflmafpobgeaaKitG
import Derived.Test.YthhflmafpobgeaaPlainD
namespace Go.Proofs.Ythhflmafpobgeaa
open Go.RowKit

set_option maxHeartbeats 3200000 in
set_option maxRecDepth 100000 in
theorem fitsOn_any (ao : Option Addr) (n c : Nat) (p : Pairs) (F : Nat → Int) (x l s h : Int) (w : World) (hl : p.n = n) (hn : n ≤ 4) (hz : PairsAt w ao p) :
    Calls Try.prog 92 #[.slice ao n c, .agg #[.int .i64 (F 0), .int .i64 (F 1), .int .i64 (F 2), .int .i64 (F 3)], .agg #[.int .i64 x, .int .i64 l, .int .i64 s, .int .i64 h]] w fun e w' => SaysIf (Fits p F ⟨x, l, s, h⟩) e ∧ Below w.heap.size w w' := by
  have HL : Hid (p.n = n) := hl
  clear hl
  go_enter Try.func92, Try.ntmps92
  go_upto_region 1 with fail
  have b0 : ((w.alloc (.cells #[.int .i64 (F 0), .int .i64 (F 1), .int .i64 (F 2), .int .i64 (F 3)] 147)).alloc (.cells #[.int .i64 x, .int .i64 l, .int .i64 s, .int .i64 h] 72)).heap[w.heap.size]? = some (.cells #[.int .i64 (F 0), .int .i64 (F 1), .int .i64 (F 2), .int .i64 (F 3)] 147 (0, 0)) := blk_alloc (heap_alloc_new w _) _
  have b1 : ((w.alloc (.cells #[.int .i64 (F 0), .int .i64 (F 1), .int .i64 (F 2), .int .i64 (F 3)] 147)).alloc (.cells #[.int .i64 x, .int .i64 l, .int .i64 s, .int .i64 h] 72)).heap[w.heap.size + 1]? = some (.cells #[.int .i64 x, .int .i64 l, .int .i64 s, .int .i64 h] 72 (0, 0)) := by simpa using heap_alloc_new (w.alloc _) _
  have hb0 : Below w.heap.size w ((w.alloc (.cells #[.int .i64 (F 0), .int .i64 (F 1), .int .i64 (F 2), .int .i64 (F 3)] 147)).alloc (.cells #[.int .i64 x, .int .i64 l, .int .i64 s, .int .i64 h] 72)) := push (push (Below.refl _ _) _) _
  generalize (w.alloc (.cells #[.int .i64 (F 0), .int .i64 (F 1), .int .i64 (F 2), .int .i64 (F 3)] 147)).alloc (.cells #[.int .i64 x, .int .i64 l, .int .i64 s, .int .i64 h] 72) = W at b0 b1 hb0 ⊢
  have s0 := blk_lt b0
  have s1 := blk_lt b1
  have z0 : ∀ g : Grown W, g.val.cell? ⟨w.heap.size + 1, 0, none⟩ = some (.int .i64 x) := fun g => (g.bel.cell s1).trans (blk_cell b1 0 _ rfl)
  have z1 : ∀ g : Grown W, g.val.cell? ⟨w.heap.size + 1, 1, none⟩ = some (.int .i64 l) := fun g => (g.bel.cell s1).trans (blk_cell b1 1 _ rfl)
  have z2 : ∀ g : Grown W, g.val.cell? ⟨w.heap.size + 1, 2, none⟩ = some (.int .i64 s) := fun g => (g.bel.cell s1).trans (blk_cell b1 2 _ rfl)
  have z3 : ∀ g : Grown W, g.val.cell? ⟨w.heap.size + 1, 3, none⟩ = some (.int .i64 h) := fun g => (g.bel.cell s1).trans (blk_cell b1 3 _ rfl)
  have y : Hid (∀ m, m < 4 → ∀ g : Grown W, g.val.cell? ⟨w.heap.size, m, none⟩ = some (.int .i64 (F m))) := by
    intro m hm g
    refine (g.bel.cell s0).trans ?_
    have : m = 0 ∨ m = 1 ∨ m = 2 ∨ m = 3 := by omega
    rcases this with rfl | rfl | rfl | rfl
    · exact blk_cell b0 0 _ rfl
    · exact blk_cell b0 1 _ rfl
    · exact blk_cell b0 2 _ rfl
    · exact blk_cell b0 3 _ rfl
  clear b0 b1 s0 s1
  have hwr : IntKind.i64.wrap ((n : Int) - 1) = (n : Int) - 1 := by rw [IntKind.wrap_i64]; omega
  by_cases h1 : In x 1 9999
  · have e1 : decide (In x 1 9999) = true := decide_eq_true h1
    have H1 : Hid (In x 1 9999) := h1
    clear h1
    by_cases h2 : In s 1 2000 ∧ In h 1 500
    · have e2 : decide (In s 1 2000 ∧ In h 1 500) = true := decide_eq_true h2
      have H2 : Hid (In s 1 2000 ∧ In h 1 500) := h2
      clear h2
      by_cases h3 : In l 0 ((n : Int) - 1)
      · have e3 : decide (In l 0 ((n : Int) - 1)) = true := decide_eq_true h3
        have H3 : Hid (In l 0 ((n : Int) - 1)) := h3
        obtain ⟨m, rfl⟩ : ∃ m : Nat, l = m := ⟨l.toNat, by unfold In at h3; omega⟩
        have hm : m < n := by unfold In at h3; omega
        clear h3
        obtain ⟨b, off, rfl, g1, g2⟩ := hz m (by rw [HL.out]; exact hm)
        have hb := World.block_lt_of_cell? w _ g1
        have y2 : ∀ g : Grown W, g.val.cell? ⟨b, off + m * 2 + 1, none⟩ = some (.int .i64 (p.B m)) := fun g => ((after hb0 g.bel).cell (p := ⟨b, off + m * 2 + 1, none⟩) hb).trans g2
        have y3 : ∀ g : Grown W, g.val.cell? ⟨w.heap.size, m, none⟩ = some (.int .i64 (F m)) := y.out m (by omega)
        have i1 : (0 : Int) ≤ (m : Int) := by omega
        have i2 : (m : Int) < (n : Int) := by omega
        have i3 : (m : Int) < 4 := by omega
        have i4 : m < 4 := by omega
        clear g1 g2
        by_cases h4 : h ≤ p.B m
        · have e4 : decide (h ≤ p.B m) = true := decide_eq_true h4
          have H4 : Hid (h ≤ p.B m) := h4
          clear h4
          by_cases h5 : s ≤ F m
          · have e5 : decide (s ≤ F m) = true := decide_eq_true h5
            have H5 : Hid (s ≤ F m) := h5
            clear h5
            refine wp_region_grow (by kernel_rfl) (by kernel_rfl) ?_
            repeat (first | go_big_quiet_skip | (go_big_quiet_want; go_big_quiet_op; first | go_big_quiet_on | (apply Exists.intro; refine ⟨fun g => ?_, ?_⟩; (focus (first | (go_at_call 134; refine grown_call (v := .bool true) ((isBy_is _ _).mono ?_); rintro e w2 ⟨rfl, rfl⟩; exact ⟨by rw [e1], Below.refl _ _⟩) | (go_at_call 135; refine grown_call (v := .bool true) ((isCar_is _ _ _).mono ?_); rintro e w2 ⟨rfl, rfl⟩; exact ⟨by rw [e2], Below.refl _ _⟩) | (go_at_call 77; refine grown_call (v := .bool true) ((within_is _ _ _ _).mono ?_); rintro e w2 ⟨rfl, rfl⟩; exact ⟨by rw [e3], Below.refl _ _⟩))); go_big_quiet_on)))
            refine wpQuiet_nil ?_
            rintro _ ⟨g, rfl⟩
            go_wp2
            go_ret
            exact ⟨says_yes ⟨H1.out, H2.out.1, H2.out.2, by rw [HL.out]; exact H3.out, H4.out, H5.out⟩, after hb0 g.bel⟩
          · have e5 : decide (s ≤ F m) = false := decide_eq_false h5
            have H5 : Hid (¬ s ≤ F m) := h5
            clear h5
            refine wp_region_grow (by kernel_rfl) (by kernel_rfl) ?_
            repeat (first | go_big_quiet_skip | (go_big_quiet_want; go_big_quiet_op; first | go_big_quiet_on | (apply Exists.intro; refine ⟨fun g => ?_, ?_⟩; (focus (first | (go_at_call 134; refine grown_call (v := .bool true) ((isBy_is _ _).mono ?_); rintro e w2 ⟨rfl, rfl⟩; exact ⟨by rw [e1], Below.refl _ _⟩) | (go_at_call 135; refine grown_call (v := .bool true) ((isCar_is _ _ _).mono ?_); rintro e w2 ⟨rfl, rfl⟩; exact ⟨by rw [e2], Below.refl _ _⟩) | (go_at_call 77; refine grown_call (v := .bool true) ((within_is _ _ _ _).mono ?_); rintro e w2 ⟨rfl, rfl⟩; exact ⟨by rw [e3], Below.refl _ _⟩))); go_big_quiet_on)))
            refine wpQuiet_nil ?_
            rintro _ ⟨g, rfl⟩
            go_wp2
            go_ret
            exact ⟨says_no (fun h' => Int.not_le.2 H5.out h'.room), after hb0 g.bel⟩
        · have e4 : decide (h ≤ p.B m) = false := decide_eq_false h4
          have H4 : Hid (¬ h ≤ p.B m) := h4
          clear h4
          refine wp_region_grow (by kernel_rfl) (by kernel_rfl) ?_
          repeat (first | go_big_quiet_skip | (go_big_quiet_want; go_big_quiet_op; first | go_big_quiet_on | (apply Exists.intro; refine ⟨fun g => ?_, ?_⟩; (focus (first | (go_at_call 134; refine grown_call (v := .bool true) ((isBy_is _ _).mono ?_); rintro e w2 ⟨rfl, rfl⟩; exact ⟨by rw [e1], Below.refl _ _⟩) | (go_at_call 135; refine grown_call (v := .bool true) ((isCar_is _ _ _).mono ?_); rintro e w2 ⟨rfl, rfl⟩; exact ⟨by rw [e2], Below.refl _ _⟩) | (go_at_call 77; refine grown_call (v := .bool true) ((within_is _ _ _ _).mono ?_); rintro e w2 ⟨rfl, rfl⟩; exact ⟨by rw [e3], Below.refl _ _⟩))); go_big_quiet_on)))
          refine wpQuiet_nil ?_
          rintro _ ⟨g, rfl⟩
          go_wp2
          go_ret
          exact ⟨says_no (fun h' => Int.not_le.2 H4.out h'.high), after hb0 g.bel⟩
      · have e3 : decide (In l 0 ((n : Int) - 1)) = false := decide_eq_false h3
        have H3 : Hid (¬ In l 0 ((n : Int) - 1)) := h3
        clear h3
        refine wp_region_grow (by kernel_rfl) (by kernel_rfl) ?_
        repeat (first | go_big_quiet_skip | (go_big_quiet_want; go_big_quiet_op; first | go_big_quiet_on | (apply Exists.intro; refine ⟨fun g => ?_, ?_⟩; (focus (first | (go_at_call 134; refine grown_call (v := .bool true) ((isBy_is _ _).mono ?_); rintro e w2 ⟨rfl, rfl⟩; exact ⟨by rw [e1], Below.refl _ _⟩) | (go_at_call 135; refine grown_call (v := .bool true) ((isCar_is _ _ _).mono ?_); rintro e w2 ⟨rfl, rfl⟩; exact ⟨by rw [e2], Below.refl _ _⟩) | (go_at_call 77; refine grown_call (v := .bool false) ((within_is _ _ _ _).mono ?_); rintro e w2 ⟨rfl, rfl⟩; exact ⟨by rw [e3], Below.refl _ _⟩))); go_big_quiet_on)))
        refine wpQuiet_nil ?_
        rintro _ ⟨g, rfl⟩
        go_wp2
        go_ret
        exact ⟨says_no (fun h => H3.out (by have := h.ln; rw [HL.out] at this; exact this)), after hb0 g.bel⟩
    · have e2 : decide (In s 1 2000 ∧ In h 1 500) = false := decide_eq_false h2
      have H2 : Hid (¬ (In s 1 2000 ∧ In h 1 500)) := h2
      clear h2
      refine wp_region_grow (by kernel_rfl) (by kernel_rfl) ?_
      repeat (first | go_big_quiet_skip | (go_big_quiet_want; go_big_quiet_op; first | go_big_quiet_on | (apply Exists.intro; refine ⟨fun g => ?_, ?_⟩; (focus (first | (go_at_call 134; refine grown_call (v := .bool true) ((isBy_is _ _).mono ?_); rintro e w2 ⟨rfl, rfl⟩; exact ⟨by rw [e1], Below.refl _ _⟩) | (go_at_call 135; refine grown_call (v := .bool false) ((isCar_is _ _ _).mono ?_); rintro e w2 ⟨rfl, rfl⟩; exact ⟨by rw [e2], Below.refl _ _⟩))); go_big_quiet_on)))
      refine wpQuiet_nil ?_
      rintro _ ⟨g, rfl⟩
      go_wp2
      go_ret
      exact ⟨says_no (fun h => H2.out ⟨h.len, h.hei⟩), after hb0 g.bel⟩
  · have e1 : decide (In x 1 9999) = false := decide_eq_false h1
    have H1 : Hid (¬ In x 1 9999) := h1
    clear h1
    refine wp_region_grow (by kernel_rfl) (by kernel_rfl) ?_
    repeat (first | go_big_quiet_skip | (go_big_quiet_want; go_big_quiet_op; first | go_big_quiet_on | (apply Exists.intro; refine ⟨fun g => ?_, ?_⟩; (focus (first | (go_at_call 134; refine grown_call (v := .bool false) ((isBy_is _ _).mono ?_); rintro e w2 ⟨rfl, rfl⟩; exact ⟨by rw [e1], Below.refl _ _⟩))); go_big_quiet_on)))
    refine wpQuiet_nil ?_
    rintro _ ⟨g, rfl⟩
    go_wp2
    go_ret
    exact ⟨says_no (fun h => H1.out h.who), after hb0 g.bel⟩

end Go.Proofs.Ythhflmafpobgeaa
