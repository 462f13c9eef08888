/-
  OWN TEXT: FitI, AsksI, CarW, WishI.
-/
import Derived.Deep.RegionWith
import Derived.Test.YtlelckbeoclhbaaGreatB19
import Derived.Test.YtlelckbeoclhbaaGreatB17
import Derived.Test.YtlelckbeoclhbaaGreatB07
import Derived.Test.YtlelckbeoclhbaaGreatB18
set_option maxHeartbeats 12800000
set_option maxRecDepth 100000
namespace Go.Proofs.YtlelckbeoclhbaaGreat
open Go.RowKit
def WayIs (N : Nat) (S : Nat → Sail) (G : Nat → Int) (w : World) (B k : Nat) : Prop :=
  ∃ la lc ls pl t, w.heap[B]? = some (.cells #[.slice la k lc, .string pl, .int .i64 t] 227 (0, 0)) ∧ ls.length = k ∧ IntsAt w la k (getI ls) ∧ (la = none → k = 0 ∧ lc = 0) ∧
    (0 < k → pl = (S (findIx S (G (k - 1)) N)).dst ∧ t = (S (findIx S (G (k - 1)) N)).arr)
theorem implFit_any (ao bo : Option Addr) (N n c c' : Nat) (S : Nat → Sail) (G : Nat → Int) (w : World) (hN : N ≤ 1048576) (hn : n ≤ 1048576) (hs : ShortAll N S 1048576) (hx : SailsAt w ao N S) (hy : IntsAt w bo n G) :
    Calls Tryz.prog 150 #[.slice ao N c, .slice bo n c'] w fun e w' => SaysIf (GoodTab N S ∧ LegsOk N S n G) e ∧ Below w.heap.size w w' := by
  have HS : Hid (ShortAll N S 1048576) := hs
  clear hs
  go_enter Tryz.func150, Tryz.ntmps150
  go_wp2_with fail
  refine (implTab_any ao N c S _ hN HS.out hx).mono ?_
  rintro e w1 ⟨⟨b1, rfl, hi1⟩, hb1⟩
  cases b1 with
  | false =>
    have HN : Hid (¬ GoodTab N S) := fun h => by have := hi1.2 h; cases this
    clear hi1
    go_wp2
    go_ret
    exact ⟨says_no (fun h => HN.out h.1), hb1⟩
  | true =>
    have HT : Hid (GoodTab N S) := hi1.1 rfl
    clear hi1
    by_cases g3 : In (n : Int) 1 3
    case neg =>
      have d3 : decide (In (n : Int) 1 3) = false := decide_eq_false g3
      have HN : Hid (¬ LegsOk N S n G) := fun h => g3 ⟨by have := h.1; omega, by have := h.2.1; omega⟩
      clear g3
      go_wp2_with (first | (go_at_call 143; refine (within_is _ _ _ _).mono ?_; rintro e w' ⟨rfl, hw'⟩; have hw' := hw'.symm; subst hw'))
      go_ret
      exact ⟨says_no (fun h => HN.out h.2), hb1⟩
    have d3 : decide (In (n : Int) 1 3) = true := decide_eq_true g3
    have H3 : Hid (1 ≤ n ∧ n ≤ 3) := ⟨by have := g3.1; omega, by have := g3.2; omega⟩
    have hn3 : n ≤ 3 := H3.out.2
    clear g3
    go_wp2_with (first | (go_at_call 143; refine (within_is _ _ _ _).mono ?_; rintro e w' ⟨rfl, hw'⟩; have hw' := hw'.symm; subst hw'))
    have hb0 : Below w.heap.size w (w1.alloc (.cells #[.slice none 0 0, .string ⟨#[]⟩, .int .i64 0] 227)) := push hb1 _
    have hbx0 := heap_alloc_new w1 (.cells #[.slice none 0 0, .string ⟨#[]⟩, .int .i64 0] 227)
    have hB : w.heap.size ≤ w1.heap.size := hb1.size
    go_loopw [6, 7, 8, 9, 21] (fun _ _ _ _ i wr => ∃ k : Nat, k ≤ n ∧ i = .int .i64 k ∧ (∀ j, j < k → LegOk N S G j) ∧ WayIs N S G wr w1.heap.size k ∧ Below w.heap.size w wr) (fun _ _ _ _ i _ => n - (intOf i).toNat)
    case atStart => exact ⟨0, Nat.zero_le _, rfl, fun j hj => by omega, ⟨none, 0, [], ⟨#[]⟩, 0, hbx0, rfl, fun k hk => by omega, fun _ => ⟨rfl, rfl⟩, fun h => by omega⟩, hb0⟩
    case round =>
      clear hb0 hbx0 d3 hb1
      obtain ⟨k, hk, rfl, hall, hway, hbel⟩ := hrel
      have HA : Hid (∀ j, j < k → LegOk N S G j) := hall
      have HW : Hid (WayIs N S G wr w1.heap.size k) := hway
      clear hall hway
      by_cases hlt : k < n
      · obtain ⟨qb, qoff, rfl, hq⟩ := hy k hlt
        have hqb := World.block_lt_of_cell? w _ hq
        have p0 := (hbel.cell (p := ⟨qb, qoff + k, none⟩) hqb).trans hq
        clear hq
        go_wp2_with fail
        refine (findSailing_any ao N c S (G k) _ hN (hx.below hbel)).mono ?_
        rintro e w2 ⟨hr, hb2⟩
        obtain ⟨la, lc, ls, pl, t, hbox, hls, hints, hna, hpos⟩ := HW.out
        have hbox := blk_below hbox hb2
        have hints := hints.below hb2
        have hbel2 := after hbel hb2
        have HLS : Hid (ls.length = k) := hls
        have HPO : Hid (0 < k → pl = (S (findIx S (G (k - 1)) N)).dst ∧ t = (S (findIx S (G (k - 1)) N)).arr) := hpos
        clear hls hpos hb2 hbel p0 HW
        rcases hr with ⟨hf, rfl⟩ | ⟨hf, rfl⟩
        · obtain ⟨x, hxx⟩ : ∃ x, x = findIx S (G k) N := ⟨_, rfl⟩
          rw [← hxx] at hf ⊢
          have HX : Hid (x = findIx S (G k) N) := hxx
          clear hxx
          have x1 : (x : Int) < (N : Int) := by omega
          have x0 : (0 : Int) ≤ (x : Int) := by omega
          obtain ⟨sb, soff, sla, slc, sca, scc, rfl, h0, h1, h2, h3, h4, h5, h6, h7, _, _, _, _⟩ := hx x hf
          have hsb := World.block_lt_of_cell? w _ h1
          have hsb2 : sb < w2.heap.size := Nat.lt_of_lt_of_le hsb hbel2.size
          have s0 := (hbel2.cell (p := ⟨sb, soff + x * 8, none⟩) hsb).trans h0
          have s1 := (hbel2.cell (p := ⟨sb, soff + x * 8 + 1, none⟩) hsb).trans h1
          have s2 := (hbel2.cell (p := ⟨sb, soff + x * 8 + 2, none⟩) hsb).trans h2
          have s3 := (hbel2.cell (p := ⟨sb, soff + x * 8 + 3, none⟩) hsb).trans h3
          have s4 := (hbel2.cell (p := ⟨sb, soff + x * 8 + 4, none⟩) hsb).trans h4
          have s5 := (hbel2.cell (p := ⟨sb, soff + x * 8 + 5, none⟩) hsb).trans h5
          have s6 := (hbel2.cell (p := ⟨sb, soff + x * 8 + 6, none⟩) hsb).trans h6
          have s7 := (hbel2.cell (p := ⟨sb, soff + x * 8 + 7, none⟩) hsb).trans h7
          clear h0 h1 h2 h3 h4 h5 h6 h7
          have hBw : w1.heap.size < w2.heap.size := blk_lt hbox
          have g0 : ∀ g : Grown w2, g.val.cell? ⟨w1.heap.size, 0, none⟩ = some (.slice la k lc) := fun g => (g.bel.cell hBw).trans (blk_cell hbox 0 _ rfl)
          have g1 : ∀ g : Grown w2, g.val.cell? ⟨w1.heap.size, 1, none⟩ = some (.string pl) := fun g => (g.bel.cell hBw).trans (blk_cell hbox 1 _ rfl)
          have g2 : ∀ g : Grown w2, g.val.cell? ⟨w1.heap.size, 2, none⟩ = some (.int .i64 t) := fun g => (g.bel.cell hBw).trans (blk_cell hbox 2 _ rfl)
          have r0 : ∀ g : Grown w2, g.val.cell? ⟨sb, soff + x * 8, none⟩ = _ := fun g => (g.bel.cell hsb2).trans s0
          have r1 : ∀ g : Grown w2, g.val.cell? ⟨sb, soff + x * 8 + 1, none⟩ = _ := fun g => (g.bel.cell hsb2).trans s1
          have r2 : ∀ g : Grown w2, g.val.cell? ⟨sb, soff + x * 8 + 2, none⟩ = _ := fun g => (g.bel.cell hsb2).trans s2
          have r3 : ∀ g : Grown w2, g.val.cell? ⟨sb, soff + x * 8 + 3, none⟩ = _ := fun g => (g.bel.cell hsb2).trans s3
          have r4 : ∀ g : Grown w2, g.val.cell? ⟨sb, soff + x * 8 + 4, none⟩ = _ := fun g => (g.bel.cell hsb2).trans s4
          have r5 : ∀ g : Grown w2, g.val.cell? ⟨sb, soff + x * 8 + 5, none⟩ = _ := fun g => (g.bel.cell hsb2).trans s5
          have r6 : ∀ g : Grown w2, g.val.cell? ⟨sb, soff + x * 8 + 6, none⟩ = _ := fun g => (g.bel.cell hsb2).trans s6
          have r7 : ∀ g : Grown w2, g.val.cell? ⟨sb, soff + x * 8 + 7, none⟩ = _ := fun g => (g.bel.cell hsb2).trans s7
          go_upto_region 8 with fail
          go_cut [8, 21, 46] (fun j i v wx => j = .int .i64 x ∧ i = .int .i64 k ∧ Tells (LegOk N S G k) v ∧ Below w2.heap.size w2 wx)
          case first =>
            by_cases k0 : k = 0
            · subst k0
              refine wp_region_grow (by kernel_rfl) (by kernel_rfl) ?_
              repeat (first | go_big_quiet_skip | (go_big_quiet_want; go_big_quiet_op; go_big_quiet_on))
              refine wpQuiet_nil ?_
              rintro _ ⟨g, rfl⟩
              go_wp2
              go_meet
              exact ⟨rfl, rfl, tells_good ⟨by rw [← HX.out]; exact hf, fun h => by omega⟩, g.bel⟩
            · have d0 : decide (0 < k) = true := by simp; omega
              by_cases hcb : catchB pl t (S x).fr (S x).dep = true
              · refine wp_region_grow (by kernel_rfl) (by kernel_rfl) ?_
                repeat (first | go_big_quiet_skip | (go_big_quiet_want; go_big_quiet_op; first | go_big_quiet_on | (apply Exists.intro; refine ⟨fun g => ?_, ?_⟩; (focus (go_at_call 172; refine grown_call (v := .bool true) ((catches_is _ _ _ _ _ _ _ _ _ _ _ _ _ _ _ _ _ _).mono ?_); rintro e w4 ⟨rfl, hbb⟩; exact ⟨by rw [hcb], hbb⟩)); go_big_quiet_on)))
                refine wpQuiet_nil ?_
                rintro _ ⟨g, rfl⟩
                go_wp2
                go_meet
                exact ⟨rfl, rfl, tells_good ⟨by rw [← HX.out]; exact hf, fun h => by
                  have h1 := catchB_iff.1 hcb
                  have h2 := HPO.out h
                  rw [← HX.out]
                  exact ⟨by rw [← h2.1]; exact h1.1.symm, by rw [← h2.2]; exact h1.2⟩⟩, g.bel⟩
              · have hcb := Bool.eq_false_iff.2 hcb
                refine wp_region_grow (by kernel_rfl) (by kernel_rfl) ?_
                repeat (first | go_big_quiet_skip | (go_big_quiet_want; go_big_quiet_op; first | go_big_quiet_on | (apply Exists.intro; refine ⟨fun g => ?_, ?_⟩; (focus (go_at_call 172; refine grown_call (v := .bool false) ((catches_is _ _ _ _ _ _ _ _ _ _ _ _ _ _ _ _ _ _).mono ?_); rintro e w4 ⟨rfl, hbb⟩; exact ⟨by rw [hcb], hbb⟩)); go_big_quiet_on)))
                refine wpQuiet_nil ?_
                rintro _ ⟨g, rfl⟩
                go_wp2
                go_meet
                exact ⟨rfl, rfl, tells_bad (fun h => by
                  have h1 := h.2 (by omega)
                  have h2 := HPO.out (by omega)
                  rw [← HX.out] at h1
                  have h3 := catchB_iff.2 (show (S x).fr = pl ∧ t ≤ (S x).dep from ⟨by rw [h2.1]; exact h1.1.symm, by rw [h2.2]; exact h1.2⟩)
                  rw [hcb] at h3; cases h3), g.bel⟩
          case rest =>
            clear g0 g1 g2 r0 r1 r2 r3 r4 r5 r6 r7
            obtain ⟨rfl, rfl, ⟨tb, rfl, ht⟩, hb3⟩ := hcut
            have HTB : Hid (tb = false ↔ LegOk N S G k) := ht
            clear ht
            obtain ⟨w3, ew3⟩ : ∃ y, y = wc := ⟨_, rfl⟩
            subst ew3
            have hbel3 := after hbel2 hb3
            cases tb with
            | true =>
              clear s0 s1 s2 s3 s4 s5 s6 s7
              go_wp2
              go_ret
              exact ⟨says_no (fun h => by have := HTB.out.2 (h.2.2.2 k hlt); cases this), hbel3⟩
            | false =>
              have HK : Hid (LegOk N S G k) := HTB.out.1 rfl
              clear HTB
              have hbox3 := blk_below hbox hb3
              have s0 := (hb3.cell (p := ⟨sb, soff + x * 8, none⟩) hsb2).trans s0
              have s1 := (hb3.cell (p := ⟨sb, soff + x * 8 + 1, none⟩) hsb2).trans s1
              have s2 := (hb3.cell (p := ⟨sb, soff + x * 8 + 2, none⟩) hsb2).trans s2
              have s3 := (hb3.cell (p := ⟨sb, soff + x * 8 + 3, none⟩) hsb2).trans s3
              have s4 := (hb3.cell (p := ⟨sb, soff + x * 8 + 4, none⟩) hsb2).trans s4
              have s5 := (hb3.cell (p := ⟨sb, soff + x * 8 + 5, none⟩) hsb2).trans s5
              have s6 := (hb3.cell (p := ⟨sb, soff + x * 8 + 6, none⟩) hsb2).trans s6
              have s7 := (hb3.cell (p := ⟨sb, soff + x * 8 + 7, none⟩) hsb2).trans s7
              have b0 := blk_cell hbox3 0 _ rfl
              have b1 := blk_cell hbox3 1 _ rfl
              have b2 := blk_cell hbox3 2 _ rfl
              have hints3 := (hints.below hb3).below (Below.refl _ w3).drew
              have HB3 : Hid (w3.drew.heap[w1.heap.size]? = some (.cells #[.slice la k lc, .string pl, .int .i64 t] 227 (0, 0))) := hbox3
              clear hbox hbox3 hints
              go_upto_region 10 with fail
              go_region_with (first | (go_at_call 173; refine Calls.mono (with_any la k lc ls pl t _ _ _ _ _ _ _ _ _ _ _ _ _ HLS.out ?_ hints3 hna) ?_; (focus omega); rintro e w5 ⟨ao5, c5, rfl, ho5, hb5⟩; have z5 := blk_below HB3.out hb5; have o0 := blk_cell z5 0 _ rfl; have o1 := blk_cell z5 1 _ rfl; have o2 := blk_cell z5 2 _ rfl; have f0 := blk_free z5 0; have f1 := blk_free z5 1; have f2 := blk_free z5 2))
              all_goals
                have HO5 : Hid _ := ho5
                clear ho5
                go_wp2
                go_roundw
                case rel =>
                  refine ⟨k + 1, by omega, by go_num, fun j hj => ?_, ?_, ?_⟩
                  · by_cases e : j = k
                    · subst e; exact HK.out
                    · exact HA.out j (by omega)
                  · have own5 := own_set (own_set (own_set HO5.out (a := ⟨w1.heap.size, 0, none⟩) (blk_lt HB3.out) (.slice ao5 (k + 1) c5)) (a := ⟨w1.heap.size, 1, none⟩) (blk_lt HB3.out) (.string (S x).dst)) (a := ⟨w1.heap.size, 2, none⟩) (blk_lt HB3.out) (.int .i64 (S x).arr)
                    obtain ⟨_, _, e5, _, _, en5⟩ := own_form own5
                    simp only [Value.slice.injEq, true_and] at e5
                    obtain ⟨rfl, rfl⟩ := e5
                    exact ⟨ao5, c5, ls ++ [(S x).id], (S x).dst, (S x).arr, blk_set (blk_set (blk_set z5 0 _) 1 _) 2 _, by rw [List.length_append, HLS.out]; rfl, own_legs (by rw [List.length_append, HLS.out]; rfl) own5, fun h => absurd (en5 h).1 (by omega), fun _ => by
                      rw [Nat.add_sub_cancel, ← HX.out]; exact ⟨rfl, rfl⟩⟩
                  · exact (((after hbel3.drew hb5).setCell hB _).setCell hB _).setCell hB _
                case measure => simp [intOf]; omega
        · have HF : Hid (findIx S (G k) N = N) := hf
          clear hf
          go_upto_region 8 with fail
          refine wp_region_grow (by kernel_rfl) (by kernel_rfl) ?_
          repeat (first | go_big_quiet_skip | (go_big_quiet_want; go_big_quiet_op; go_big_quiet_on))
          refine wpQuiet_nil ?_
          rintro _ ⟨g, rfl⟩
          go_wp2
          go_ret
          exact ⟨says_no (fun h => by have := (h.2.2.2 k hlt).1; have := HF.out; omega), after hbel2 g.bel⟩
      · obtain rfl : k = n := by omega
        go_wp2
        go_ret
        exact ⟨says_yes ⟨HT.out, H3.out.1, H3.out.2, HA.out⟩, hbel⟩
end Go.Proofs.YtlelckbeoclhbaaGreat

namespace Go.Proofs.YtlelckbeoclhbaaGreat
open Go.RowKit
theorem asksCar_any (pe len hei cl : Int) (all : Bool) (be : Int) (w : World) :
    Calls Tryz.prog 112 #[.agg #[.int .i64 pe, .int .i64 len, .int .i64 hei, .int .i64 cl, .bool all, .int .i64 be]] w fun e w' => e = .returned (.bool (decide (¬ (len = 0 ∧ hei = 0)))) ∧ Below w.heap.size w w' := by
  obtain ⟨c, hc⟩ : ∃ c, c = decide (¬ (len = 0 ∧ hei = 0)) := ⟨_, rfl⟩
  rw [← hc]
  have HC : Hid (c = decide (¬ (len = 0 ∧ hei = 0))) := hc
  clear hc
  by_cases h1 : len = 0
  · subst h1
    by_cases h2 : hei = 0
    · subst h2
      go_enter Tryz.func112, Tryz.ntmps112
      go_wp2
      go_ret
      exact ⟨by rw [HC.out]; rfl, push (Below.refl _ _) _⟩
    · have e2 : (hei != 0) = true := by simpa using h2
      have HR : Hid (c = true) := by rw [HC.out]; exact decide_eq_true (fun h => h2 h.2)
      clear h2
      go_enter Tryz.func112, Tryz.ntmps112
      go_wp2
      go_ret
      exact ⟨by rw [HR.out]; rfl, push (Below.refl _ _) _⟩
  · have e1 : (len != 0) = true := by simpa using h1
    have HR : Hid (c = true) := by rw [HC.out]; exact decide_eq_true (fun h => h1 h.1)
    clear h1
    go_enter Tryz.func112, Tryz.ntmps112
    go_wp2
    go_ret
    exact ⟨by rw [HR.out]; rfl, push (Below.refl _ _) _⟩
theorem asksCabin_any (pe len hei cl : Int) (all : Bool) (be : Int) (w : World) :
    Calls Tryz.prog 113 #[.agg #[.int .i64 pe, .int .i64 len, .int .i64 hei, .int .i64 cl, .bool all, .int .i64 be]] w fun e w' => e = .returned (.bool (decide (¬ (cl = 0 ∧ all = false ∧ be = 0)))) ∧ Below w.heap.size w w' := by
  obtain ⟨c, hc⟩ : ∃ c, c = decide (¬ (cl = 0 ∧ all = false ∧ be = 0)) := ⟨_, rfl⟩
  rw [← hc]
  have HC : Hid (c = decide (¬ (cl = 0 ∧ all = false ∧ be = 0))) := hc
  clear hc
  by_cases h1 : cl = 0
  · subst h1
    cases all with
    | true =>
      have HR : Hid (c = true) := by rw [HC.out]; exact decide_eq_true (fun h => by cases h.2.1)
      go_enter Tryz.func113, Tryz.ntmps113
      go_wp2
      go_ret
      exact ⟨by rw [HR.out]; rfl, push (Below.refl _ _) _⟩
    | false =>
      by_cases h2 : be = 0
      · subst h2
        go_enter Tryz.func113, Tryz.ntmps113
        go_wp2
        go_ret
        exact ⟨by rw [HC.out]; rfl, push (Below.refl _ _) _⟩
      · have e2 : (be != 0) = true := by simpa using h2
        have HR : Hid (c = true) := by rw [HC.out]; exact decide_eq_true (fun h => h2 h.2.2)
        clear h2
        go_enter Tryz.func113, Tryz.ntmps113
        go_wp2
        go_ret
        exact ⟨by rw [HR.out]; rfl, push (Below.refl _ _) _⟩
  · have e1 : (cl != 0) = true := by simpa using h1
    have HR : Hid (c = true) := by rw [HC.out]; exact decide_eq_true (fun h => h1 h.1)
    clear h1
    go_enter Tryz.func113, Tryz.ntmps113
    go_wp2
    go_ret
    exact ⟨by rw [HR.out]; rfl, push (Below.refl _ _) _⟩
end Go.Proofs.YtlelckbeoclhbaaGreat

namespace Go.Proofs.YtlelckbeoclhbaaGreat
open Go.RowKit
theorem isCar_is (x y : Int) (w : World) :
    Calls Tryz.prog 174 #[.int .i64 x, .int .i64 y] w fun e w' => e = .returned (.bool (decide (In x 1 2000 ∧ In y 1 500))) ∧ w' = w := by
  obtain ⟨c, hc⟩ : ∃ c, c = decide (In x 1 2000 ∧ In y 1 500) := ⟨_, rfl⟩
  rw [← hc]
  have HC : Hid (c = decide (In x 1 2000 ∧ In y 1 500)) := hc
  clear hc
  by_cases h1 : In x 1 2000
  · have e1 : decide (In x 1 2000) = true := decide_eq_true h1
    have H1 : Hid (In x 1 2000) := h1
    clear h1
    by_cases h2 : In y 1 500
    · have e2 : decide (In y 1 500) = true := decide_eq_true h2
      have H2 : Hid (In y 1 500) := h2
      clear h2
      go_enter Tryz.func174, Tryz.ntmps174
      go_wp2_with (first | (go_at_call 143; refine (within_is _ _ _ _).mono ?_; rintro e w' ⟨rfl, hw'⟩; have hw' := hw'.symm; subst hw'))
      go_ret
      exact ⟨by rw [HC.out, decide_eq_true ⟨H1.out, H2.out⟩]; rfl, rfl⟩
    · have e2 : decide (In y 1 500) = false := decide_eq_false h2
      have H2 : Hid (¬ In y 1 500) := h2
      clear h2
      go_enter Tryz.func174, Tryz.ntmps174
      go_wp2_with (first | (go_at_call 143; refine (within_is _ _ _ _).mono ?_; rintro e w' ⟨rfl, hw'⟩; have hw' := hw'.symm; subst hw'))
      go_ret
      exact ⟨by rw [HC.out, decide_eq_false (fun h => H2.out h.2)]; rfl, rfl⟩
  · have e1 : decide (In x 1 2000) = false := decide_eq_false h1
    have H1 : Hid (¬ In x 1 2000) := h1
    clear h1
    go_enter Tryz.func174, Tryz.ntmps174
    go_wp2_with (first | (go_at_call 143; refine (within_is _ _ _ _).mono ?_; rintro e w' ⟨rfl, hw'⟩; have hw' := hw'.symm; subst hw'))
    go_ret
    exact ⟨by rw [HC.out, decide_eq_false (fun h => H1.out h.1)]; rfl, rfl⟩
end Go.Proofs.YtlelckbeoclhbaaGreat

namespace Go.Proofs.YtlelckbeoclhbaaGreat
open Go.RowKit
theorem wish_is (cl : Int) (all : Bool) (be : Int) (w : World) :
    Calls Tryz.prog 175 #[.int .i64 cl, .bool all, .int .i64 be] w fun e w' => e = .returned (.bool (decide (CabOk cl all be))) ∧ w' = w := by
  obtain ⟨c, hc⟩ : ∃ c, c = decide (CabOk cl all be) := ⟨_, rfl⟩
  rw [← hc]
  have HC : Hid (c = decide (CabOk cl all be)) := hc
  clear hc
  by_cases h1 : In cl 1 3
  · have e1 : decide (In cl 1 3) = true := decide_eq_true h1
    have H1 : Hid (In cl 1 3) := h1
    clear h1
    cases all with
    | true =>
      by_cases h2 : be = 0
      · subst h2
        go_enter Tryz.func175, Tryz.ntmps175
        go_wp2_with (first | (go_at_call 165; refine (class_is _ _).mono ?_; rintro e w' ⟨rfl, hw'⟩; have hw' := hw'.symm; subst hw'))
        go_ret
        exact ⟨by rw [HC.out, decide_eq_true ⟨H1.out, .inl ⟨rfl, rfl⟩⟩]; rfl, rfl⟩
      · have e2 : (be == 0) = false := by simpa using h2
        have H2 : Hid (¬ be = 0) := h2
        clear h2
        go_enter Tryz.func175, Tryz.ntmps175
        go_wp2_with (first | (go_at_call 165; refine (class_is _ _).mono ?_; rintro e w' ⟨rfl, hw'⟩; have hw' := hw'.symm; subst hw'))
        go_ret
        exact ⟨by rw [HC.out, decide_eq_false (fun h => by rcases h.2 with h | h; exact H2.out h.2; cases h.1)]; rfl, rfl⟩
    | false =>
      by_cases h2 : In be 1 4
      · have e2 : decide (In be 1 4) = true := decide_eq_true h2
        have H2 : Hid (In be 1 4) := h2
        clear h2
        go_enter Tryz.func175, Tryz.ntmps175
        go_wp2_with (first | (go_at_call 165; refine (class_is _ _).mono ?_; rintro e w' ⟨rfl, hw'⟩; have hw' := hw'.symm; subst hw') | (go_at_call 166; refine (berths_is _ _).mono ?_; rintro e w' ⟨rfl, hw'⟩; have hw' := hw'.symm; subst hw'))
        go_ret
        exact ⟨by rw [HC.out, decide_eq_true ⟨H1.out, .inr ⟨rfl, H2.out⟩⟩]; rfl, rfl⟩
      · have e2 : decide (In be 1 4) = false := decide_eq_false h2
        have H2 : Hid (¬ In be 1 4) := h2
        clear h2
        go_enter Tryz.func175, Tryz.ntmps175
        go_wp2_with (first | (go_at_call 165; refine (class_is _ _).mono ?_; rintro e w' ⟨rfl, hw'⟩; have hw' := hw'.symm; subst hw') | (go_at_call 166; refine (berths_is _ _).mono ?_; rintro e w' ⟨rfl, hw'⟩; have hw' := hw'.symm; subst hw'))
        go_ret
        exact ⟨by rw [HC.out, decide_eq_false (fun h => by rcases h.2 with h | h; cases h.1; exact H2.out h.2)]; rfl, rfl⟩
  · have e1 : decide (In cl 1 3) = false := decide_eq_false h1
    have H1 : Hid (¬ In cl 1 3) := h1
    clear h1
    cases all with
    | true =>
      go_enter Tryz.func175, Tryz.ntmps175
      go_wp2_with (first | (go_at_call 165; refine (class_is _ _).mono ?_; rintro e w' ⟨rfl, hw'⟩; have hw' := hw'.symm; subst hw'))
      go_ret
      exact ⟨by rw [HC.out, decide_eq_false (fun h => H1.out h.1)]; rfl, rfl⟩
    | false =>
      go_enter Tryz.func175, Tryz.ntmps175
      go_wp2_with (first | (go_at_call 165; refine (class_is _ _).mono ?_; rintro e w' ⟨rfl, hw'⟩; have hw' := hw'.symm; subst hw'))
      go_ret
      exact ⟨by rw [HC.out, decide_eq_false (fun h => H1.out h.1)]; rfl, rfl⟩
end Go.Proofs.YtlelckbeoclhbaaGreat
