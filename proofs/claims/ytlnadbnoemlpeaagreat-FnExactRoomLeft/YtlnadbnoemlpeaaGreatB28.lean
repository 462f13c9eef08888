/-
  OWN TEXT: SpecT, FitS0, SpecFc.
-/
import Derived.Deep.DeepCutAuto
import Derived.Test.YtlnadbnoemlpeaaGreatB27
import Derived.Test.YtlnadbnoemlpeaaGreatB01
import Derived.Test.YtlnadbnoemlpeaaGreatB05
import Derived.Test.YtlnadbnoemlpeaaGreatB11
import Derived.Test.YtlnadbnoemlpeaaGreatB08
import Derived.Test.YtlnadbnoemlpeaaGreatB09
namespace Go.Proofs.YtlnadbnoemlpeaaGreat
open Go.RowKit

set_option maxHeartbeats 3200000 in
set_option maxRecDepth 100000 in
theorem specTab_any (ao : Option Addr) (N c : Nat) (S : Nat → Sail) (w : World) (hN : N ≤ 1048576) (hs : ShortAll N S 1048576) (hx : SailsAt w ao N S) :
    Calls Tryz.prog 25 #[.slice ao N c] w fun e w' => SaysIf (GoodTab N S) e ∧ Below w.heap.size w w' := by
  have HS : Hid (ShortAll N S 1048576) := hs
  clear hs
  by_cases h6 : N ≤ 6
  · have d6 : decide (6 < N) = false := by simp; omega
    go_enter Tryz.func25, Tryz.ntmps25
    go_wp2
    go_loopw [3, 4, 10] (fun _ _ i wr => ∃ k : Nat, k ≤ N ∧ i = .int .i64 k ∧ (∀ j, j < k → GoodSail (S j) ∧ (0 < j → (S (j - 1)).id < (S j).id)) ∧ Below w.heap.size w wr) (fun _ _ i _ => N - (intOf i).toNat)
    case atStart => exact ⟨0, Nat.zero_le _, rfl, fun j hj => by omega, Below.refl _ _⟩
    case round =>
      obtain ⟨k, hk, rfl, hall, hbel⟩ := hrel
      have HA : Hid (∀ j, j < k → GoodSail (S j) ∧ (0 < j → (S (j - 1)).id < (S j).id)) := hall
      clear hall d6
      by_cases hlt : k < N
      · have HP : Hid (0 < k → ∀ b off, ao = some ⟨b, off, none⟩ → w.cell? ⟨b, off + (k - 1) * 8, none⟩ = some (.int .i64 (S (k - 1)).id)) := by
          intro h b off e
          obtain ⟨b', off', _, _, _, _, e', g, _⟩ := hx (k - 1) (by omega)
          rw [e] at e'
          simp only [Option.some.injEq, Addr.mk.injEq, and_true] at e'
          obtain ⟨rfl, rfl⟩ := e'
          exact g
        obtain ⟨b, off, la, lc, ca, cc, rfl, h0, h1, h2, h3, h4, h5, h6', h7, h8, h9, _, _⟩ := hx k hlt
        have HP2 : Hid (0 < k → w.cell? ⟨b, off + (k - 1) * 8, none⟩ = some (.int .i64 (S (k - 1)).id)) := fun h => HP.out h b off rfl
        clear HP
        have hb := World.block_lt_of_cell? w _ h1
        have c0 := (hbel.cell (p := ⟨b, off + k * 8, none⟩) hb).trans h0
        have c1 := (hbel.cell (p := ⟨b, off + k * 8 + 1, none⟩) hb).trans h1
        have c2 := (hbel.cell (p := ⟨b, off + k * 8 + 2, none⟩) hb).trans h2
        have c3 := (hbel.cell (p := ⟨b, off + k * 8 + 3, none⟩) hb).trans h3
        have c4 := (hbel.cell (p := ⟨b, off + k * 8 + 4, none⟩) hb).trans h4
        have c5 := (hbel.cell (p := ⟨b, off + k * 8 + 5, none⟩) hb).trans h5
        have c6 := (hbel.cell (p := ⟨b, off + k * 8 + 6, none⟩) hb).trans h6'
        have c7 := (hbel.cell (p := ⟨b, off + k * 8 + 7, none⟩) hb).trans h7
        obtain ⟨s1, s2, s3, s4⟩ := HS.out k hlt
        have s1' : (S k).fr.size ≤ 1000000000000000 := by omega
        have s2' : (S k).dst.size ≤ 1000000000000000 := by omega
        clear s1 s2
        have hbx := push hbel (.cells #[.int .i64 (S k).id, .string (S k).fr, .string (S k).dst, .int .i64 (S k).dep, .int .i64 (S k).arr, .slice la (S k).la.n lc, .slice ca (S k).ca.n cc, .int .i64 (S k).most] 56)
        have hbox := heap_alloc_new wr (.cells #[.int .i64 (S k).id, .string (S k).fr, .string (S k).dst, .int .i64 (S k).dep, .int .i64 (S k).arr, .slice la (S k).la.n lc, .slice ca (S k).ca.n cc, .int .i64 (S k).most] 56)
        clear h0 h1 h2 h3 h4 h5 h6' h7
        go_upto_region 6 with fail
        generalize hW : wr.alloc (.cells #[.int .i64 (S k).id, .string (S k).fr, .string (S k).dst, .int .i64 (S k).dep, .int .i64 (S k).arr, .slice la (S k).la.n lc, .slice ca (S k).ca.n cc, .int .i64 (S k).most] 56) = W at hbx hbox ⊢
        clear hW
        have hrW : wr.heap.size < W.heap.size := blk_lt hbox
        have z0 : ∀ g : Grown W, g.val.cell? ⟨wr.heap.size, 0, none⟩ = _ := fun g => (g.bel.cell hrW).trans (blk_cell hbox 0 _ rfl)
        have z1 : ∀ g : Grown W, g.val.cell? ⟨wr.heap.size, 1, none⟩ = _ := fun g => (g.bel.cell hrW).trans (blk_cell hbox 1 _ rfl)
        have z2 : ∀ g : Grown W, g.val.cell? ⟨wr.heap.size, 2, none⟩ = _ := fun g => (g.bel.cell hrW).trans (blk_cell hbox 2 _ rfl)
        have z3 : ∀ g : Grown W, g.val.cell? ⟨wr.heap.size, 3, none⟩ = _ := fun g => (g.bel.cell hrW).trans (blk_cell hbox 3 _ rfl)
        have z4 : ∀ g : Grown W, g.val.cell? ⟨wr.heap.size, 4, none⟩ = _ := fun g => (g.bel.cell hrW).trans (blk_cell hbox 4 _ rfl)
        have z5 : ∀ g : Grown W, g.val.cell? ⟨wr.heap.size, 5, none⟩ = _ := fun g => (g.bel.cell hrW).trans (blk_cell hbox 5 _ rfl)
        have z6 : ∀ g : Grown W, g.val.cell? ⟨wr.heap.size, 6, none⟩ = _ := fun g => (g.bel.cell hrW).trans (blk_cell hbox 6 _ rfl)
        have z7 : ∀ g : Grown W, g.val.cell? ⟨wr.heap.size, 7, none⟩ = _ := fun g => (g.bel.cell hrW).trans (blk_cell hbox 7 _ rfl)
        have hbW : b < W.heap.size := Nat.lt_of_lt_of_le hb hbx.size
        clear c0 c1 c2 c3 c4 c5 c6 c7 hbox
        go_cut [10, 32] (fun i c wx => i = .int .i64 k ∧ Tells (GoodSail (S k) ∧ (0 < k → (S (k - 1)).id < (S k).id)) c ∧ Below w.heap.size w wx)
        case first =>
          by_cases hg : GoodSail (S k)
          · have HG : Hid (GoodSail (S k)) := hg
            clear hg
            by_cases k0 : k = 0
            · subst k0
              refine wp_region_grow (by kernel_rfl) (by kernel_rfl) ?_
              repeat (first | go_big_quiet_skip | (go_big_quiet_want; go_big_quiet_op; first | go_big_quiet_on | (apply Exists.intro; refine ⟨fun g => ?_, ?_⟩; (focus (go_at_call 62; refine grown_call (v := .bool true) ((specSailing_any _ _ _ _ _ _ _ _ _ _ _ _ (S 0).la (S 0).ca _ rfl rfl s1' s2' s3 s4 (h8.below (after hbx g.bel)) (h9.below (after hbx g.bel))).mono ?_); rintro e w2 ⟨⟨bb, rfl, hi⟩, hbb⟩; obtain rfl := hi.2 HG.out; exact ⟨rfl, hbb⟩)); go_big_quiet_on)))
              refine wpQuiet_nil ?_
              rintro _ ⟨g, rfl⟩
              go_wp2
              go_meet
              exact ⟨rfl, tells_good ⟨HG.out, fun h => by omega⟩, after hbx g.bel⟩
            · have d0 : decide (0 < k) = true := by simp; omega
              have hk2 : ((k : Int) - 1).toNat = k - 1 := by omega
              have hk3 : (k : Int) - 1 < (N : Int) := by omega
              have hk4 : (0 : Int) ≤ (k : Int) - 1 := by omega
              have hk5 : IntKind.i64.wrap ((k : Int) - 1) = (k : Int) - 1 := by rw [IntKind.wrap_i64]; omega
              have y0 : ∀ g : Grown W, g.val.cell? ⟨b, off + (k - 1) * 8, none⟩ = _ := fun g => ((after hbx g.bel).cell (p := ⟨b, off + (k - 1) * 8, none⟩) hb).trans (HP2.out (by omega))
              by_cases hle : (S k).id ≤ (S (k - 1)).id
              · have e2 : decide ((S k).id ≤ (S (k - 1)).id) = true := by simpa using hle
                refine wp_region_grow (by kernel_rfl) (by kernel_rfl) ?_
                repeat (first | go_big_quiet_skip | (go_big_quiet_want; go_big_quiet_op; first | go_big_quiet_on | (apply Exists.intro; refine ⟨fun g => ?_, ?_⟩; (focus (go_at_call 62; refine grown_call (v := .bool true) ((specSailing_any _ _ _ _ _ _ _ _ _ _ _ _ (S k).la (S k).ca _ rfl rfl s1' s2' s3 s4 (h8.below (after hbx g.bel)) (h9.below (after hbx g.bel))).mono ?_); rintro e w2 ⟨⟨bb, rfl, hi⟩, hbb⟩; obtain rfl := hi.2 HG.out; exact ⟨rfl, hbb⟩)); go_big_quiet_on)))
                refine wpQuiet_nil ?_
                rintro _ ⟨g, rfl⟩
                go_wp2
                go_meet
                exact ⟨rfl, tells_bad (fun h => by have := h.2 (by omega); omega), after hbx g.bel⟩
              · have e2 : decide ((S k).id ≤ (S (k - 1)).id) = false := by simpa using hle
                refine wp_region_grow (by kernel_rfl) (by kernel_rfl) ?_
                repeat (first | go_big_quiet_skip | (go_big_quiet_want; go_big_quiet_op; first | go_big_quiet_on | (apply Exists.intro; refine ⟨fun g => ?_, ?_⟩; (focus (go_at_call 62; refine grown_call (v := .bool true) ((specSailing_any _ _ _ _ _ _ _ _ _ _ _ _ (S k).la (S k).ca _ rfl rfl s1' s2' s3 s4 (h8.below (after hbx g.bel)) (h9.below (after hbx g.bel))).mono ?_); rintro e w2 ⟨⟨bb, rfl, hi⟩, hbb⟩; obtain rfl := hi.2 HG.out; exact ⟨rfl, hbb⟩)); go_big_quiet_on)))
                refine wpQuiet_nil ?_
                rintro _ ⟨g, rfl⟩
                go_wp2
                go_meet
                exact ⟨rfl, tells_good ⟨HG.out, fun _ => by omega⟩, after hbx g.bel⟩
          · have HG : Hid (¬ GoodSail (S k)) := hg
            clear hg
            refine wp_region_grow (by kernel_rfl) (by kernel_rfl) ?_
            repeat (first | go_big_quiet_skip | (go_big_quiet_want; go_big_quiet_op; first | go_big_quiet_on | (apply Exists.intro; refine ⟨fun g => ?_, ?_⟩; (focus (go_at_call 62; refine grown_call (v := .bool false) ((specSailing_any _ _ _ _ _ _ _ _ _ _ _ _ (S k).la (S k).ca _ rfl rfl s1' s2' s3 s4 (h8.below (after hbx g.bel)) (h9.below (after hbx g.bel))).mono ?_); rintro e w2 ⟨⟨bb, rfl, hi⟩, hbb⟩; obtain rfl := Bool.eq_false_iff.2 (fun e => HG.out (hi.1 e)); exact ⟨rfl, hbb⟩)); go_big_quiet_on)))
            refine wpQuiet_nil ?_
            rintro _ ⟨g, rfl⟩
            go_wp2
            go_meet
            exact ⟨rfl, tells_bad (fun h => HG.out h.1), after hbx g.bel⟩
        case rest =>
          obtain ⟨rfl, ⟨t, rfl, ht⟩, hbx2⟩ := hcut
          have HT : Hid (t = false ↔ GoodSail (S k) ∧ (0 < k → (S (k - 1)).id < (S k).id)) := ht
          clear ht z0 z1 z2 z3 z4 z5 z6 z7
          cases t with
          | true =>
            go_wp2
            go_ret
            exact ⟨says_no (fun h => by have := HT.out.2 (h.2 k hlt); cases this), hbx2⟩
          | false =>
            have HK := HT.out.1 rfl
            have HK : Hid _ := HK
            clear HT
            go_wp2
            go_roundw
            case rel => exact ⟨k + 1, by omega, by go_num, fun j hj => by
              by_cases e : j = k
              · subst e; exact HK.out
              · exact HA.out j (by omega), hbx2⟩
            case measure => simp [intOf]; omega
      · obtain rfl : k = N := by omega
        go_wp2
        go_ret
        exact ⟨says_yes ⟨h6, HA.out⟩, hbel⟩
  · have d6 : decide (6 < N) = true := by simp; omega
    go_enter Tryz.func25, Tryz.ntmps25
    go_wp2
    go_ret
    exact ⟨says_no (fun h => h6 h.1), Below.refl _ _⟩

end Go.Proofs.YtlnadbnoemlpeaaGreat

namespace Go.Proofs.YtlnadbnoemlpeaaGreat
open Go.RowKit

set_option maxHeartbeats 800000 in
set_option maxRecDepth 100000 in
theorem l3At_any (ao : Option Addr) (N c : Nat) (S : Nat → Sail) (x : Int) (w : World) (hN : N ≤ 1048576) (hx : SailsAt w ao N S) :
    Calls Tryz.prog 44 #[.slice ao N c, .int .i64 x] w fun e w' => ((findIx S x N < N ∧ e = .returned (.int .i64 (findIx S x N))) ∨ (findIx S x N = N ∧ e = .returned (.int .i64 (-1)))) ∧ Below w.heap.size w w' := by
  go_enter Tryz.func44, Tryz.ntmps44
  go_wp2
  go_loopw [5, 6, 9] (fun _ _ i wr => ∃ k : Nat, k ≤ N ∧ i = .int .i64 k ∧ (∀ j, j < k → (S j).id ≠ x) ∧ Below w.heap.size w wr) (fun _ _ i _ => N - (intOf i).toNat)
  case atStart => exact ⟨0, Nat.zero_le _, rfl, fun j hj => by omega, Below.refl _ _⟩
  case round =>
    obtain ⟨k, hk, rfl, hall, hbel⟩ := hrel
    have HA : Hid (∀ j, j < k → (S j).id ≠ x) := hall
    clear hall
    by_cases hlt : k < N
    · obtain ⟨b, off, la, lc, ca, cc, rfl, h0, h1, h2, h3, h4, h5, h6, h7, _, _, _, _⟩ := hx k hlt
      have hb := World.block_lt_of_cell? w _ h1
      have c0 := (hbel.cell (p := ⟨b, off + k * 8, none⟩) hb).trans h0
      have c1 := (hbel.cell (p := ⟨b, off + k * 8 + 1, none⟩) hb).trans h1
      have c2 := (hbel.cell (p := ⟨b, off + k * 8 + 2, none⟩) hb).trans h2
      have c3 := (hbel.cell (p := ⟨b, off + k * 8 + 3, none⟩) hb).trans h3
      have c4 := (hbel.cell (p := ⟨b, off + k * 8 + 4, none⟩) hb).trans h4
      have c5 := (hbel.cell (p := ⟨b, off + k * 8 + 5, none⟩) hb).trans h5
      have c6 := (hbel.cell (p := ⟨b, off + k * 8 + 6, none⟩) hb).trans h6
      have c7 := (hbel.cell (p := ⟨b, off + k * 8 + 7, none⟩) hb).trans h7
      clear h0 h1 h2 h3 h4 h5 h6 h7
      by_cases he : (S k).id = x
      · have e1 : ((S k).id == x) = true := by simpa using he
        have HF : Hid (findIx S x N = k) := findIx_is hlt he HA.out
        clear he
        go_wp2
        go_ret
        exact ⟨.inl ⟨by rw [HF.out]; exact hlt, by rw [HF.out]; rfl⟩, push hbel _⟩
      · have e1 : ((S k).id == x) = false := by simpa using he
        have HE : Hid ((S k).id ≠ x) := he
        clear he
        go_wp2
        go_roundw
        case rel => exact ⟨k + 1, by omega, by go_num, fun j hj => by
          by_cases e : j = k
          · subst e; exact HE.out
          · exact HA.out j (by omega), push hbel _⟩
        case measure => simp [intOf]; omega
    · obtain rfl : k = N := by omega
      have HF : Hid (findIx S x k = k) := findIx_none HA.out
      go_wp2
      go_ret
      exact ⟨.inr ⟨HF.out, rfl⟩, hbel⟩

set_option maxHeartbeats 3200000 in
set_option maxRecDepth 100000 in
theorem l3Fit_any (ao bo : Option Addr) (N n c c' : Nat) (S : Nat → Sail) (G : Nat → Int) (w : World) (hN : N ≤ 1048576) (hn : n ≤ 1048576) (hx : SailsAt w ao N S) (hy : IntsAt w bo n G) :
    Calls Tryz.prog 71 #[.slice ao N c, .slice bo n c'] w fun e w' => SaysIf (LegsOk N S n G) e ∧ Below w.heap.size w w' := by
  by_cases g3 : In (n : Int) 1 3
  case neg =>
    have d3 : decide (In (n : Int) 1 3) = false := decide_eq_false g3
    have HN : Hid (¬ LegsOk N S n G) := fun h => g3 ⟨by have := h.1; omega, by have := h.2.1; omega⟩
    clear g3
    go_enter Tryz.func71, Tryz.ntmps71
    go_wp2_with (first | (go_at_call 65; refine (l1In_is _ _ _ _).mono ?_; rintro e w' ⟨rfl, hw'⟩; have hw' := hw'.symm; subst hw'))
    go_ret
    exact ⟨says_no HN.out, Below.refl _ _⟩
  have d3 : decide (In (n : Int) 1 3) = true := decide_eq_true g3
  have H3 : Hid (1 ≤ n ∧ n ≤ 3) := ⟨by have := g3.1; omega, by have := g3.2; omega⟩
  have hn3 : n ≤ 3 := H3.out.2
  clear g3
  go_enter Tryz.func71, Tryz.ntmps71
  go_wp2_with (first | (go_at_call 65; refine (l1In_is _ _ _ _).mono ?_; rintro e w' ⟨rfl, hw'⟩; have hw' := hw'.symm; subst hw'))
  go_loopw [5, 6, 7, 8, 15] (fun _ _ _ _ i wr => ∃ k : Nat, k ≤ n ∧ i = .int .i64 k ∧ (∀ j, j < k → LegOk N S G j) ∧ Below w.heap.size w wr) (fun _ _ _ _ i _ => n - (intOf i).toNat)
  case atStart => exact ⟨0, Nat.zero_le _, rfl, fun j hj => by omega, Below.refl _ _⟩
  case round =>
    obtain ⟨k, hk, rfl, hall, hbel⟩ := hrel
    have HA : Hid (∀ j, j < k → LegOk N S G j) := hall
    clear hall d3
    by_cases hlt : k < n
    · have HQ : Hid (0 < k → ∀ b off, bo = some ⟨b, off, none⟩ → w.cell? ⟨b, off + (k - 1), none⟩ = some (.int .i64 (G (k - 1)))) := by
        intro h b off e
        obtain ⟨b', off', e', g⟩ := hy (k - 1) (by omega)
        rw [e] at e'
        simp only [Option.some.injEq, Addr.mk.injEq, and_true] at e'
        obtain ⟨rfl, rfl⟩ := e'
        exact g
      obtain ⟨qb, qoff, rfl, hq⟩ := hy k hlt
      have HQ2 : Hid (0 < k → w.cell? ⟨qb, qoff + (k - 1), none⟩ = some (.int .i64 (G (k - 1)))) := fun h => HQ.out h qb qoff rfl
      clear HQ
      have hqb := World.block_lt_of_cell? w _ hq
      have p0 := (hbel.cell (p := ⟨qb, qoff + k, none⟩) hqb).trans hq
      clear hq
      go_wp2_with fail
      refine (l3At_any ao N c S (G k) _ hN (hx.below hbel)).mono ?_
      rintro e w2 ⟨hr, hb2⟩
      have hbel2 := after hbel hb2
      clear hb2 hbel p0
      rcases hr with ⟨hf, rfl⟩ | ⟨hf, rfl⟩
      · obtain ⟨x, hxx⟩ : ∃ x, x = findIx S (G k) N := ⟨_, rfl⟩
        rw [← hxx] at hf ⊢
        have HX : Hid (x = findIx S (G k) N) := hxx
        clear hxx
        by_cases k0 : k = 0
        · subst k0
          have dn : decide ((x : Int) < 0) = false := by simp
          go_wp2
          go_roundw
          case rel => exact ⟨1, by omega, by go_num, fun j hj => by
            obtain rfl : j = 0 := by omega
            exact ⟨by rw [← HX.out]; exact hf, fun h => by omega⟩, hbel2⟩
          case measure => simp [intOf]; omega
        · have dn : decide ((x : Int) < 0) = false := by simp
          have d0 : decide (0 < k) = true := by simp; omega
          have hk2 : ((k : Int) - 1).toNat = k - 1 := by omega
          have hk3 : (k : Int) - 1 < (n : Int) := by omega
          have hk4 : (0 : Int) ≤ (k : Int) - 1 := by omega
          have hk5 : IntKind.i64.wrap ((k : Int) - 1) = (k : Int) - 1 := by rw [IntKind.wrap_i64]; omega
          have y0 := (hbel2.cell (p := ⟨qb, qoff + (k - 1), none⟩) hqb).trans (HQ2.out (by omega))
          go_wp2_with fail
          refine (l3At_any ao N c S (G (k - 1)) _ hN (hx.below hbel2)).mono ?_
          rintro e w3 ⟨hr, hb3⟩
          have hbel3 := after hbel2 hb3
          have HP : Hid (findIx S (G (k - 1)) N < N) := (HA.out (k - 1) (by omega)).1
          clear hb3 hbel2 y0 dn d0
          rcases hr with ⟨hf2, rfl⟩ | ⟨hf2, rfl⟩
          · obtain ⟨y, hyy⟩ : ∃ y, y = findIx S (G (k - 1)) N := ⟨_, rfl⟩
            rw [← hyy] at hf2 ⊢
            have HY : Hid (y = findIx S (G (k - 1)) N) := hyy
            clear hyy
            have x1 : (x : Int) < (N : Int) := by omega
            have x0 : (0 : Int) ≤ (x : Int) := by omega
            have y1 : (y : Int) < (N : Int) := by omega
            have y0 : (0 : Int) ≤ (y : Int) := by omega
            have HXS := hx x hf
            obtain ⟨b, off, la, lc, ca, cc, rfl, h0, h1, h2, h3, h4, h5, h6, h7, _, _, _, _⟩ := hx y hf2
            obtain ⟨b', off', _, _, _, _, e', g0, g1, g2, g3, _⟩ := HXS
            simp only [Option.some.injEq, Addr.mk.injEq, and_true] at e'
            obtain ⟨rfl, rfl⟩ := e'
            have hb := World.block_lt_of_cell? w _ h1
            have c0 := (hbel3.cell (p := ⟨b, off + y * 8, none⟩) hb).trans h0
            have c1 := (hbel3.cell (p := ⟨b, off + y * 8 + 1, none⟩) hb).trans h1
            have c2 := (hbel3.cell (p := ⟨b, off + y * 8 + 2, none⟩) hb).trans h2
            have c3 := (hbel3.cell (p := ⟨b, off + y * 8 + 3, none⟩) hb).trans h3
            have c4 := (hbel3.cell (p := ⟨b, off + y * 8 + 4, none⟩) hb).trans h4
            have c5 := (hbel3.cell (p := ⟨b, off + y * 8 + 5, none⟩) hb).trans h5
            have c6 := (hbel3.cell (p := ⟨b, off + y * 8 + 6, none⟩) hb).trans h6
            have c7 := (hbel3.cell (p := ⟨b, off + y * 8 + 7, none⟩) hb).trans h7
            have hbx := push hbel3 (.cells #[.int .i64 (S y).id, .string (S y).fr, .string (S y).dst, .int .i64 (S y).dep, .int .i64 (S y).arr, .slice la (S y).la.n lc, .slice ca (S y).ca.n cc, .int .i64 (S y).most] 56)
            have q1 := (hbx.cell (p := ⟨b, off + x * 8 + 1, none⟩) hb).trans g1
            have q3 := (hbx.cell (p := ⟨b, off + x * 8 + 3, none⟩) hb).trans g3
            clear h0 h1 h2 h3 h4 h5 h6 h7 g0 g1 g2 g3
            have HOK : Hid (((S y).dst = (S x).fr ∧ (S y).arr ≤ (S x).dep) ↔ LegOk N S G k) := by
              unfold LegOk
              rw [← HX.out, ← HY.out]
              exact ⟨fun h => ⟨hf, fun _ => h⟩, fun h => h.2 (by omega)⟩
            by_cases m1 : (S y).dst = (S x).fr
            · have e1 : ((S y).dst.toList == (S x).fr.toList) = true := bytes_eq.2 m1
              have M1 : Hid ((S y).dst = (S x).fr) := m1
              clear m1
              by_cases m2 : (S y).arr ≤ (S x).dep
              · have e2 : decide ((S x).dep < (S y).arr) = false := by simpa using m2
                go_wp2
                go_quiet (fail)
                go_wp2
                go_roundw
                case rel => exact ⟨k + 1, by omega, by go_num, fun j hj => by
                  by_cases e : j = k
                  · subst e; exact HOK.out.1 ⟨M1.out, m2⟩
                  · exact HA.out j (by omega), below_drewN hbx _⟩
                case measure => simp [intOf]; omega
              · have e2 : decide ((S x).dep < (S y).arr) = true := by simpa using m2
                go_wp2
                go_quiet (fail)
                go_wp2
                go_ret
                exact ⟨says_no (fun h => by have := (HOK.out.2 (h.2.2 k hlt)).2; omega), below_drewN hbx _⟩
            · have e1 : ((S y).dst.toList == (S x).fr.toList) = false := bytes_ne.2 m1
              have M1 : Hid (¬ (S y).dst = (S x).fr) := m1
              clear m1
              go_wp2
              go_quiet (fail)
              go_wp2
              go_ret
              exact ⟨says_no (fun h => M1.out (HOK.out.2 (h.2.2 k hlt)).1), below_drewN hbx _⟩
          · exfalso
            have := HP.out
            omega
      · have dn : decide ((-1 : Int) < 0) = true := rfl
        have HF : Hid (findIx S (G k) N = N) := hf
        clear hf
        go_wp2
        go_ret
        exact ⟨says_no (fun h => by have := (h.2.2 k hlt).1; have := HF.out; omega), hbel2⟩
    · obtain rfl : k = n := by omega
      go_wp2
      go_ret
      exact ⟨says_yes ⟨H3.out.1, H3.out.2, HA.out⟩, hbel⟩

end Go.Proofs.YtlnadbnoemlpeaaGreat

namespace Go.Proofs.YtlnadbnoemlpeaaGreat
open Go.RowKit

theorem l6Car_is (x y : Int) (w : World) :
    Calls Tryz.prog 113 #[.int .i64 x, .int .i64 y] w fun e w' => e = .returned (.bool (decide (CarOk x y))) ∧ w' = w := by
  obtain ⟨c, hc⟩ : ∃ c, c = decide (CarOk x y) := ⟨_, rfl⟩
  rw [← hc]
  have HC : Hid (c = decide (CarOk x y)) := hc
  clear hc
  by_cases h1 : In x 1 2000
  · have e1 : decide (In x 1 2000) = true := decide_eq_true h1
    have H1 : Hid (In x 1 2000) := h1
    clear h1
    by_cases h2 : In y 1 500
    · have e2 : decide (In y 1 500) = true := decide_eq_true h2
      have H2 : Hid (In y 1 500) := h2
      clear h2
      go_enter Tryz.func113, Tryz.ntmps113
      go_wp2_with (first | (go_at_call 65; refine (l1In_is _ _ _ _).mono ?_; rintro e w' ⟨rfl, hw'⟩; have hw' := hw'.symm; subst hw'))
      go_ret
      exact ⟨by rw [HC.out, decide_eq_true ⟨H1.out, H2.out⟩]; rfl, rfl⟩
    · have e2 : decide (In y 1 500) = false := decide_eq_false h2
      have H2 : Hid (¬ In y 1 500) := h2
      clear h2
      go_enter Tryz.func113, Tryz.ntmps113
      go_wp2_with (first | (go_at_call 65; refine (l1In_is _ _ _ _).mono ?_; rintro e w' ⟨rfl, hw'⟩; have hw' := hw'.symm; subst hw'))
      go_ret
      exact ⟨by rw [HC.out, decide_eq_false (fun h => H2.out h.2)]; rfl, rfl⟩
  · have e1 : decide (In x 1 2000) = false := decide_eq_false h1
    have H1 : Hid (¬ In x 1 2000) := h1
    clear h1
    go_enter Tryz.func113, Tryz.ntmps113
    go_wp2_with (first | (go_at_call 65; refine (l1In_is _ _ _ _).mono ?_; rintro e w' ⟨rfl, hw'⟩; have hw' := hw'.symm; subst hw'))
    go_ret
    exact ⟨by rw [HC.out, decide_eq_false (fun h => H1.out h.1)]; rfl, rfl⟩

end Go.Proofs.YtlnadbnoemlpeaaGreat
