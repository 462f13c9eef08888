/-
  OWN TEXT: FitS0, SpecFc, SpecFg, SpecBk.
-/
import Derived.Deep.DeepCutAuto
import Derived.Deep.LoopGhost
import Derived.Test.YtlelckbeoclhbaaGreatB13
import Derived.Test.YtlelckbeoclhbaaGreatB10
import Derived.Test.YtlelckbeoclhbaaGreatB12
import Derived.Test.YtlelckbeoclhbaaGreatB07
import Derived.Test.YtlelckbeoclhbaaGreatB11
set_option maxHeartbeats 12800000
set_option maxRecDepth 100000
namespace Go.Proofs.YtlelckbeoclhbaaGreat
open Go.RowKit
theorem l3At_any (ao : Option Addr) (N c : Nat) (S : Nat → Sail) (x : Int) (w : World) (hN : N ≤ 1048576) (hx : SailsAt w ao N S) :
    Calls Tryz.prog 57 #[.slice ao N c, .int .i64 x] w fun e w' => ((findIx S x N < N ∧ e = .returned (.int .i64 (findIx S x N))) ∨ (findIx S x N = N ∧ e = .returned (.int .i64 (-1)))) ∧ Below w.heap.size w w' := by
  go_enter Tryz.func57, Tryz.ntmps57
  go_wp2
  go_loopw [5, 6, 9] (fun _ _ i wr => ∃ k : Nat, k ≤ N ∧ i = .int .i64 k ∧ (∀ j, j < k → (S j).id ≠ x) ∧ Below w.heap.size w wr) (fun _ _ i _ => N - (intOf i).toNat)
  case atStart => exact ⟨0, Nat.zero_le _, rfl, fun j hj => by omega, Below.refl _ _⟩
  case round =>
    obtain ⟨k, hk, rfl, hall, hbel⟩ := hrel
    have HA : Hid (∀ j, j < k → (S j).id ≠ x) := hall
    clear hall
    by_cases hlt : k < N
    · obtain ⟨b, off, la, lc, ca, cc, rfl, h0, h1, h2, h3, h4, h5, h6, h7, _, _, _, _⟩ := hx k hlt
      have hb := World.block_lt_of_cell? w _ h1
      have c0 := (hbel.cell (p := ⟨b, off + k * 8, none⟩) hb).trans h0
      have c1 := (hbel.cell (p := ⟨b, off + k * 8 + 1, none⟩) hb).trans h1
      have c2 := (hbel.cell (p := ⟨b, off + k * 8 + 2, none⟩) hb).trans h2
      have c3 := (hbel.cell (p := ⟨b, off + k * 8 + 3, none⟩) hb).trans h3
      have c4 := (hbel.cell (p := ⟨b, off + k * 8 + 4, none⟩) hb).trans h4
      have c5 := (hbel.cell (p := ⟨b, off + k * 8 + 5, none⟩) hb).trans h5
      have c6 := (hbel.cell (p := ⟨b, off + k * 8 + 6, none⟩) hb).trans h6
      have c7 := (hbel.cell (p := ⟨b, off + k * 8 + 7, none⟩) hb).trans h7
      clear h0 h1 h2 h3 h4 h5 h6 h7
      by_cases he : (S k).id = x
      · have e1 : ((S k).id == x) = true := by simpa using he
        have HF : Hid (findIx S x N = k) := findIx_is hlt he HA.out
        clear he
        go_wp2
        go_ret
        exact ⟨.inl ⟨by rw [HF.out]; exact hlt, by rw [HF.out]; rfl⟩, push hbel _⟩
      · have e1 : ((S k).id == x) = false := by simpa using he
        have HE : Hid ((S k).id ≠ x) := he
        clear he
        go_wp2
        go_roundw
        case rel => exact ⟨k + 1, by omega, by go_num, fun j hj => by
          by_cases e : j = k
          · subst e; exact HE.out
          · exact HA.out j (by omega), push hbel _⟩
        case measure => simp [intOf]; omega
    · obtain rfl : k = N := by omega
      have HF : Hid (findIx S x k = k) := findIx_none HA.out
      go_wp2
      go_ret
      exact ⟨.inr ⟨HF.out, rfl⟩, hbel⟩
theorem l3Fit_any (ao bo : Option Addr) (N n c c' : Nat) (S : Nat → Sail) (G : Nat → Int) (w : World) (hN : N ≤ 1048576) (hn : n ≤ 1048576) (hx : SailsAt w ao N S) (hy : IntsAt w bo n G) :
    Calls Tryz.prog 97 #[.slice ao N c, .slice bo n c'] w fun e w' => SaysIf (LegsOk N S n G) e ∧ Below w.heap.size w w' := by
  by_cases g3 : In (n : Int) 1 3
  case neg =>
    have d3 : decide (In (n : Int) 1 3) = false := decide_eq_false g3
    have HN : Hid (¬ LegsOk N S n G) := fun h => g3 ⟨by have := h.1; omega, by have := h.2.1; omega⟩
    clear g3
    go_enter Tryz.func97, Tryz.ntmps97
    go_wp2_with (first | (go_at_call 91; refine (l1In_is _ _ _ _).mono ?_; rintro e w' ⟨rfl, hw'⟩; have hw' := hw'.symm; subst hw'))
    go_ret
    exact ⟨says_no HN.out, Below.refl _ _⟩
  have d3 : decide (In (n : Int) 1 3) = true := decide_eq_true g3
  have H3 : Hid (1 ≤ n ∧ n ≤ 3) := ⟨by have := g3.1; omega, by have := g3.2; omega⟩
  have hn3 : n ≤ 3 := H3.out.2
  clear g3
  go_enter Tryz.func97, Tryz.ntmps97
  go_wp2_with (first | (go_at_call 91; refine (l1In_is _ _ _ _).mono ?_; rintro e w' ⟨rfl, hw'⟩; have hw' := hw'.symm; subst hw'))
  go_loopw [5, 6, 7, 8, 15] (fun _ _ _ _ i wr => ∃ k : Nat, k ≤ n ∧ i = .int .i64 k ∧ (∀ j, j < k → LegOk N S G j) ∧ Below w.heap.size w wr) (fun _ _ _ _ i _ => n - (intOf i).toNat)
  case atStart => exact ⟨0, Nat.zero_le _, rfl, fun j hj => by omega, Below.refl _ _⟩
  case round =>
    obtain ⟨k, hk, rfl, hall, hbel⟩ := hrel
    have HA : Hid (∀ j, j < k → LegOk N S G j) := hall
    clear hall d3
    by_cases hlt : k < n
    · have HQ : Hid (0 < k → ∀ b off, bo = some ⟨b, off, none⟩ → w.cell? ⟨b, off + (k - 1), none⟩ = some (.int .i64 (G (k - 1)))) := by
        intro h b off e
        obtain ⟨b', off', e', g⟩ := hy (k - 1) (by omega)
        rw [e] at e'
        simp only [Option.some.injEq, Addr.mk.injEq, and_true] at e'
        obtain ⟨rfl, rfl⟩ := e'
        exact g
      obtain ⟨qb, qoff, rfl, hq⟩ := hy k hlt
      have HQ2 : Hid (0 < k → w.cell? ⟨qb, qoff + (k - 1), none⟩ = some (.int .i64 (G (k - 1)))) := fun h => HQ.out h qb qoff rfl
      clear HQ
      have hqb := World.block_lt_of_cell? w _ hq
      have p0 := (hbel.cell (p := ⟨qb, qoff + k, none⟩) hqb).trans hq
      clear hq
      go_wp2_with fail
      refine (l3At_any ao N c S (G k) _ hN (hx.below hbel)).mono ?_
      rintro e w2 ⟨hr, hb2⟩
      have hbel2 := after hbel hb2
      clear hb2 hbel p0
      rcases hr with ⟨hf, rfl⟩ | ⟨hf, rfl⟩
      · obtain ⟨x, hxx⟩ : ∃ x, x = findIx S (G k) N := ⟨_, rfl⟩
        rw [← hxx] at hf ⊢
        have HX : Hid (x = findIx S (G k) N) := hxx
        clear hxx
        by_cases k0 : k = 0
        · subst k0
          have dn : decide ((x : Int) < 0) = false := by simp
          go_wp2
          go_roundw
          case rel => exact ⟨1, by omega, by go_num, fun j hj => by
            obtain rfl : j = 0 := by omega
            exact ⟨by rw [← HX.out]; exact hf, fun h => by omega⟩, hbel2⟩
          case measure => simp [intOf]; omega
        · have dn : decide ((x : Int) < 0) = false := by simp
          have d0 : decide (0 < k) = true := by simp; omega
          have hk2 : ((k : Int) - 1).toNat = k - 1 := by omega
          have hk3 : (k : Int) - 1 < (n : Int) := by omega
          have hk4 : (0 : Int) ≤ (k : Int) - 1 := by omega
          have hk5 : IntKind.i64.wrap ((k : Int) - 1) = (k : Int) - 1 := by rw [IntKind.wrap_i64]; omega
          have y0 := (hbel2.cell (p := ⟨qb, qoff + (k - 1), none⟩) hqb).trans (HQ2.out (by omega))
          go_wp2_with fail
          refine (l3At_any ao N c S (G (k - 1)) _ hN (hx.below hbel2)).mono ?_
          rintro e w3 ⟨hr, hb3⟩
          have hbel3 := after hbel2 hb3
          have HP : Hid (findIx S (G (k - 1)) N < N) := (HA.out (k - 1) (by omega)).1
          clear hb3 hbel2 y0 dn d0
          rcases hr with ⟨hf2, rfl⟩ | ⟨hf2, rfl⟩
          · obtain ⟨y, hyy⟩ : ∃ y, y = findIx S (G (k - 1)) N := ⟨_, rfl⟩
            rw [← hyy] at hf2 ⊢
            have HY : Hid (y = findIx S (G (k - 1)) N) := hyy
            clear hyy
            have x1 : (x : Int) < (N : Int) := by omega
            have x0 : (0 : Int) ≤ (x : Int) := by omega
            have y1 : (y : Int) < (N : Int) := by omega
            have y0 : (0 : Int) ≤ (y : Int) := by omega
            have HXS := hx x hf
            obtain ⟨b, off, la, lc, ca, cc, rfl, h0, h1, h2, h3, h4, h5, h6, h7, _, _, _, _⟩ := hx y hf2
            obtain ⟨b', off', _, _, _, _, e', g0, g1, g2, g3, _⟩ := HXS
            simp only [Option.some.injEq, Addr.mk.injEq, and_true] at e'
            obtain ⟨rfl, rfl⟩ := e'
            have hb := World.block_lt_of_cell? w _ h1
            have c0 := (hbel3.cell (p := ⟨b, off + y * 8, none⟩) hb).trans h0
            have c1 := (hbel3.cell (p := ⟨b, off + y * 8 + 1, none⟩) hb).trans h1
            have c2 := (hbel3.cell (p := ⟨b, off + y * 8 + 2, none⟩) hb).trans h2
            have c3 := (hbel3.cell (p := ⟨b, off + y * 8 + 3, none⟩) hb).trans h3
            have c4 := (hbel3.cell (p := ⟨b, off + y * 8 + 4, none⟩) hb).trans h4
            have c5 := (hbel3.cell (p := ⟨b, off + y * 8 + 5, none⟩) hb).trans h5
            have c6 := (hbel3.cell (p := ⟨b, off + y * 8 + 6, none⟩) hb).trans h6
            have c7 := (hbel3.cell (p := ⟨b, off + y * 8 + 7, none⟩) hb).trans h7
            have hbx := push hbel3 (.cells #[.int .i64 (S y).id, .string (S y).fr, .string (S y).dst, .int .i64 (S y).dep, .int .i64 (S y).arr, .slice la (S y).la.n lc, .slice ca (S y).ca.n cc, .int .i64 (S y).most] 54)
            have q1 := (hbx.cell (p := ⟨b, off + x * 8 + 1, none⟩) hb).trans g1
            have q3 := (hbx.cell (p := ⟨b, off + x * 8 + 3, none⟩) hb).trans g3
            clear h0 h1 h2 h3 h4 h5 h6 h7 g0 g1 g2 g3
            have HOK : Hid (((S y).dst = (S x).fr ∧ (S y).arr ≤ (S x).dep) ↔ LegOk N S G k) := by
              unfold LegOk
              rw [← HX.out, ← HY.out]
              exact ⟨fun h => ⟨hf, fun _ => h⟩, fun h => h.2 (by omega)⟩
            by_cases m1 : (S y).dst = (S x).fr
            · have e1 : ((S y).dst.toList == (S x).fr.toList) = true := bytes_eq.2 m1
              have M1 : Hid ((S y).dst = (S x).fr) := m1
              clear m1
              by_cases m2 : (S y).arr ≤ (S x).dep
              · have e2 : decide ((S x).dep < (S y).arr) = false := by simpa using m2
                go_wp2
                go_quiet (fail)
                go_wp2
                go_roundw
                case rel => exact ⟨k + 1, by omega, by go_num, fun j hj => by
                  by_cases e : j = k
                  · subst e; exact HOK.out.1 ⟨M1.out, m2⟩
                  · exact HA.out j (by omega), below_drewN hbx _⟩
                case measure => simp [intOf]; omega
              · have e2 : decide ((S x).dep < (S y).arr) = true := by simpa using m2
                go_wp2
                go_quiet (fail)
                go_wp2
                go_ret
                exact ⟨says_no (fun h => by have := (HOK.out.2 (h.2.2 k hlt)).2; omega), below_drewN hbx _⟩
            · have e1 : ((S y).dst.toList == (S x).fr.toList) = false := bytes_ne.2 m1
              have M1 : Hid (¬ (S y).dst = (S x).fr) := m1
              clear m1
              go_wp2
              go_quiet (fail)
              go_wp2
              go_ret
              exact ⟨says_no (fun h => M1.out (HOK.out.2 (h.2.2 k hlt)).1), below_drewN hbx _⟩
          · exfalso
            have := HP.out
            omega
      · have dn : decide ((-1 : Int) < 0) = true := rfl
        have HF : Hid (findIx S (G k) N = N) := hf
        clear hf
        go_wp2
        go_ret
        exact ⟨says_no (fun h => by have := (h.2.2 k hlt).1; have := HF.out; omega), hbel2⟩
    · obtain rfl : k = n := by omega
      go_wp2
      go_ret
      exact ⟨says_yes ⟨H3.out.1, H3.out.2, HA.out⟩, hbel⟩
end Go.Proofs.YtlelckbeoclhbaaGreat

namespace Go.Proofs.YtlelckbeoclhbaaGreat
open Go.RowKit
theorem l6Car_is (x y : Int) (w : World) :
    Calls Tryz.prog 133 #[.int .i64 x, .int .i64 y] w fun e w' => e = .returned (.bool (decide (CarOk x y))) ∧ w' = w := by
  obtain ⟨c, hc⟩ : ∃ c, c = decide (CarOk x y) := ⟨_, rfl⟩
  rw [← hc]
  have HC : Hid (c = decide (CarOk x y)) := hc
  clear hc
  by_cases h1 : In x 1 2000
  · have e1 : decide (In x 1 2000) = true := decide_eq_true h1
    have H1 : Hid (In x 1 2000) := h1
    clear h1
    by_cases h2 : In y 1 500
    · have e2 : decide (In y 1 500) = true := decide_eq_true h2
      have H2 : Hid (In y 1 500) := h2
      clear h2
      go_enter Tryz.func133, Tryz.ntmps133
      go_wp2_with (first | (go_at_call 91; refine (l1In_is _ _ _ _).mono ?_; rintro e w' ⟨rfl, hw'⟩; have hw' := hw'.symm; subst hw'))
      go_ret
      exact ⟨by rw [HC.out, decide_eq_true ⟨H1.out, H2.out⟩]; rfl, rfl⟩
    · have e2 : decide (In y 1 500) = false := decide_eq_false h2
      have H2 : Hid (¬ In y 1 500) := h2
      clear h2
      go_enter Tryz.func133, Tryz.ntmps133
      go_wp2_with (first | (go_at_call 91; refine (l1In_is _ _ _ _).mono ?_; rintro e w' ⟨rfl, hw'⟩; have hw' := hw'.symm; subst hw'))
      go_ret
      exact ⟨by rw [HC.out, decide_eq_false (fun h => H2.out h.2)]; rfl, rfl⟩
  · have e1 : decide (In x 1 2000) = false := decide_eq_false h1
    have H1 : Hid (¬ In x 1 2000) := h1
    clear h1
    go_enter Tryz.func133, Tryz.ntmps133
    go_wp2_with (first | (go_at_call 91; refine (l1In_is _ _ _ _).mono ?_; rintro e w' ⟨rfl, hw'⟩; have hw' := hw'.symm; subst hw'))
    go_ret
    exact ⟨by rw [HC.out, decide_eq_false (fun h => H1.out h.1)]; rfl, rfl⟩
end Go.Proofs.YtlelckbeoclhbaaGreat

namespace Go.Proofs.YtlelckbeoclhbaaGreat
open Go.RowKit
theorem specParty_any (pe len hei cl : Int) (all : Bool) (be : Int) (w : World) :
    Calls Tryz.prog 98 #[.agg #[.int .i64 pe, .int .i64 len, .int .i64 hei, .int .i64 cl, .bool all, .int .i64 be]] w fun e w' => SaysIf (PartyOk ⟨pe, len, hei, cl, all, be⟩) e ∧ Below w.heap.size w w' := by
  by_cases h1 : In pe 1 20
  · have e1 : decide (In pe 1 20) = true := decide_eq_true h1
    have H1 : Hid (In pe 1 20) := h1
    clear h1
    by_cases h2 : len = 0
    · subst h2
      have HN : Hid (¬ CarOk 0 hei) := fun h => by have := h.1; unfold In at this; omega
      have e3 : decide (CarOk 0 hei) = false := decide_eq_false HN.out
      by_cases h3 : hei = 0
      · subst h3
        by_cases k0 : cl = 0
        · subst k0
          cases all with
          | true =>
            go_enter Tryz.func98, Tryz.ntmps98
            go_wp2_with (first | (go_at_call 91; refine (l1In_is _ _ _ _).mono ?_; rintro e w' ⟨rfl, hw'⟩; have hw' := hw'.symm; subst hw') | (go_at_call 133; refine (l6Car_is _ _ _).mono ?_; rintro e w' ⟨rfl, hw'⟩; have hw' := hw'.symm; subst hw'))
            go_ret
            exact ⟨says_no (fun h => by rcases h.2.2 with h | h; cases h.2.1; have h9 : In (0 : Int) 1 3 := h.1; unfold In at h9; omega), push (Below.refl _ _) _⟩
          | false =>
            by_cases k1 : be = 0
            · subst k1
              go_enter Tryz.func98, Tryz.ntmps98
              go_wp2_with (first | (go_at_call 91; refine (l1In_is _ _ _ _).mono ?_; rintro e w' ⟨rfl, hw'⟩; have hw' := hw'.symm; subst hw') | (go_at_call 133; refine (l6Car_is _ _ _).mono ?_; rintro e w' ⟨rfl, hw'⟩; have hw' := hw'.symm; subst hw'))
              go_ret
              exact ⟨says_yes ⟨H1.out, .inl ⟨rfl, rfl⟩, .inl ⟨rfl, rfl, rfl⟩⟩, push (Below.refl _ _) _⟩
            · have x1 : (be == 0) = false := by simpa using k1
              have K1 : Hid (¬ be = 0) := k1
              clear k1
              go_enter Tryz.func98, Tryz.ntmps98
              go_wp2_with (first | (go_at_call 91; refine (l1In_is _ _ _ _).mono ?_; rintro e w' ⟨rfl, hw'⟩; have hw' := hw'.symm; subst hw') | (go_at_call 133; refine (l6Car_is _ _ _).mono ?_; rintro e w' ⟨rfl, hw'⟩; have hw' := hw'.symm; subst hw'))
              go_ret
              exact ⟨says_no (fun h => by rcases h.2.2 with h | h; exact K1.out h.2.2; have h9 : In (0 : Int) 1 3 := h.1; unfold In at h9; omega), push (Below.refl _ _) _⟩
        · have x0 : (cl == 0) = false := by simpa using k0
          have K0 : Hid (¬ cl = 0) := k0
          clear k0
          by_cases k2 : In cl 1 3
          · have x2 : decide (In cl 1 3) = true := decide_eq_true k2
            have K2 : Hid (In cl 1 3) := k2
            clear k2
            cases all with
            | true =>
              by_cases k1 : be = 0
              · subst k1
                go_enter Tryz.func98, Tryz.ntmps98
                go_wp2_with (first | (go_at_call 91; refine (l1In_is _ _ _ _).mono ?_; rintro e w' ⟨rfl, hw'⟩; have hw' := hw'.symm; subst hw') | (go_at_call 133; refine (l6Car_is _ _ _).mono ?_; rintro e w' ⟨rfl, hw'⟩; have hw' := hw'.symm; subst hw'))
                go_ret
                exact ⟨says_yes ⟨H1.out, .inl ⟨rfl, rfl⟩, .inr ⟨K2.out, .inl ⟨rfl, rfl⟩⟩⟩, push (Below.refl _ _) _⟩
              · have x1 : (be == 0) = false := by simpa using k1
                have K1 : Hid (¬ be = 0) := k1
                clear k1
                go_enter Tryz.func98, Tryz.ntmps98
                go_wp2_with (first | (go_at_call 91; refine (l1In_is _ _ _ _).mono ?_; rintro e w' ⟨rfl, hw'⟩; have hw' := hw'.symm; subst hw') | (go_at_call 133; refine (l6Car_is _ _ _).mono ?_; rintro e w' ⟨rfl, hw'⟩; have hw' := hw'.symm; subst hw'))
                go_ret
                exact ⟨says_no (fun h => by rcases h.2.2 with h | h; exact K0.out h.1; rcases h.2 with h | h; exact K1.out h.2; cases h.1), push (Below.refl _ _) _⟩
            | false =>
              by_cases k3 : In be 1 4
              · have x3 : decide (In be 1 4) = true := decide_eq_true k3
                have K3 : Hid (In be 1 4) := k3
                clear k3
                go_enter Tryz.func98, Tryz.ntmps98
                go_wp2_with (first | (go_at_call 91; refine (l1In_is _ _ _ _).mono ?_; rintro e w' ⟨rfl, hw'⟩; have hw' := hw'.symm; subst hw') | (go_at_call 133; refine (l6Car_is _ _ _).mono ?_; rintro e w' ⟨rfl, hw'⟩; have hw' := hw'.symm; subst hw'))
                go_ret
                exact ⟨says_yes ⟨H1.out, .inl ⟨rfl, rfl⟩, .inr ⟨K2.out, .inr ⟨rfl, K3.out⟩⟩⟩, push (Below.refl _ _) _⟩
              · have x3 : decide (In be 1 4) = false := decide_eq_false k3
                have K3 : Hid (¬ In be 1 4) := k3
                clear k3
                go_enter Tryz.func98, Tryz.ntmps98
                go_wp2_with (first | (go_at_call 91; refine (l1In_is _ _ _ _).mono ?_; rintro e w' ⟨rfl, hw'⟩; have hw' := hw'.symm; subst hw') | (go_at_call 133; refine (l6Car_is _ _ _).mono ?_; rintro e w' ⟨rfl, hw'⟩; have hw' := hw'.symm; subst hw'))
                go_ret
                exact ⟨says_no (fun h => by rcases h.2.2 with h | h; exact K0.out h.1; rcases h.2 with h | h; cases h.1; exact K3.out h.2), push (Below.refl _ _) _⟩
          · have x2 : decide (In cl 1 3) = false := decide_eq_false k2
            have K2 : Hid (¬ In cl 1 3) := k2
            clear k2
            go_enter Tryz.func98, Tryz.ntmps98
            go_wp2_with (first | (go_at_call 91; refine (l1In_is _ _ _ _).mono ?_; rintro e w' ⟨rfl, hw'⟩; have hw' := hw'.symm; subst hw') | (go_at_call 133; refine (l6Car_is _ _ _).mono ?_; rintro e w' ⟨rfl, hw'⟩; have hw' := hw'.symm; subst hw'))
            go_ret
            exact ⟨says_no (fun h => by rcases h.2.2 with h | h; exact K0.out h.1; exact K2.out h.1), push (Below.refl _ _) _⟩
      · have e2 : (hei == 0) = false := by simpa using h3
        have H3 : Hid (¬ hei = 0) := h3
        clear h3
        go_enter Tryz.func98, Tryz.ntmps98
        go_wp2_with (first | (go_at_call 91; refine (l1In_is _ _ _ _).mono ?_; rintro e w' ⟨rfl, hw'⟩; have hw' := hw'.symm; subst hw') | (go_at_call 133; refine (l6Car_is _ _ _).mono ?_; rintro e w' ⟨rfl, hw'⟩; have hw' := hw'.symm; subst hw'))
        go_ret
        exact ⟨says_no (fun h => by rcases h.2.1 with h | h; exact H3.out h.2; exact HN.out h), push (Below.refl _ _) _⟩
    · have e2 : (len == 0) = false := by simpa using h2
      have H2 : Hid (¬ len = 0) := h2
      clear h2
      by_cases h3 : CarOk len hei
      · have e3 : decide (CarOk len hei) = true := decide_eq_true h3
        have H3 : Hid (CarOk len hei) := h3
        clear h3
        by_cases k0 : cl = 0
        · subst k0
          cases all with
          | true =>
            go_enter Tryz.func98, Tryz.ntmps98
            go_wp2_with (first | (go_at_call 91; refine (l1In_is _ _ _ _).mono ?_; rintro e w' ⟨rfl, hw'⟩; have hw' := hw'.symm; subst hw') | (go_at_call 133; refine (l6Car_is _ _ _).mono ?_; rintro e w' ⟨rfl, hw'⟩; have hw' := hw'.symm; subst hw'))
            go_ret
            exact ⟨says_no (fun h => by rcases h.2.2 with h | h; cases h.2.1; have h9 : In (0 : Int) 1 3 := h.1; unfold In at h9; omega), push (Below.refl _ _) _⟩
          | false =>
            by_cases k1 : be = 0
            · subst k1
              go_enter Tryz.func98, Tryz.ntmps98
              go_wp2_with (first | (go_at_call 91; refine (l1In_is _ _ _ _).mono ?_; rintro e w' ⟨rfl, hw'⟩; have hw' := hw'.symm; subst hw') | (go_at_call 133; refine (l6Car_is _ _ _).mono ?_; rintro e w' ⟨rfl, hw'⟩; have hw' := hw'.symm; subst hw'))
              go_ret
              exact ⟨says_yes ⟨H1.out, .inr H3.out, .inl ⟨rfl, rfl, rfl⟩⟩, push (Below.refl _ _) _⟩
            · have x1 : (be == 0) = false := by simpa using k1
              have K1 : Hid (¬ be = 0) := k1
              clear k1
              go_enter Tryz.func98, Tryz.ntmps98
              go_wp2_with (first | (go_at_call 91; refine (l1In_is _ _ _ _).mono ?_; rintro e w' ⟨rfl, hw'⟩; have hw' := hw'.symm; subst hw') | (go_at_call 133; refine (l6Car_is _ _ _).mono ?_; rintro e w' ⟨rfl, hw'⟩; have hw' := hw'.symm; subst hw'))
              go_ret
              exact ⟨says_no (fun h => by rcases h.2.2 with h | h; exact K1.out h.2.2; have h9 : In (0 : Int) 1 3 := h.1; unfold In at h9; omega), push (Below.refl _ _) _⟩
        · have x0 : (cl == 0) = false := by simpa using k0
          have K0 : Hid (¬ cl = 0) := k0
          clear k0
          by_cases k2 : In cl 1 3
          · have x2 : decide (In cl 1 3) = true := decide_eq_true k2
            have K2 : Hid (In cl 1 3) := k2
            clear k2
            cases all with
            | true =>
              by_cases k1 : be = 0
              · subst k1
                go_enter Tryz.func98, Tryz.ntmps98
                go_wp2_with (first | (go_at_call 91; refine (l1In_is _ _ _ _).mono ?_; rintro e w' ⟨rfl, hw'⟩; have hw' := hw'.symm; subst hw') | (go_at_call 133; refine (l6Car_is _ _ _).mono ?_; rintro e w' ⟨rfl, hw'⟩; have hw' := hw'.symm; subst hw'))
                go_ret
                exact ⟨says_yes ⟨H1.out, .inr H3.out, .inr ⟨K2.out, .inl ⟨rfl, rfl⟩⟩⟩, push (Below.refl _ _) _⟩
              · have x1 : (be == 0) = false := by simpa using k1
                have K1 : Hid (¬ be = 0) := k1
                clear k1
                go_enter Tryz.func98, Tryz.ntmps98
                go_wp2_with (first | (go_at_call 91; refine (l1In_is _ _ _ _).mono ?_; rintro e w' ⟨rfl, hw'⟩; have hw' := hw'.symm; subst hw') | (go_at_call 133; refine (l6Car_is _ _ _).mono ?_; rintro e w' ⟨rfl, hw'⟩; have hw' := hw'.symm; subst hw'))
                go_ret
                exact ⟨says_no (fun h => by rcases h.2.2 with h | h; exact K0.out h.1; rcases h.2 with h | h; exact K1.out h.2; cases h.1), push (Below.refl _ _) _⟩
            | false =>
              by_cases k3 : In be 1 4
              · have x3 : decide (In be 1 4) = true := decide_eq_true k3
                have K3 : Hid (In be 1 4) := k3
                clear k3
                go_enter Tryz.func98, Tryz.ntmps98
                go_wp2_with (first | (go_at_call 91; refine (l1In_is _ _ _ _).mono ?_; rintro e w' ⟨rfl, hw'⟩; have hw' := hw'.symm; subst hw') | (go_at_call 133; refine (l6Car_is _ _ _).mono ?_; rintro e w' ⟨rfl, hw'⟩; have hw' := hw'.symm; subst hw'))
                go_ret
                exact ⟨says_yes ⟨H1.out, .inr H3.out, .inr ⟨K2.out, .inr ⟨rfl, K3.out⟩⟩⟩, push (Below.refl _ _) _⟩
              · have x3 : decide (In be 1 4) = false := decide_eq_false k3
                have K3 : Hid (¬ In be 1 4) := k3
                clear k3
                go_enter Tryz.func98, Tryz.ntmps98
                go_wp2_with (first | (go_at_call 91; refine (l1In_is _ _ _ _).mono ?_; rintro e w' ⟨rfl, hw'⟩; have hw' := hw'.symm; subst hw') | (go_at_call 133; refine (l6Car_is _ _ _).mono ?_; rintro e w' ⟨rfl, hw'⟩; have hw' := hw'.symm; subst hw'))
                go_ret
                exact ⟨says_no (fun h => by rcases h.2.2 with h | h; exact K0.out h.1; rcases h.2 with h | h; cases h.1; exact K3.out h.2), push (Below.refl _ _) _⟩
          · have x2 : decide (In cl 1 3) = false := decide_eq_false k2
            have K2 : Hid (¬ In cl 1 3) := k2
            clear k2
            go_enter Tryz.func98, Tryz.ntmps98
            go_wp2_with (first | (go_at_call 91; refine (l1In_is _ _ _ _).mono ?_; rintro e w' ⟨rfl, hw'⟩; have hw' := hw'.symm; subst hw') | (go_at_call 133; refine (l6Car_is _ _ _).mono ?_; rintro e w' ⟨rfl, hw'⟩; have hw' := hw'.symm; subst hw'))
            go_ret
            exact ⟨says_no (fun h => by rcases h.2.2 with h | h; exact K0.out h.1; exact K2.out h.1), push (Below.refl _ _) _⟩
      · have e3 : decide (CarOk len hei) = false := decide_eq_false h3
        have H3 : Hid (¬ CarOk len hei) := h3
        clear h3
        go_enter Tryz.func98, Tryz.ntmps98
        go_wp2_with (first | (go_at_call 91; refine (l1In_is _ _ _ _).mono ?_; rintro e w' ⟨rfl, hw'⟩; have hw' := hw'.symm; subst hw') | (go_at_call 133; refine (l6Car_is _ _ _).mono ?_; rintro e w' ⟨rfl, hw'⟩; have hw' := hw'.symm; subst hw'))
        go_ret
        exact ⟨says_no (fun h => by rcases h.2.1 with h | h; exact H2.out h.1; exact H3.out h), push (Below.refl _ _) _⟩
  · have e1 : decide (In pe 1 20) = false := decide_eq_false h1
    have H1 : Hid (¬ In pe 1 20) := h1
    clear h1
    go_enter Tryz.func98, Tryz.ntmps98
    go_wp2_with (first | (go_at_call 91; refine (l1In_is _ _ _ _).mono ?_; rintro e w' ⟨rfl, hw'⟩; have hw' := hw'.symm; subst hw') | (go_at_call 133; refine (l6Car_is _ _ _).mono ?_; rintro e w' ⟨rfl, hw'⟩; have hw' := hw'.symm; subst hw'))
    go_ret
    exact ⟨says_no (fun h => H1.out h.1), push (Below.refl _ _) _⟩
end Go.Proofs.YtlelckbeoclhbaaGreat

namespace Go.Proofs.YtlelckbeoclhbaaGreat
open Go.RowKit
theorem l7Booking_raw (x : Off) (asa ald : Option Addr) (bb bo csa cld cbk : Nat) (i : Nat) (C : Nat → List Value) (w : World) (hi : i < x.bkn) (hs : Off.Short x 1048576)
    (hsa : SailsAt w asa x.san x.sa) (hC : RecsAt w (some ⟨bb, bo, none⟩) x.bkn 13 C) (hI : ∀ k, k < x.bkn → Book.Is w (C k) (x.bk k)) (hcb : x.bkn ≤ cbk) :
    Calls Tryz.prog 52 #[.agg #[.slice asa x.san csa, .slice ald x.ldn cld, .slice (some ⟨bb, bo, none⟩) x.bkn cbk], .int .i64 i] w fun e w' => SaysIf (BookOk x i) e ∧ Below w.heap.size w w' := by
  have HSA : Hid (SailsAt w asa x.san x.sa) := hsa
  have HC : Hid (RecsAt w (some ⟨bb, bo, none⟩) x.bkn 13 C) := hC
  have HI : Hid (∀ k, k < x.bkn → Book.Is w (C k) (x.bk k)) := hI
  have HSH : Hid (Off.Short x 1048576) := hs
  have hbk : x.bkn ≤ 1048576 := hs.2.2.1
  clear hsa hC hI hs
  obtain ⟨b0, off0, e0, hc⟩ := HC.out i hi
  simp only [Option.some.injEq, Addr.mk.injEq, and_true] at e0
  obtain ⟨rfl, rfl⟩ := e0
  obtain ⟨alg, clg, eC, hlg, slg⟩ := HI.out i hi
  obtain ⟨b, hb⟩ : ∃ b, b = x.bk i := ⟨_, rfl⟩
  rw [← hb] at eC hlg slg
  have HBK : Hid (b = x.bk i) := hb
  have HLG : Hid (IntsAt w alg b.lgn b.lg) := hlg
  have HSB : Hid (Book.Short b 1048576) := by rw [hb]; exact HSH.out.2.2.2 i hi
  have hltb : bb < w.heap.size := World.block_lt_of_cell? w _ (hc 0 (by decide))
  have g0 : w.cell? ⟨bb, bo + i * 13, none⟩ = some (.int .i64 b.name) := by have := hc 0 (by decide); rw [eC] at this; exact this
  have g1 : w.cell? ⟨bb, bo + i * 13 + 1, none⟩ = some (.int .i64 b.who) := by have := hc 1 (by decide); rw [eC] at this; exact this
  have g2 : w.cell? ⟨bb, bo + i * 13 + 2, none⟩ = some (.string b.own) := by have := hc 2 (by decide); rw [eC] at this; exact this
  have g3 : w.cell? ⟨bb, bo + i * 13 + 3, none⟩ = some (.slice alg b.lgn clg) := by have := hc 3 (by decide); rw [eC] at this; exact this
  have g4 : w.cell? ⟨bb, bo + i * 13 + 4, none⟩ = some (.int .i64 b.pe) := by have := hc 4 (by decide); rw [eC] at this; exact this
  have g5 : w.cell? ⟨bb, bo + i * 13 + 5, none⟩ = some (.int .i64 b.len) := by have := hc 5 (by decide); rw [eC] at this; exact this
  have g6 : w.cell? ⟨bb, bo + i * 13 + 6, none⟩ = some (.int .i64 b.hei) := by have := hc 6 (by decide); rw [eC] at this; exact this
  have g7 : w.cell? ⟨bb, bo + i * 13 + 7, none⟩ = some (.int .i64 b.cl) := by have := hc 7 (by decide); rw [eC] at this; exact this
  have g8 : w.cell? ⟨bb, bo + i * 13 + 8, none⟩ = some (.bool b.all) := by have := hc 8 (by decide); rw [eC] at this; exact this
  have g9 : w.cell? ⟨bb, bo + i * 13 + 9, none⟩ = some (.int .i64 b.be) := by have := hc 9 (by decide); rw [eC] at this; exact this
  have g10 : w.cell? ⟨bb, bo + i * 13 + 10, none⟩ = some (.int .i64 b.state) := by have := hc 10 (by decide); rw [eC] at this; exact this
  have g11 : w.cell? ⟨bb, bo + i * 13 + 11, none⟩ = some (.int .i64 b.unt) := by have := hc 11 (by decide); rw [eC] at this; exact this
  have g12 : w.cell? ⟨bb, bo + i * 13 + 12, none⟩ = some (.int .i64 b.price) := by have := hc 12 (by decide); rw [eC] at this; exact this
  have hb0 : Below w.heap.size w (w.alloc (.cells #[.slice asa x.san csa, .slice ald x.ldn cld, .slice (some ⟨bb, bo, none⟩) x.bkn cbk] 39)) := push (Below.refl _ _) _
  have bO := heap_alloc_new w (.cells #[.slice asa x.san csa, .slice ald x.ldn cld, .slice (some ⟨bb, bo, none⟩) x.bkn cbk] 39)
  have c0 : ∀ o, (w.alloc o).cell? ⟨bb, bo + i * 13, none⟩ = some (.int .i64 b.name) := fun o => ((push (Below.refl _ w) o).cell (p := ⟨bb, bo + i * 13, none⟩) hltb).trans g0
  have c1 : ∀ o, (w.alloc o).cell? ⟨bb, bo + i * 13 + 1, none⟩ = some (.int .i64 b.who) := fun o => ((push (Below.refl _ w) o).cell (p := ⟨bb, bo + i * 13 + 1, none⟩) hltb).trans g1
  have c2 : ∀ o, (w.alloc o).cell? ⟨bb, bo + i * 13 + 2, none⟩ = some (.string b.own) := fun o => ((push (Below.refl _ w) o).cell (p := ⟨bb, bo + i * 13 + 2, none⟩) hltb).trans g2
  have c3 : ∀ o, (w.alloc o).cell? ⟨bb, bo + i * 13 + 3, none⟩ = some (.slice alg b.lgn clg) := fun o => ((push (Below.refl _ w) o).cell (p := ⟨bb, bo + i * 13 + 3, none⟩) hltb).trans g3
  have c4 : ∀ o, (w.alloc o).cell? ⟨bb, bo + i * 13 + 4, none⟩ = some (.int .i64 b.pe) := fun o => ((push (Below.refl _ w) o).cell (p := ⟨bb, bo + i * 13 + 4, none⟩) hltb).trans g4
  have c5 : ∀ o, (w.alloc o).cell? ⟨bb, bo + i * 13 + 5, none⟩ = some (.int .i64 b.len) := fun o => ((push (Below.refl _ w) o).cell (p := ⟨bb, bo + i * 13 + 5, none⟩) hltb).trans g5
  have c6 : ∀ o, (w.alloc o).cell? ⟨bb, bo + i * 13 + 6, none⟩ = some (.int .i64 b.hei) := fun o => ((push (Below.refl _ w) o).cell (p := ⟨bb, bo + i * 13 + 6, none⟩) hltb).trans g6
  have c7 : ∀ o, (w.alloc o).cell? ⟨bb, bo + i * 13 + 7, none⟩ = some (.int .i64 b.cl) := fun o => ((push (Below.refl _ w) o).cell (p := ⟨bb, bo + i * 13 + 7, none⟩) hltb).trans g7
  have c8 : ∀ o, (w.alloc o).cell? ⟨bb, bo + i * 13 + 8, none⟩ = some (.bool b.all) := fun o => ((push (Below.refl _ w) o).cell (p := ⟨bb, bo + i * 13 + 8, none⟩) hltb).trans g8
  have c9 : ∀ o, (w.alloc o).cell? ⟨bb, bo + i * 13 + 9, none⟩ = some (.int .i64 b.be) := fun o => ((push (Below.refl _ w) o).cell (p := ⟨bb, bo + i * 13 + 9, none⟩) hltb).trans g9
  have c10 : ∀ o, (w.alloc o).cell? ⟨bb, bo + i * 13 + 10, none⟩ = some (.int .i64 b.state) := fun o => ((push (Below.refl _ w) o).cell (p := ⟨bb, bo + i * 13 + 10, none⟩) hltb).trans g10
  have c11 : ∀ o, (w.alloc o).cell? ⟨bb, bo + i * 13 + 11, none⟩ = some (.int .i64 b.unt) := fun o => ((push (Below.refl _ w) o).cell (p := ⟨bb, bo + i * 13 + 11, none⟩) hltb).trans g11
  have c12 : ∀ o, (w.alloc o).cell? ⟨bb, bo + i * 13 + 12, none⟩ = some (.int .i64 b.price) := fun o => ((push (Below.refl _ w) o).cell (p := ⟨bb, bo + i * 13 + 12, none⟩) hltb).trans g12
  clear hc eC hlg slg hb g0 g1 g2 g3 g4 g5 g6 g7 g8 g9 g10 g11 g12
  have hwi : IntKind.i64.wrap ((i : Int) + 1) = (i : Int) + 1 := by rw [IntKind.wrap_i64]; omega
  have hi0 : (0 : Int) ≤ (i : Int) := by omega
  have hi1 : (i : Int) < (x.bkn : Int) := by omega
  have hb1 : Below w.heap.size w ((w.alloc (.cells #[.slice asa x.san csa, .slice ald x.ldn cld, .slice (some ⟨bb, bo, none⟩) x.bkn cbk] 39)).alloc (.cells #[.int .i64 b.name, .int .i64 b.who, .string b.own, .slice alg b.lgn clg, .int .i64 b.pe, .int .i64 b.len, .int .i64 b.hei, .int .i64 b.cl, .bool b.all, .int .i64 b.be, .int .i64 b.state, .int .i64 b.unt, .int .i64 b.price] 72)) := push hb0 _
  have bO1 : ((w.alloc (.cells #[.slice asa x.san csa, .slice ald x.ldn cld, .slice (some ⟨bb, bo, none⟩) x.bkn cbk] 39)).alloc (.cells #[.int .i64 b.name, .int .i64 b.who, .string b.own, .slice alg b.lgn clg, .int .i64 b.pe, .int .i64 b.len, .int .i64 b.hei, .int .i64 b.cl, .bool b.all, .int .i64 b.be, .int .i64 b.state, .int .i64 b.unt, .int .i64 b.price] 72)).heap[w.heap.size]? = some (.cells #[.slice asa x.san csa, .slice ald x.ldn cld, .slice (some ⟨bb, bo, none⟩) x.bkn cbk] 39 (0, 0)) := blk_alloc bO _
  have bB1 : ((w.alloc (.cells #[.slice asa x.san csa, .slice ald x.ldn cld, .slice (some ⟨bb, bo, none⟩) x.bkn cbk] 39)).alloc (.cells #[.int .i64 b.name, .int .i64 b.who, .string b.own, .slice alg b.lgn clg, .int .i64 b.pe, .int .i64 b.len, .int .i64 b.hei, .int .i64 b.cl, .bool b.all, .int .i64 b.be, .int .i64 b.state, .int .i64 b.unt, .int .i64 b.price] 72)).heap[w.heap.size + 1]? = some (.cells #[.int .i64 b.name, .int .i64 b.who, .string b.own, .slice alg b.lgn clg, .int .i64 b.pe, .int .i64 b.len, .int .i64 b.hei, .int .i64 b.cl, .bool b.all, .int .i64 b.be, .int .i64 b.state, .int .i64 b.unt, .int .i64 b.price] 72 (0, 0)) := by simpa using heap_alloc_new (w.alloc _) _
  clear hb0 bO
  by_cases n1 : b.name = (i : Int) + 1
  case neg =>
    have e1 : (b.name != (i : Int) + 1) = true := by simpa using n1
    have HN : Hid (¬ BookOk x i) := fun h => n1 (by rw [HBK.out]; exact h.1)
    clear n1
    go_enter Tryz.func52, Tryz.ntmps52
    go_wp2
    go_ret
    exact ⟨says_no HN.out, hb1⟩
  have e1 : (b.name != (i : Int) + 1) = false := by simpa using n1
  have HB1 : Hid (b.name = (i : Int) + 1) := n1
  clear n1
  go_enter Tryz.func52, Tryz.ntmps52
  go_wp2_with fail
  generalize (w.alloc (.cells #[.slice asa x.san csa, .slice ald x.ldn cld, .slice (some ⟨bb, bo, none⟩) x.bkn cbk] 39)).alloc (.cells #[.int .i64 b.name, .int .i64 b.who, .string b.own, .slice alg b.lgn clg, .int .i64 b.pe, .int .i64 b.len, .int .i64 b.hei, .int .i64 b.cl, .bool b.all, .int .i64 b.be, .int .i64 b.state, .int .i64 b.unt, .int .i64 b.price] 72) = W at hb1 bO1 bB1 ⊢
  clear c0 c1 c2 c3 c4 c5 c6 c7 c8 c9 c10 c11 c12 e1 hwi
  have y0 := blk_cell bB1 0 _ rfl
  have y1 := blk_cell bB1 1 _ rfl
  have y2 := blk_cell bB1 2 _ rfl
  have y3 := blk_cell bB1 3 _ rfl
  have y4 := blk_cell bB1 4 _ rfl
  have y5 := blk_cell bB1 5 _ rfl
  have y6 := blk_cell bB1 6 _ rfl
  have y7 := blk_cell bB1 7 _ rfl
  have y8 := blk_cell bB1 8 _ rfl
  have y9 := blk_cell bB1 9 _ rfl
  have y10 := blk_cell bB1 10 _ rfl
  have y11 := blk_cell bB1 11 _ rfl
  have y12 := blk_cell bB1 12 _ rfl
  have z0 := blk_cell bO1 0 _ rfl
  have z2 := blk_cell bO1 2 _ rfl
  refine (l4By_is _ _).mono ?_
  obtain ⟨t0, ht0⟩ : ∃ t, t = decide (In b.who 1 9999) := ⟨_, rfl⟩
  rw [← ht0]
  have HT0 : Hid (t0 = true ↔ In b.who 1 9999) := by show t0 = true ↔ In b.who 1 9999; rw [ht0, decide_eq_true_eq]
  clear ht0
  rintro e v ⟨rfl, hv⟩
  have hv := hv.symm
  subst hv
  cases t0 with
  | false =>
    have HN : Hid (¬ BookOk x i) := fun h => by have h := (show BookOk x i from h); unfold BookOk at h; rw [← HBK.out] at h; have := HT0.out.2 h.2.1; cases this
    go_wp2
    go_ret
    exact ⟨says_no HN.out, hb1⟩
  | true =>
  have HP0 : Hid (In b.who 1 9999) := HT0.out.1 rfl
  clear HT0
  go_wp2_with fail
  refine (l1Name_is _ _ (by have := HSB.out.1; omega)).mono ?_
  obtain ⟨t1, ht1⟩ : ∃ t, t = decide (IsName b.own) := ⟨_, rfl⟩
  rw [← ht1]
  have HT1 : Hid (t1 = true ↔ IsName b.own) := by show t1 = true ↔ IsName b.own; rw [ht1, decide_eq_true_eq]
  clear ht1
  rintro e v ⟨rfl, hv⟩
  have hv := hv.symm
  subst hv
  cases t1 with
  | false =>
    have HN : Hid (¬ BookOk x i) := fun h => by have h := (show BookOk x i from h); unfold BookOk at h; rw [← HBK.out] at h; have := HT1.out.2 h.2.2.1; cases this
    go_wp2
    go_ret
    exact ⟨says_no HN.out, hb1⟩
  | true =>
  have HP1 : Hid (IsName b.own) := HT1.out.1 rfl
  clear HT1
  go_wp2_with fail
  refine (l3Fit_any asa alg x.san b.lgn csa clg x.sa b.lg _ HSH.out.1.1 HSB.out.2 (HSA.out.below hb1) (HLG.out.below hb1)).mono ?_
  rintro e v2 ⟨⟨t2, rfl, ht2⟩, hbv⟩
  have HT2 : Hid (t2 = true ↔ LegsOk x.san x.sa b.lgn b.lg) := ht2
  clear ht2
  have bO2 := blk_below bO1 hbv
  have bB2 := blk_below bB1 hbv
  have hb2 := after hb1 hbv
  clear y0 y1 y2 y3 y4 y5 y6 y7 y8 y9 y10 y11 y12 z0 z2 hb1 bO1 bB1 hbv
  have hb1 := hb2
  have bO1 := bO2
  have bB1 := bB2
  clear hb2 bO2 bB2
  have y0 := blk_cell bB1 0 _ rfl
  have y1 := blk_cell bB1 1 _ rfl
  have y2 := blk_cell bB1 2 _ rfl
  have y3 := blk_cell bB1 3 _ rfl
  have y4 := blk_cell bB1 4 _ rfl
  have y5 := blk_cell bB1 5 _ rfl
  have y6 := blk_cell bB1 6 _ rfl
  have y7 := blk_cell bB1 7 _ rfl
  have y8 := blk_cell bB1 8 _ rfl
  have y9 := blk_cell bB1 9 _ rfl
  have y10 := blk_cell bB1 10 _ rfl
  have y11 := blk_cell bB1 11 _ rfl
  have y12 := blk_cell bB1 12 _ rfl
  have z0 := blk_cell bO1 0 _ rfl
  have z2 := blk_cell bO1 2 _ rfl
  cases t2 with
  | false =>
    have HN : Hid (¬ BookOk x i) := fun h => by have h := (show BookOk x i from h); unfold BookOk at h; rw [← HBK.out] at h; have := HT2.out.2 h.2.2.2.1; cases this
    go_wp2
    go_ret
    exact ⟨says_no HN.out, hb1⟩
  | true =>
  have HP2 : Hid (LegsOk x.san x.sa b.lgn b.lg) := HT2.out.1 rfl
  clear HT2
  go_wp2_with fail
  refine (specParty_any b.pe b.len b.hei b.cl b.all b.be _).mono ?_
  rintro e v3 ⟨⟨t3, rfl, ht3⟩, hbv⟩
  have HT3 : Hid (t3 = true ↔ PartyOk b.p) := ht3
  clear ht3
  have bO2 := blk_below bO1 hbv
  have bB2 := blk_below bB1 hbv
  have hb2 := after hb1 hbv
  clear y0 y1 y2 y3 y4 y5 y6 y7 y8 y9 y10 y11 y12 z0 z2 hb1 bO1 bB1 hbv
  have hb1 := hb2
  have bO1 := bO2
  have bB1 := bB2
  clear hb2 bO2 bB2
  have y0 := blk_cell bB1 0 _ rfl
  have y1 := blk_cell bB1 1 _ rfl
  have y2 := blk_cell bB1 2 _ rfl
  have y3 := blk_cell bB1 3 _ rfl
  have y4 := blk_cell bB1 4 _ rfl
  have y5 := blk_cell bB1 5 _ rfl
  have y6 := blk_cell bB1 6 _ rfl
  have y7 := blk_cell bB1 7 _ rfl
  have y8 := blk_cell bB1 8 _ rfl
  have y9 := blk_cell bB1 9 _ rfl
  have y10 := blk_cell bB1 10 _ rfl
  have y11 := blk_cell bB1 11 _ rfl
  have y12 := blk_cell bB1 12 _ rfl
  have z0 := blk_cell bO1 0 _ rfl
  have z2 := blk_cell bO1 2 _ rfl
  cases t3 with
  | false =>
    have HN : Hid (¬ BookOk x i) := fun h => by have h := (show BookOk x i from h); unfold BookOk at h; rw [← HBK.out] at h; have := HT3.out.2 h.2.2.2.2.1; cases this
    go_wp2
    go_ret
    exact ⟨says_no HN.out, hb1⟩
  | true =>
  have HP3 : Hid (PartyOk b.p) := HT3.out.1 rfl
  clear HT3
  go_wp2_with fail
  refine (l1In_is _ _ _ _).mono ?_
  obtain ⟨t4, ht4⟩ : ∃ t, t = decide (In b.state 1 4) := ⟨_, rfl⟩
  rw [← ht4]
  have HT4 : Hid (t4 = true ↔ In b.state 1 4) := by show t4 = true ↔ In b.state 1 4; rw [ht4, decide_eq_true_eq]
  clear ht4
  rintro e v ⟨rfl, hv⟩
  have hv := hv.symm
  subst hv
  cases t4 with
  | false =>
    have HN : Hid (¬ BookOk x i) := fun h => by have h := (show BookOk x i from h); unfold BookOk at h; rw [← HBK.out] at h; have := HT4.out.2 h.2.2.2.2.2.1; cases this
    go_wp2
    go_ret
    exact ⟨says_no HN.out, hb1⟩
  | true =>
  have HP4 : Hid (In b.state 1 4) := HT4.out.1 rfl
  clear HT4
  go_wp2_with fail
  refine (l1In_is _ _ _ _).mono ?_
  obtain ⟨t5, ht5⟩ : ∃ t, t = decide (In b.price 0 1000000) := ⟨_, rfl⟩
  rw [← ht5]
  have HT5 : Hid (t5 = true ↔ In b.price 0 1000000) := by show t5 = true ↔ In b.price 0 1000000; rw [ht5, decide_eq_true_eq]
  clear ht5
  rintro e v ⟨rfl, hv⟩
  have hv := hv.symm
  subst hv
  cases t5 with
  | false =>
    have HN : Hid (¬ BookOk x i) := fun h => by have h := (show BookOk x i from h); unfold BookOk at h; rw [← HBK.out] at h; have := HT5.out.2 h.2.2.2.2.2.2.1; cases this
    go_wp2
    go_ret
    exact ⟨says_no HN.out, hb1⟩
  | true =>
  have HP5 : Hid (In b.price 0 1000000) := HT5.out.1 rfl
  clear HT5
  have hcb3 : (x.bkn : Int) ≤ (cbk : Int) := by omega
  have hic : (i : Int) ≤ (cbk : Int) := by omega
  go_wp2
  clear y0 y1 y2 y3 y4 y5 y6 y7 y8 y9 y10 y11 y12 z0 z2
  go_loopw [7, 61] (fun _ q wr => ∃ k : Nat, k ≤ i ∧ q = .int .i64 k ∧ (∀ j, j < k → (x.bk j).who ≠ b.who) ∧ Below v3.heap.size v3 wr) (fun _ q _ => i - (intOf q).toNat)
  case atStart => exact ⟨0, Nat.zero_le _, rfl, fun j hj => by omega, Below.refl _ _⟩
  case round =>
    obtain ⟨k, hk, rfl, hall, hbel⟩ := hrel
    have HA : Hid (∀ j, j < k → (x.bk j).who ≠ b.who) := hall
    clear hall
    by_cases hlt : k < i
    · obtain ⟨b2, o2, e2, hc⟩ := HC.out k (by omega)
      simp only [Option.some.injEq, Addr.mk.injEq, and_true] at e2
      obtain ⟨rfl, rfl⟩ := e2
      obtain ⟨al2, cl2, eC, _, _⟩ := HI.out k (by omega)
      obtain ⟨d, hd⟩ : ∃ d, d = x.bk k := ⟨_, rfl⟩
      rw [← hd] at eC
      have HD : Hid (d = x.bk k) := hd
      clear hd
      have hbw := after hb1 hbel
      have g0 : wr.cell? ⟨bb, bo + k * 13, none⟩ = some (.int .i64 d.name) := (hbw.cell (p := ⟨bb, bo + k * 13, none⟩) hltb).trans (by have := hc 0 (by decide); rw [eC] at this; exact this)
      have g1 : wr.cell? ⟨bb, bo + k * 13 + 1, none⟩ = some (.int .i64 d.who) := (hbw.cell (p := ⟨bb, bo + k * 13 + 1, none⟩) hltb).trans (by have := hc 1 (by decide); rw [eC] at this; exact this)
      have g2 : wr.cell? ⟨bb, bo + k * 13 + 2, none⟩ = some (.string d.own) := (hbw.cell (p := ⟨bb, bo + k * 13 + 2, none⟩) hltb).trans (by have := hc 2 (by decide); rw [eC] at this; exact this)
      have g3 : wr.cell? ⟨bb, bo + k * 13 + 3, none⟩ = some (.slice al2 d.lgn cl2) := (hbw.cell (p := ⟨bb, bo + k * 13 + 3, none⟩) hltb).trans (by have := hc 3 (by decide); rw [eC] at this; exact this)
      have g4 : wr.cell? ⟨bb, bo + k * 13 + 4, none⟩ = some (.int .i64 d.pe) := (hbw.cell (p := ⟨bb, bo + k * 13 + 4, none⟩) hltb).trans (by have := hc 4 (by decide); rw [eC] at this; exact this)
      have g5 : wr.cell? ⟨bb, bo + k * 13 + 5, none⟩ = some (.int .i64 d.len) := (hbw.cell (p := ⟨bb, bo + k * 13 + 5, none⟩) hltb).trans (by have := hc 5 (by decide); rw [eC] at this; exact this)
      have g6 : wr.cell? ⟨bb, bo + k * 13 + 6, none⟩ = some (.int .i64 d.hei) := (hbw.cell (p := ⟨bb, bo + k * 13 + 6, none⟩) hltb).trans (by have := hc 6 (by decide); rw [eC] at this; exact this)
      have g7 : wr.cell? ⟨bb, bo + k * 13 + 7, none⟩ = some (.int .i64 d.cl) := (hbw.cell (p := ⟨bb, bo + k * 13 + 7, none⟩) hltb).trans (by have := hc 7 (by decide); rw [eC] at this; exact this)
      have g8 : wr.cell? ⟨bb, bo + k * 13 + 8, none⟩ = some (.bool d.all) := (hbw.cell (p := ⟨bb, bo + k * 13 + 8, none⟩) hltb).trans (by have := hc 8 (by decide); rw [eC] at this; exact this)
      have g9 : wr.cell? ⟨bb, bo + k * 13 + 9, none⟩ = some (.int .i64 d.be) := (hbw.cell (p := ⟨bb, bo + k * 13 + 9, none⟩) hltb).trans (by have := hc 9 (by decide); rw [eC] at this; exact this)
      have g10 : wr.cell? ⟨bb, bo + k * 13 + 10, none⟩ = some (.int .i64 d.state) := (hbw.cell (p := ⟨bb, bo + k * 13 + 10, none⟩) hltb).trans (by have := hc 10 (by decide); rw [eC] at this; exact this)
      have g11 : wr.cell? ⟨bb, bo + k * 13 + 11, none⟩ = some (.int .i64 d.unt) := (hbw.cell (p := ⟨bb, bo + k * 13 + 11, none⟩) hltb).trans (by have := hc 11 (by decide); rw [eC] at this; exact this)
      have g12 : wr.cell? ⟨bb, bo + k * 13 + 12, none⟩ = some (.int .i64 d.price) := (hbw.cell (p := ⟨bb, bo + k * 13 + 12, none⟩) hltb).trans (by have := hc 12 (by decide); rw [eC] at this; exact this)
      have y1 : ∀ o, (wr.alloc o).cell? ⟨w.heap.size + 1, 1, none⟩ = some (.int .i64 b.who) := fun o => blk_cell (blk_alloc (blk_below bB1 hbel) o) 1 _ rfl
      clear hc eC hbw
      by_cases e3 : d.who = b.who
      · have e3' : (d.who == b.who) = true := by simpa using e3
        have HN : Hid (¬ BookOk x i) := fun h => h.2.2.2.2.2.2.2.1 k hlt (by rw [← HD.out, ← HBK.out]; exact e3)
        clear e3
        go_wp2
        go_ret
        exact ⟨says_no HN.out, push (after hb1 hbel) _⟩
      · have e3' : (d.who == b.who) = false := by simpa using e3
        have HN : Hid ((x.bk k).who ≠ b.who) := by rw [← HD.out]; exact e3
        clear e3
        go_wp2
        go_roundw
        case rel => exact ⟨k + 1, by omega, by go_num, fun j hj => by
          by_cases e : j = k
          · subst e; exact HN.out
          · exact HA.out j (by omega), push hbel _⟩
        case measure => simp [intOf]; omega
    · obtain rfl : k = i := by omega
      have hbw := after hb1 hbel
      have y10 := blk_cell (blk_below bB1 hbel) 10 _ rfl
      have y11 := blk_cell (blk_below bB1 hbel) 11 _ rfl
      have HF : Hid (BookOk x k ↔ UntilB b) := by
        show BookOk x k ↔ UntilB b
        unfold BookOk
        rw [← HBK.out]
        exact ⟨fun h => h.2.2.2.2.2.2.2.2, fun h => ⟨HB1.out, HP0.out, HP1.out, HP2.out, HP3.out, HP4.out, HP5.out, HA.out, h⟩⟩
      clear HB1 HP0 HP1 HP2 HP3 HP4 HP5 HA hbel
      by_cases s1 : b.state = 1
      · have s1' : (b.state == 1) = true := by simpa using s1
        have HU : Hid (UntilB b ↔ In b.unt 0 10000) := by show UntilB b ↔ In b.unt 0 10000; unfold UntilB; rw [if_pos (.inl s1)]
        clear s1
        go_wp2_with (first | (go_at_call 91; refine (l1In_is _ _ _ _).mono ?_; rintro e w' ⟨rfl, hw'⟩; have hw' := hw'.symm; subst hw'))
        go_ret
        exact ⟨⟨_, rfl, by rw [decide_eq_true_eq, HF.out, HU.out]⟩, hbw⟩
      · have s1' : (b.state == 1) = false := by simpa using s1
        by_cases s4 : b.state = 4
        · have s4' : (b.state == 4) = true := by simpa using s4
          have HU : Hid (UntilB b ↔ In b.unt 0 10000) := by show UntilB b ↔ In b.unt 0 10000; unfold UntilB; rw [if_pos (.inr s4)]
          clear s1 s4
          go_wp2_with (first | (go_at_call 91; refine (l1In_is _ _ _ _).mono ?_; rintro e w' ⟨rfl, hw'⟩; have hw' := hw'.symm; subst hw'))
          go_ret
          exact ⟨⟨_, rfl, by rw [decide_eq_true_eq, HF.out, HU.out]⟩, hbw⟩
        · have s4' : (b.state == 4) = false := by simpa using s4
          have HU : Hid (UntilB b ↔ b.unt = 0) := by show UntilB b ↔ b.unt = 0; unfold UntilB; rw [if_neg (fun h => by rcases h with h | h; exact s1 h; exact s4 h)]
          clear s1 s4
          go_wp2
          go_ret
          exact ⟨⟨_, rfl, by rw [beq_iff_eq, HF.out, HU.out]⟩, hbw⟩
end Go.Proofs.YtlelckbeoclhbaaGreat
