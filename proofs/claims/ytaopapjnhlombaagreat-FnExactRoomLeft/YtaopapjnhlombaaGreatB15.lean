/-
  OWN TEXT: FitS0, SpecFc, SpecFg.
-/
import Derived.Deep.DeepCutAuto
import Derived.Test.YtaopapjnhlombaaGreatB14
import Derived.Test.YtaopapjnhlombaaGreatB10
import Derived.Test.YtaopapjnhlombaaGreatB13
import Derived.Test.YtaopapjnhlombaaGreatB08
import Derived.Test.YtaopapjnhlombaaGreatB05
namespace Go.Proofs.YtaopapjnhlombaaGreat
open Go.RowKit

set_option maxHeartbeats 800000 in
set_option maxRecDepth 100000 in
theorem l3At_any (ao : Option Addr) (N c : Nat) (S : Nat → Sail) (x : Int) (w : World) (hN : N ≤ 1048576) (hx : SailsAt w ao N S) :
    Calls Tryz.prog 23 #[.slice ao N c, .int .i64 x] w fun e w' => ((findIx S x N < N ∧ e = .returned (.int .i64 (findIx S x N))) ∨ (findIx S x N = N ∧ e = .returned (.int .i64 (-1)))) ∧ Below w.heap.size w w' := by
  go_enter Tryz.func23, Tryz.ntmps23
  go_wp2
  go_loopw [5, 6, 9] (fun _ _ i wr => ∃ k : Nat, k ≤ N ∧ i = .int .i64 k ∧ (∀ j, j < k → (S j).id ≠ x) ∧ Below w.heap.size w wr) (fun _ _ i _ => N - (intOf i).toNat)
  case atStart => exact ⟨0, Nat.zero_le _, rfl, fun j hj => by omega, Below.refl _ _⟩
  case round =>
    obtain ⟨k, hk, rfl, hall, hbel⟩ := hrel
    have HA : Hid (∀ j, j < k → (S j).id ≠ x) := hall
    clear hall
    by_cases hlt : k < N
    · obtain ⟨b, off, la, lc, ca, cc, rfl, h0, h1, h2, h3, h4, h5, h6, h7, _, _, _, _⟩ := hx k hlt
      have hb := World.block_lt_of_cell? w _ h1
      have c0 := (hbel.cell (p := ⟨b, off + k * 8, none⟩) hb).trans h0
      have c1 := (hbel.cell (p := ⟨b, off + k * 8 + 1, none⟩) hb).trans h1
      have c2 := (hbel.cell (p := ⟨b, off + k * 8 + 2, none⟩) hb).trans h2
      have c3 := (hbel.cell (p := ⟨b, off + k * 8 + 3, none⟩) hb).trans h3
      have c4 := (hbel.cell (p := ⟨b, off + k * 8 + 4, none⟩) hb).trans h4
      have c5 := (hbel.cell (p := ⟨b, off + k * 8 + 5, none⟩) hb).trans h5
      have c6 := (hbel.cell (p := ⟨b, off + k * 8 + 6, none⟩) hb).trans h6
      have c7 := (hbel.cell (p := ⟨b, off + k * 8 + 7, none⟩) hb).trans h7
      clear h0 h1 h2 h3 h4 h5 h6 h7
      by_cases he : (S k).id = x
      · have e1 : ((S k).id == x) = true := by simpa using he
        have HF : Hid (findIx S x N = k) := findIx_is hlt he HA.out
        clear he
        go_wp2
        go_ret
        exact ⟨.inl ⟨by rw [HF.out]; exact hlt, by rw [HF.out]; rfl⟩, push hbel _⟩
      · have e1 : ((S k).id == x) = false := by simpa using he
        have HE : Hid ((S k).id ≠ x) := he
        clear he
        go_wp2
        go_roundw
        case rel => exact ⟨k + 1, by omega, by go_num, fun j hj => by
          by_cases e : j = k
          · subst e; exact HE.out
          · exact HA.out j (by omega), push hbel _⟩
        case measure => simp [intOf]; omega
    · obtain rfl : k = N := by omega
      have HF : Hid (findIx S x k = k) := findIx_none HA.out
      go_wp2
      go_ret
      exact ⟨.inr ⟨HF.out, rfl⟩, hbel⟩

set_option maxHeartbeats 3200000 in
set_option maxRecDepth 100000 in
theorem l3Fit_any (ao bo : Option Addr) (N n c c' : Nat) (S : Nat → Sail) (G : Nat → Int) (w : World) (hN : N ≤ 1048576) (hn : n ≤ 1048576) (hx : SailsAt w ao N S) (hy : IntsAt w bo n G) :
    Calls Tryz.prog 104 #[.slice ao N c, .slice bo n c'] w fun e w' => SaysIf (LegsOk N S n G) e ∧ Below w.heap.size w w' := by
  by_cases g3 : In (n : Int) 1 3
  case neg =>
    have d3 : decide (In (n : Int) 1 3) = false := decide_eq_false g3
    have HN : Hid (¬ LegsOk N S n G) := fun h => g3 ⟨by have := h.1; omega, by have := h.2.1; omega⟩
    clear g3
    go_enter Tryz.func104, Tryz.ntmps104
    go_wp2_with (first | (go_at_call 98; refine (l1In_is _ _ _ _).mono ?_; rintro e w' ⟨rfl, hw'⟩; have hw' := hw'.symm; subst hw'))
    go_ret
    exact ⟨says_no HN.out, Below.refl _ _⟩
  have d3 : decide (In (n : Int) 1 3) = true := decide_eq_true g3
  have H3 : Hid (1 ≤ n ∧ n ≤ 3) := ⟨by have := g3.1; omega, by have := g3.2; omega⟩
  have hn3 : n ≤ 3 := H3.out.2
  clear g3
  go_enter Tryz.func104, Tryz.ntmps104
  go_wp2_with (first | (go_at_call 98; refine (l1In_is _ _ _ _).mono ?_; rintro e w' ⟨rfl, hw'⟩; have hw' := hw'.symm; subst hw'))
  go_loopw [5, 6, 7, 8, 15] (fun _ _ _ _ i wr => ∃ k : Nat, k ≤ n ∧ i = .int .i64 k ∧ (∀ j, j < k → LegOk N S G j) ∧ Below w.heap.size w wr) (fun _ _ _ _ i _ => n - (intOf i).toNat)
  case atStart => exact ⟨0, Nat.zero_le _, rfl, fun j hj => by omega, Below.refl _ _⟩
  case round =>
    obtain ⟨k, hk, rfl, hall, hbel⟩ := hrel
    have HA : Hid (∀ j, j < k → LegOk N S G j) := hall
    clear hall d3
    by_cases hlt : k < n
    · have HQ : Hid (0 < k → ∀ b off, bo = some ⟨b, off, none⟩ → w.cell? ⟨b, off + (k - 1), none⟩ = some (.int .i64 (G (k - 1)))) := by
        intro h b off e
        obtain ⟨b', off', e', g⟩ := hy (k - 1) (by omega)
        rw [e] at e'
        simp only [Option.some.injEq, Addr.mk.injEq, and_true] at e'
        obtain ⟨rfl, rfl⟩ := e'
        exact g
      obtain ⟨qb, qoff, rfl, hq⟩ := hy k hlt
      have HQ2 : Hid (0 < k → w.cell? ⟨qb, qoff + (k - 1), none⟩ = some (.int .i64 (G (k - 1)))) := fun h => HQ.out h qb qoff rfl
      clear HQ
      have hqb := World.block_lt_of_cell? w _ hq
      have p0 := (hbel.cell (p := ⟨qb, qoff + k, none⟩) hqb).trans hq
      clear hq
      go_wp2_with fail
      refine (l3At_any ao N c S (G k) _ hN (hx.below hbel)).mono ?_
      rintro e w2 ⟨hr, hb2⟩
      have hbel2 := after hbel hb2
      clear hb2 hbel p0
      rcases hr with ⟨hf, rfl⟩ | ⟨hf, rfl⟩
      · obtain ⟨x, hxx⟩ : ∃ x, x = findIx S (G k) N := ⟨_, rfl⟩
        rw [← hxx] at hf ⊢
        have HX : Hid (x = findIx S (G k) N) := hxx
        clear hxx
        by_cases k0 : k = 0
        · subst k0
          have dn : decide ((x : Int) < 0) = false := by simp
          go_wp2
          go_roundw
          case rel => exact ⟨1, by omega, by go_num, fun j hj => by
            obtain rfl : j = 0 := by omega
            exact ⟨by rw [← HX.out]; exact hf, fun h => by omega⟩, hbel2⟩
          case measure => simp [intOf]; omega
        · have dn : decide ((x : Int) < 0) = false := by simp
          have d0 : decide (0 < k) = true := by simp; omega
          have hk2 : ((k : Int) - 1).toNat = k - 1 := by omega
          have hk3 : (k : Int) - 1 < (n : Int) := by omega
          have hk4 : (0 : Int) ≤ (k : Int) - 1 := by omega
          have hk5 : IntKind.i64.wrap ((k : Int) - 1) = (k : Int) - 1 := by rw [IntKind.wrap_i64]; omega
          have y0 := (hbel2.cell (p := ⟨qb, qoff + (k - 1), none⟩) hqb).trans (HQ2.out (by omega))
          go_wp2_with fail
          refine (l3At_any ao N c S (G (k - 1)) _ hN (hx.below hbel2)).mono ?_
          rintro e w3 ⟨hr, hb3⟩
          have hbel3 := after hbel2 hb3
          have HP : Hid (findIx S (G (k - 1)) N < N) := (HA.out (k - 1) (by omega)).1
          clear hb3 hbel2 y0 dn d0
          rcases hr with ⟨hf2, rfl⟩ | ⟨hf2, rfl⟩
          · obtain ⟨y, hyy⟩ : ∃ y, y = findIx S (G (k - 1)) N := ⟨_, rfl⟩
            rw [← hyy] at hf2 ⊢
            have HY : Hid (y = findIx S (G (k - 1)) N) := hyy
            clear hyy
            have x1 : (x : Int) < (N : Int) := by omega
            have x0 : (0 : Int) ≤ (x : Int) := by omega
            have y1 : (y : Int) < (N : Int) := by omega
            have y0 : (0 : Int) ≤ (y : Int) := by omega
            have HXS := hx x hf
            obtain ⟨b, off, la, lc, ca, cc, rfl, h0, h1, h2, h3, h4, h5, h6, h7, _, _, _, _⟩ := hx y hf2
            obtain ⟨b', off', _, _, _, _, e', g0, g1, g2, g3, _⟩ := HXS
            simp only [Option.some.injEq, Addr.mk.injEq, and_true] at e'
            obtain ⟨rfl, rfl⟩ := e'
            have hb := World.block_lt_of_cell? w _ h1
            have c0 := (hbel3.cell (p := ⟨b, off + y * 8, none⟩) hb).trans h0
            have c1 := (hbel3.cell (p := ⟨b, off + y * 8 + 1, none⟩) hb).trans h1
            have c2 := (hbel3.cell (p := ⟨b, off + y * 8 + 2, none⟩) hb).trans h2
            have c3 := (hbel3.cell (p := ⟨b, off + y * 8 + 3, none⟩) hb).trans h3
            have c4 := (hbel3.cell (p := ⟨b, off + y * 8 + 4, none⟩) hb).trans h4
            have c5 := (hbel3.cell (p := ⟨b, off + y * 8 + 5, none⟩) hb).trans h5
            have c6 := (hbel3.cell (p := ⟨b, off + y * 8 + 6, none⟩) hb).trans h6
            have c7 := (hbel3.cell (p := ⟨b, off + y * 8 + 7, none⟩) hb).trans h7
            have hbx := push hbel3 (.cells #[.int .i64 (S y).id, .string (S y).fr, .string (S y).dst, .int .i64 (S y).dep, .int .i64 (S y).arr, .slice la (S y).la.n lc, .slice ca (S y).ca.n cc, .int .i64 (S y).most] 59)
            have q1 := (hbx.cell (p := ⟨b, off + x * 8 + 1, none⟩) hb).trans g1
            have q3 := (hbx.cell (p := ⟨b, off + x * 8 + 3, none⟩) hb).trans g3
            clear h0 h1 h2 h3 h4 h5 h6 h7 g0 g1 g2 g3
            have HOK : Hid (((S y).dst = (S x).fr ∧ (S y).arr ≤ (S x).dep) ↔ LegOk N S G k) := by
              unfold LegOk
              rw [← HX.out, ← HY.out]
              exact ⟨fun h => ⟨hf, fun _ => h⟩, fun h => h.2 (by omega)⟩
            by_cases m1 : (S y).dst = (S x).fr
            · have e1 : ((S y).dst.toList == (S x).fr.toList) = true := bytes_eq.2 m1
              have M1 : Hid ((S y).dst = (S x).fr) := m1
              clear m1
              by_cases m2 : (S y).arr ≤ (S x).dep
              · have e2 : decide ((S x).dep < (S y).arr) = false := by simpa using m2
                go_wp2
                go_quiet (fail)
                go_wp2
                go_roundw
                case rel => exact ⟨k + 1, by omega, by go_num, fun j hj => by
                  by_cases e : j = k
                  · subst e; exact HOK.out.1 ⟨M1.out, m2⟩
                  · exact HA.out j (by omega), below_drewN hbx _⟩
                case measure => simp [intOf]; omega
              · have e2 : decide ((S x).dep < (S y).arr) = true := by simpa using m2
                go_wp2
                go_quiet (fail)
                go_wp2
                go_ret
                exact ⟨says_no (fun h => by have := (HOK.out.2 (h.2.2 k hlt)).2; omega), below_drewN hbx _⟩
            · have e1 : ((S y).dst.toList == (S x).fr.toList) = false := bytes_ne.2 m1
              have M1 : Hid (¬ (S y).dst = (S x).fr) := m1
              clear m1
              go_wp2
              go_quiet (fail)
              go_wp2
              go_ret
              exact ⟨says_no (fun h => M1.out (HOK.out.2 (h.2.2 k hlt)).1), below_drewN hbx _⟩
          · exfalso
            have := HP.out
            omega
      · have dn : decide ((-1 : Int) < 0) = true := rfl
        have HF : Hid (findIx S (G k) N = N) := hf
        clear hf
        go_wp2
        go_ret
        exact ⟨says_no (fun h => by have := (h.2.2 k hlt).1; have := HF.out; omega), hbel2⟩
    · obtain rfl : k = n := by omega
      go_wp2
      go_ret
      exact ⟨says_yes ⟨H3.out.1, H3.out.2, HA.out⟩, hbel⟩

end Go.Proofs.YtaopapjnhlombaaGreat

namespace Go.Proofs.YtaopapjnhlombaaGreat
open Go.RowKit

theorem l6Car_is (x y : Int) (w : World) :
    Calls Tryz.prog 142 #[.int .i64 x, .int .i64 y] w fun e w' => e = .returned (.bool (decide (CarOk x y))) ∧ w' = w := by
  obtain ⟨c, hc⟩ : ∃ c, c = decide (CarOk x y) := ⟨_, rfl⟩
  rw [← hc]
  have HC : Hid (c = decide (CarOk x y)) := hc
  clear hc
  by_cases h1 : In x 1 2000
  · have e1 : decide (In x 1 2000) = true := decide_eq_true h1
    have H1 : Hid (In x 1 2000) := h1
    clear h1
    by_cases h2 : In y 1 500
    · have e2 : decide (In y 1 500) = true := decide_eq_true h2
      have H2 : Hid (In y 1 500) := h2
      clear h2
      go_enter Tryz.func142, Tryz.ntmps142
      go_wp2_with (first | (go_at_call 98; refine (l1In_is _ _ _ _).mono ?_; rintro e w' ⟨rfl, hw'⟩; have hw' := hw'.symm; subst hw'))
      go_ret
      exact ⟨by rw [HC.out, decide_eq_true ⟨H1.out, H2.out⟩]; rfl, rfl⟩
    · have e2 : decide (In y 1 500) = false := decide_eq_false h2
      have H2 : Hid (¬ In y 1 500) := h2
      clear h2
      go_enter Tryz.func142, Tryz.ntmps142
      go_wp2_with (first | (go_at_call 98; refine (l1In_is _ _ _ _).mono ?_; rintro e w' ⟨rfl, hw'⟩; have hw' := hw'.symm; subst hw'))
      go_ret
      exact ⟨by rw [HC.out, decide_eq_false (fun h => H2.out h.2)]; rfl, rfl⟩
  · have e1 : decide (In x 1 2000) = false := decide_eq_false h1
    have H1 : Hid (¬ In x 1 2000) := h1
    clear h1
    go_enter Tryz.func142, Tryz.ntmps142
    go_wp2_with (first | (go_at_call 98; refine (l1In_is _ _ _ _).mono ?_; rintro e w' ⟨rfl, hw'⟩; have hw' := hw'.symm; subst hw'))
    go_ret
    exact ⟨by rw [HC.out, decide_eq_false (fun h => H1.out h.1)]; rfl, rfl⟩

end Go.Proofs.YtaopapjnhlombaaGreat

namespace Go.Proofs.YtaopapjnhlombaaGreat
open Go.RowKit

set_option maxHeartbeats 3200000 in
theorem specParty_any (pe len hei cl : Int) (all : Bool) (be : Int) (w : World) :
    Calls Tryz.prog 105 #[.agg #[.int .i64 pe, .int .i64 len, .int .i64 hei, .int .i64 cl, .bool all, .int .i64 be]] w fun e w' => SaysIf (PartyOk ⟨pe, len, hei, cl, all, be⟩) e ∧ Below w.heap.size w w' := by
  by_cases h1 : In pe 1 20
  · have e1 : decide (In pe 1 20) = true := decide_eq_true h1
    have H1 : Hid (In pe 1 20) := h1
    clear h1
    by_cases h2 : len = 0
    · subst h2
      have HN : Hid (¬ CarOk 0 hei) := fun h => by have := h.1; unfold In at this; omega
      have e3 : decide (CarOk 0 hei) = false := decide_eq_false HN.out
      by_cases h3 : hei = 0
      · subst h3
        by_cases k0 : cl = 0
        · subst k0
          cases all with
          | true =>
            go_enter Tryz.func105, Tryz.ntmps105
            go_wp2_with (first | (go_at_call 98; refine (l1In_is _ _ _ _).mono ?_; rintro e w' ⟨rfl, hw'⟩; have hw' := hw'.symm; subst hw') | (go_at_call 142; refine (l6Car_is _ _ _).mono ?_; rintro e w' ⟨rfl, hw'⟩; have hw' := hw'.symm; subst hw'))
            go_ret
            exact ⟨says_no (fun h => by rcases h.2.2 with h | h; cases h.2.1; have h9 : In (0 : Int) 1 3 := h.1; unfold In at h9; omega), push (Below.refl _ _) _⟩
          | false =>
            by_cases k1 : be = 0
            · subst k1
              go_enter Tryz.func105, Tryz.ntmps105
              go_wp2_with (first | (go_at_call 98; refine (l1In_is _ _ _ _).mono ?_; rintro e w' ⟨rfl, hw'⟩; have hw' := hw'.symm; subst hw') | (go_at_call 142; refine (l6Car_is _ _ _).mono ?_; rintro e w' ⟨rfl, hw'⟩; have hw' := hw'.symm; subst hw'))
              go_ret
              exact ⟨says_yes ⟨H1.out, .inl ⟨rfl, rfl⟩, .inl ⟨rfl, rfl, rfl⟩⟩, push (Below.refl _ _) _⟩
            · have x1 : (be == 0) = false := by simpa using k1
              have K1 : Hid (¬ be = 0) := k1
              clear k1
              go_enter Tryz.func105, Tryz.ntmps105
              go_wp2_with (first | (go_at_call 98; refine (l1In_is _ _ _ _).mono ?_; rintro e w' ⟨rfl, hw'⟩; have hw' := hw'.symm; subst hw') | (go_at_call 142; refine (l6Car_is _ _ _).mono ?_; rintro e w' ⟨rfl, hw'⟩; have hw' := hw'.symm; subst hw'))
              go_ret
              exact ⟨says_no (fun h => by rcases h.2.2 with h | h; exact K1.out h.2.2; have h9 : In (0 : Int) 1 3 := h.1; unfold In at h9; omega), push (Below.refl _ _) _⟩
        · have x0 : (cl == 0) = false := by simpa using k0
          have K0 : Hid (¬ cl = 0) := k0
          clear k0
          by_cases k2 : In cl 1 3
          · have x2 : decide (In cl 1 3) = true := decide_eq_true k2
            have K2 : Hid (In cl 1 3) := k2
            clear k2
            cases all with
            | true =>
              by_cases k1 : be = 0
              · subst k1
                go_enter Tryz.func105, Tryz.ntmps105
                go_wp2_with (first | (go_at_call 98; refine (l1In_is _ _ _ _).mono ?_; rintro e w' ⟨rfl, hw'⟩; have hw' := hw'.symm; subst hw') | (go_at_call 142; refine (l6Car_is _ _ _).mono ?_; rintro e w' ⟨rfl, hw'⟩; have hw' := hw'.symm; subst hw'))
                go_ret
                exact ⟨says_yes ⟨H1.out, .inl ⟨rfl, rfl⟩, .inr ⟨K2.out, .inl ⟨rfl, rfl⟩⟩⟩, push (Below.refl _ _) _⟩
              · have x1 : (be == 0) = false := by simpa using k1
                have K1 : Hid (¬ be = 0) := k1
                clear k1
                go_enter Tryz.func105, Tryz.ntmps105
                go_wp2_with (first | (go_at_call 98; refine (l1In_is _ _ _ _).mono ?_; rintro e w' ⟨rfl, hw'⟩; have hw' := hw'.symm; subst hw') | (go_at_call 142; refine (l6Car_is _ _ _).mono ?_; rintro e w' ⟨rfl, hw'⟩; have hw' := hw'.symm; subst hw'))
                go_ret
                exact ⟨says_no (fun h => by rcases h.2.2 with h | h; exact K0.out h.1; rcases h.2 with h | h; exact K1.out h.2; cases h.1), push (Below.refl _ _) _⟩
            | false =>
              by_cases k3 : In be 1 4
              · have x3 : decide (In be 1 4) = true := decide_eq_true k3
                have K3 : Hid (In be 1 4) := k3
                clear k3
                go_enter Tryz.func105, Tryz.ntmps105
                go_wp2_with (first | (go_at_call 98; refine (l1In_is _ _ _ _).mono ?_; rintro e w' ⟨rfl, hw'⟩; have hw' := hw'.symm; subst hw') | (go_at_call 142; refine (l6Car_is _ _ _).mono ?_; rintro e w' ⟨rfl, hw'⟩; have hw' := hw'.symm; subst hw'))
                go_ret
                exact ⟨says_yes ⟨H1.out, .inl ⟨rfl, rfl⟩, .inr ⟨K2.out, .inr ⟨rfl, K3.out⟩⟩⟩, push (Below.refl _ _) _⟩
              · have x3 : decide (In be 1 4) = false := decide_eq_false k3
                have K3 : Hid (¬ In be 1 4) := k3
                clear k3
                go_enter Tryz.func105, Tryz.ntmps105
                go_wp2_with (first | (go_at_call 98; refine (l1In_is _ _ _ _).mono ?_; rintro e w' ⟨rfl, hw'⟩; have hw' := hw'.symm; subst hw') | (go_at_call 142; refine (l6Car_is _ _ _).mono ?_; rintro e w' ⟨rfl, hw'⟩; have hw' := hw'.symm; subst hw'))
                go_ret
                exact ⟨says_no (fun h => by rcases h.2.2 with h | h; exact K0.out h.1; rcases h.2 with h | h; cases h.1; exact K3.out h.2), push (Below.refl _ _) _⟩
          · have x2 : decide (In cl 1 3) = false := decide_eq_false k2
            have K2 : Hid (¬ In cl 1 3) := k2
            clear k2
            go_enter Tryz.func105, Tryz.ntmps105
            go_wp2_with (first | (go_at_call 98; refine (l1In_is _ _ _ _).mono ?_; rintro e w' ⟨rfl, hw'⟩; have hw' := hw'.symm; subst hw') | (go_at_call 142; refine (l6Car_is _ _ _).mono ?_; rintro e w' ⟨rfl, hw'⟩; have hw' := hw'.symm; subst hw'))
            go_ret
            exact ⟨says_no (fun h => by rcases h.2.2 with h | h; exact K0.out h.1; exact K2.out h.1), push (Below.refl _ _) _⟩
      · have e2 : (hei == 0) = false := by simpa using h3
        have H3 : Hid (¬ hei = 0) := h3
        clear h3
        go_enter Tryz.func105, Tryz.ntmps105
        go_wp2_with (first | (go_at_call 98; refine (l1In_is _ _ _ _).mono ?_; rintro e w' ⟨rfl, hw'⟩; have hw' := hw'.symm; subst hw') | (go_at_call 142; refine (l6Car_is _ _ _).mono ?_; rintro e w' ⟨rfl, hw'⟩; have hw' := hw'.symm; subst hw'))
        go_ret
        exact ⟨says_no (fun h => by rcases h.2.1 with h | h; exact H3.out h.2; exact HN.out h), push (Below.refl _ _) _⟩
    · have e2 : (len == 0) = false := by simpa using h2
      have H2 : Hid (¬ len = 0) := h2
      clear h2
      by_cases h3 : CarOk len hei
      · have e3 : decide (CarOk len hei) = true := decide_eq_true h3
        have H3 : Hid (CarOk len hei) := h3
        clear h3
        by_cases k0 : cl = 0
        · subst k0
          cases all with
          | true =>
            go_enter Tryz.func105, Tryz.ntmps105
            go_wp2_with (first | (go_at_call 98; refine (l1In_is _ _ _ _).mono ?_; rintro e w' ⟨rfl, hw'⟩; have hw' := hw'.symm; subst hw') | (go_at_call 142; refine (l6Car_is _ _ _).mono ?_; rintro e w' ⟨rfl, hw'⟩; have hw' := hw'.symm; subst hw'))
            go_ret
            exact ⟨says_no (fun h => by rcases h.2.2 with h | h; cases h.2.1; have h9 : In (0 : Int) 1 3 := h.1; unfold In at h9; omega), push (Below.refl _ _) _⟩
          | false =>
            by_cases k1 : be = 0
            · subst k1
              go_enter Tryz.func105, Tryz.ntmps105
              go_wp2_with (first | (go_at_call 98; refine (l1In_is _ _ _ _).mono ?_; rintro e w' ⟨rfl, hw'⟩; have hw' := hw'.symm; subst hw') | (go_at_call 142; refine (l6Car_is _ _ _).mono ?_; rintro e w' ⟨rfl, hw'⟩; have hw' := hw'.symm; subst hw'))
              go_ret
              exact ⟨says_yes ⟨H1.out, .inr H3.out, .inl ⟨rfl, rfl, rfl⟩⟩, push (Below.refl _ _) _⟩
            · have x1 : (be == 0) = false := by simpa using k1
              have K1 : Hid (¬ be = 0) := k1
              clear k1
              go_enter Tryz.func105, Tryz.ntmps105
              go_wp2_with (first | (go_at_call 98; refine (l1In_is _ _ _ _).mono ?_; rintro e w' ⟨rfl, hw'⟩; have hw' := hw'.symm; subst hw') | (go_at_call 142; refine (l6Car_is _ _ _).mono ?_; rintro e w' ⟨rfl, hw'⟩; have hw' := hw'.symm; subst hw'))
              go_ret
              exact ⟨says_no (fun h => by rcases h.2.2 with h | h; exact K1.out h.2.2; have h9 : In (0 : Int) 1 3 := h.1; unfold In at h9; omega), push (Below.refl _ _) _⟩
        · have x0 : (cl == 0) = false := by simpa using k0
          have K0 : Hid (¬ cl = 0) := k0
          clear k0
          by_cases k2 : In cl 1 3
          · have x2 : decide (In cl 1 3) = true := decide_eq_true k2
            have K2 : Hid (In cl 1 3) := k2
            clear k2
            cases all with
            | true =>
              by_cases k1 : be = 0
              · subst k1
                go_enter Tryz.func105, Tryz.ntmps105
                go_wp2_with (first | (go_at_call 98; refine (l1In_is _ _ _ _).mono ?_; rintro e w' ⟨rfl, hw'⟩; have hw' := hw'.symm; subst hw') | (go_at_call 142; refine (l6Car_is _ _ _).mono ?_; rintro e w' ⟨rfl, hw'⟩; have hw' := hw'.symm; subst hw'))
                go_ret
                exact ⟨says_yes ⟨H1.out, .inr H3.out, .inr ⟨K2.out, .inl ⟨rfl, rfl⟩⟩⟩, push (Below.refl _ _) _⟩
              · have x1 : (be == 0) = false := by simpa using k1
                have K1 : Hid (¬ be = 0) := k1
                clear k1
                go_enter Tryz.func105, Tryz.ntmps105
                go_wp2_with (first | (go_at_call 98; refine (l1In_is _ _ _ _).mono ?_; rintro e w' ⟨rfl, hw'⟩; have hw' := hw'.symm; subst hw') | (go_at_call 142; refine (l6Car_is _ _ _).mono ?_; rintro e w' ⟨rfl, hw'⟩; have hw' := hw'.symm; subst hw'))
                go_ret
                exact ⟨says_no (fun h => by rcases h.2.2 with h | h; exact K0.out h.1; rcases h.2 with h | h; exact K1.out h.2; cases h.1), push (Below.refl _ _) _⟩
            | false =>
              by_cases k3 : In be 1 4
              · have x3 : decide (In be 1 4) = true := decide_eq_true k3
                have K3 : Hid (In be 1 4) := k3
                clear k3
                go_enter Tryz.func105, Tryz.ntmps105
                go_wp2_with (first | (go_at_call 98; refine (l1In_is _ _ _ _).mono ?_; rintro e w' ⟨rfl, hw'⟩; have hw' := hw'.symm; subst hw') | (go_at_call 142; refine (l6Car_is _ _ _).mono ?_; rintro e w' ⟨rfl, hw'⟩; have hw' := hw'.symm; subst hw'))
                go_ret
                exact ⟨says_yes ⟨H1.out, .inr H3.out, .inr ⟨K2.out, .inr ⟨rfl, K3.out⟩⟩⟩, push (Below.refl _ _) _⟩
              · have x3 : decide (In be 1 4) = false := decide_eq_false k3
                have K3 : Hid (¬ In be 1 4) := k3
                clear k3
                go_enter Tryz.func105, Tryz.ntmps105
                go_wp2_with (first | (go_at_call 98; refine (l1In_is _ _ _ _).mono ?_; rintro e w' ⟨rfl, hw'⟩; have hw' := hw'.symm; subst hw') | (go_at_call 142; refine (l6Car_is _ _ _).mono ?_; rintro e w' ⟨rfl, hw'⟩; have hw' := hw'.symm; subst hw'))
                go_ret
                exact ⟨says_no (fun h => by rcases h.2.2 with h | h; exact K0.out h.1; rcases h.2 with h | h; cases h.1; exact K3.out h.2), push (Below.refl _ _) _⟩
          · have x2 : decide (In cl 1 3) = false := decide_eq_false k2
            have K2 : Hid (¬ In cl 1 3) := k2
            clear k2
            go_enter Tryz.func105, Tryz.ntmps105
            go_wp2_with (first | (go_at_call 98; refine (l1In_is _ _ _ _).mono ?_; rintro e w' ⟨rfl, hw'⟩; have hw' := hw'.symm; subst hw') | (go_at_call 142; refine (l6Car_is _ _ _).mono ?_; rintro e w' ⟨rfl, hw'⟩; have hw' := hw'.symm; subst hw'))
            go_ret
            exact ⟨says_no (fun h => by rcases h.2.2 with h | h; exact K0.out h.1; exact K2.out h.1), push (Below.refl _ _) _⟩
      · have e3 : decide (CarOk len hei) = false := decide_eq_false h3
        have H3 : Hid (¬ CarOk len hei) := h3
        clear h3
        go_enter Tryz.func105, Tryz.ntmps105
        go_wp2_with (first | (go_at_call 98; refine (l1In_is _ _ _ _).mono ?_; rintro e w' ⟨rfl, hw'⟩; have hw' := hw'.symm; subst hw') | (go_at_call 142; refine (l6Car_is _ _ _).mono ?_; rintro e w' ⟨rfl, hw'⟩; have hw' := hw'.symm; subst hw'))
        go_ret
        exact ⟨says_no (fun h => by rcases h.2.1 with h | h; exact H2.out h.1; exact H3.out h), push (Below.refl _ _) _⟩
  · have e1 : decide (In pe 1 20) = false := decide_eq_false h1
    have H1 : Hid (¬ In pe 1 20) := h1
    clear h1
    go_enter Tryz.func105, Tryz.ntmps105
    go_wp2_with (first | (go_at_call 98; refine (l1In_is _ _ _ _).mono ?_; rintro e w' ⟨rfl, hw'⟩; have hw' := hw'.symm; subst hw') | (go_at_call 142; refine (l6Car_is _ _ _).mono ?_; rintro e w' ⟨rfl, hw'⟩; have hw' := hw'.symm; subst hw'))
    go_ret
    exact ⟨says_no (fun h => H1.out h.1), push (Below.refl _ _) _⟩

end Go.Proofs.YtaopapjnhlombaaGreat
