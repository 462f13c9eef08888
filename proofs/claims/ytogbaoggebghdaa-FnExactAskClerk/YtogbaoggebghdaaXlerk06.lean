/-
  OWN TEXT: SpecAsk, MarkClerk, HeldCk.
-/
import Derived.Deep.DeepCutAuto
import Derived.Deep.RegionHeld3
import Derived.Test.YtogbaoggebghdaaXlerk03
import Derived.Test.YtogbaoggebghdaaXlerk02
import Derived.Test.YtogbaoggebghdaaB16
import Derived.Test.YtogbaoggebghdaaXlerk05
import Derived.Test.YtogbaoggebghdaaB05
import Derived.Test.YtogbaoggebghdaaXlerk01
import Derived.Test.YtogbaoggebghdaaXlerk00
import Derived.Test.YtogbaoggebghdaaB04
namespace Go.Proofs.Ytogbaoggebghdaa
open Go.RowKit Classical

set_option maxHeartbeats 12800000 in
set_option maxRecDepth 100000 in
theorem specAsk_any (ao : Option Addr) (N c : Nat) (S : Nat → ClkD) (nm : ByteArray) (num : Int) (w : World) (hN : N ≤ 1048576) (hs : ClkDsShort N S 1048576) (hx : ClkDsAt w ao N S) (hnm : nm.size ≤ 1048576) :
    Calls Try.prog 10 #[.slice ao N c, .string nm, .int .i64 num] w fun e w' => (∃ v rv N' S' R a z, e = .returned (.tuple #[v, .agg #[.int .i64 a.code, .int .i64 a.anam, .int .i64 a.price, rv], .int .i64 z]) ∧ AskOut w' w.heap.size v rv N' S' R a ∧ Hid (AskIs N S nm num N' S' a z)) ∧ Below w.heap.size w w' := by
  have HX : Hid (ClkDsAt w ao N S) := hx
  have HS : Hid (ClkDsShort N S 1048576) := hs
  clear hx hs
  obtain ⟨q, hq⟩ : ∃ q : Bool, q = clerksOk N S := ⟨_, rfl⟩
  have HQ : Hid (clerksOk N S = q) := hq.symm
  have HV : Hid (q = true ↔ ClerksOk N S) := by rw [hq]; exact decide_eq_true_iff
  clear hq
  have bZ := heap_alloc_new w (.cells #[.int .i64 0, .int .i64 0, .int .i64 0, .slice none 0 0] 28)
  have hb0 : Below w.heap.size w (w.alloc (.cells #[.int .i64 0, .int .i64 0, .int .i64 0, .slice none 0 0] 28)) := push (Below.refl _ _) _
  go_enter Try.func10, Try.ntmps10
  go_upto_region 1 with fail
  generalize w.alloc (.cells #[.int .i64 0, .int .i64 0, .int .i64 0, .slice none 0 0] 28) = W0 at bZ hb0 ⊢
  obtain ⟨zB, hzB⟩ : ∃ u, u = w.heap.size := ⟨_, rfl⟩
  rw [← hzB] at bZ ⊢
  have HzE : Hid (zB = w.heap.size) := hzB
  clear hzB
  go_wp2_with fail
  refine (specGoodC_any ao N c S _ hN HS.out (HX.out.below (HzE.out ▸ hb0))).mono ?_
  rintro e w1 ⟨he, hb1⟩
  rw [HQ.out] at he
  subst he
  clear HQ
  have bw1 : Below w.heap.size w w1 := after hb0 hb1
  replace bZ := blk_below bZ hb1
  have HzB : Hid (zB < w1.heap.size) := blk_lt bZ
  have HW1 : Hid (w.heap.size ≤ w1.heap.size) := bw1.size
  clear hb0 hb1
  cases q with
  | false =>
    have HG : Hid (¬ ClerksOk N S) := fun h => by have := HV.out.2 h; cases this
    have y0 := blk_cell bZ 0 _ rfl
    have f0 := blk_free bZ 0
    have y1 := blk_cell bZ 1 _ rfl
    have f1 := blk_free bZ 1
    have y2 := blk_cell bZ 2 _ rfl
    have f2 := blk_free bZ 2
    have y3 := blk_cell bZ 3 _ rfl
    have f3 := blk_free bZ 3
    have hO0 : OwnClks w1 w1.heap.size (.slice none 0 0) 0 S (fun _ => .slice none 0 0) := OwnClks.nil _ _ _ _
    go_wp2
    have rF := ans_set bZ (.int .i64 0) (.int .i64 0) (.int .i64 0) (.slice none 0 0)
    have hkF : Kept w1 ((((w1.setCell ⟨zB, 0, none⟩ (.int .i64 0)).setCell ⟨zB, 1, none⟩ (.int .i64 0)).setCell ⟨zB, 2, none⟩ (.int .i64 0)).setCell ⟨zB, 3, none⟩ (.slice none 0 0)) (fun b => b = zB) := (((((Kept.refl w1 (fun b => b = zB)).set (a := ⟨zB, 0, none⟩) rfl _).set (a := ⟨zB, 1, none⟩) rfl _).set (a := ⟨zB, 2, none⟩) rfl _).set (a := ⟨zB, 3, none⟩) rfl _)
    have hOF := OwnClks.keep hO0 hkF (fun b hb e => by have e : b = zB := e; have := (OwnClks.blocks hO0 b hb).1; have := HzB.out; omega)
    have hbF : Below w.heap.size w ((((w1.setCell ⟨zB, 0, none⟩ (.int .i64 0)).setCell ⟨zB, 1, none⟩ (.int .i64 0)).setCell ⟨zB, 2, none⟩ (.int .i64 0)).setCell ⟨zB, 3, none⟩ (.slice none 0 0)) := Kept.below bw1 bw1.size hkF (fun b e => by have e : b = zB := e; have := HzE.out; omega)
    generalize ((((w1.setCell ⟨zB, 0, none⟩ (.int .i64 0)).setCell ⟨zB, 1, none⟩ (.int .i64 0)).setCell ⟨zB, 2, none⟩ (.int .i64 0)).setCell ⟨zB, 3, none⟩ (.slice none 0 0)) = F at rF hkF hOF hbF ⊢
    have z0 := blk_cell rF 0 _ rfl
    have z1 := blk_cell rF 1 _ rfl
    have z2 := blk_cell rF 2 _ rfl
    have z3 := blk_cell rF 3 _ rfl
    exact bodyPost_ret (v := .tuple #[.slice none 0 0, .agg #[.int .i64 0, .int .i64 0, .int .i64 0, .slice none 0 0], .int .i64 2]) (by simp [results, Try.results10, go_sem, z0, z1, z2, z3]) rfl ⟨⟨_, _, 0, S, _, ansZero, 2, rfl, AskOut.zero hOF HW1.out, .inl ⟨HG.out, rfl, rfl, rfl⟩⟩, hbF⟩
  | true =>
    have HG : Hid (ClerksOk N S) := HV.out.1 rfl
    clear HV
    have h20 := HG.out.1
    go_wp2_with fail
    refine (l10Own_any ao N c S _ hN HS.out (HX.out.below bw1)).mono ?_
    rintro e w2 ⟨⟨av, cv, R, rfl, hO⟩, hb2⟩
    have h12 : w1.heap.size ≤ w2.heap.size := hb2.size
    have bw2 := after bw1 hb2
    replace bZ := blk_below bZ hb2
    clear hb2 bw1
    go_wp2_with fail
    refine (l10At_any av N cv S nm _ hN hO.at).mono ?_
    rintro e w3 ⟨⟨p, rfl, hp⟩, hb3⟩
    have bw3 := after bw2 hb3
    have HW13 : Hid (w1.heap.size ≤ w3.heap.size) := Nat.le_trans h12 hb3.size
    clear h12
    replace bZ := blk_below bZ hb3
    have HO : Hid (OwnClks w3 w1.heap.size (.slice av N cv) N S R) := hO.below hb3
    clear hb3 bw2 hO
    by_cases hbad : AskBad N nm num p
    case pos =>
      have HBAD : Hid (AskBad N nm num p) := hbad
      clear hbad
      have y0 := blk_cell bZ 0 _ rfl
      have f0 := blk_free bZ 0
      have y1 := blk_cell bZ 1 _ rfl
      have f1 := blk_free bZ 1
      have y2 := blk_cell bZ 2 _ rfl
      have f2 := blk_free bZ 2
      have y3 := blk_cell bZ 3 _ rfl
      have f3 := blk_free bZ 3
      go_upto_region 5 with fail
      go_cut [42] (fun b wx => wx = w3 ∧ b = .bool true)
      case first =>
        have HN1 : Hid (IsName nm → ∀ w, Calls Try.prog 45 #[.string nm] w fun e w' => e = .returned (.bool true) ∧ w' = w) := fun h w => (l1Name_is nm w (by omega)).mono fun e w' ⟨he, hw⟩ => ⟨by rw [he, decide_eq_true h], hw⟩
        have HN0 : Hid (¬ IsName nm → ∀ w, Calls Try.prog 45 #[.string nm] w fun e w' => e = .returned (.bool false) ∧ w' = w) := fun h w => (l1Name_is nm w (by omega)).mono fun e w' ⟨he, hw⟩ => ⟨by rw [he, decide_eq_false h], hw⟩
        have HI1 : Hid (In num 1 1000000 → ∀ w, Calls Try.prog 46 #[.int .i64 num, .int .i64 1, .int .i64 1000000] w fun e w' => e = .returned (.bool true) ∧ w' = w) := fun h w => (l1In_is num 1 1000000 w).mono fun e w' ⟨he, hw⟩ => ⟨by rw [he, decide_eq_true h], hw⟩
        have HI0 : Hid (¬ In num 1 1000000 → ∀ w, Calls Try.prog 46 #[.int .i64 num, .int .i64 1, .int .i64 1000000] w fun e w' => e = .returned (.bool false) ∧ w' = w) := fun h w => (l1In_is num 1 1000000 w).mono fun e w' ⟨he, hw⟩ => ⟨by rw [he, decide_eq_false h], hw⟩
        by_cases hn : IsName nm
        case neg =>
          have H1 : Hid (∀ w, Calls Try.prog 45 #[.string nm] w fun e w' => e = .returned (.bool false) ∧ w' = w) := HN0.out hn
          clear hn
          go_wp2_with (first | (go_at_call 45; refine (H1.out _).mono ?_; rintro e w' ⟨rfl, hw'⟩; have hw1 := hw'.symm; subst hw1))
          go_meet
          exact ⟨rfl, rfl⟩
        have H1 : Hid (∀ w, Calls Try.prog 45 #[.string nm] w fun e w' => e = .returned (.bool true) ∧ w' = w) := HN1.out hn
        by_cases hi : In num 1 1000000
        case neg =>
          have H2 : Hid (∀ w, Calls Try.prog 46 #[.int .i64 num, .int .i64 1, .int .i64 1000000] w fun e w' => e = .returned (.bool false) ∧ w' = w) := HI0.out hi
          clear hn hi
          go_wp2_with (first | (go_at_call 45; refine (H1.out _).mono ?_; rintro e w' ⟨rfl, hw'⟩; have hw1 := hw'.symm; subst hw1) | (go_at_call 46; refine (H2.out _).mono ?_; rintro e w' ⟨rfl, hw'⟩; have hw1 := hw'.symm; subst hw1))
          go_meet
          exact ⟨rfl, rfl⟩
        have H2 : Hid (∀ w, Calls Try.prog 46 #[.int .i64 num, .int .i64 1, .int .i64 1000000] w fun e w' => e = .returned (.bool true) ∧ w' = w) := HI1.out hi
        have hb3 : p < 0 ∧ (N = 20 ∨ num ≠ 1) := by rcases HBAD.out with h | h | h; exact absurd hn h; exact absurd hi h; exact h
        obtain ⟨pneg, hor⟩ := hb3
        have dp : decide (p < 0) = true := by simpa using pneg
        clear hn hi
        by_cases e20 : N = 20
        · have d20 : ((N : Int) == 20) = true := by simp; omega
          clear e20 hor
          go_wp2_with (first | (go_at_call 45; refine (H1.out _).mono ?_; rintro e w' ⟨rfl, hw'⟩; have hw1 := hw'.symm; subst hw1) | (go_at_call 46; refine (H2.out _).mono ?_; rintro e w' ⟨rfl, hw'⟩; have hw1 := hw'.symm; subst hw1))
          go_meet
          exact ⟨rfl, rfl⟩
        · have d20 : ((N : Int) == 20) = false := by simp; omega
          have d1 : (num != 1) = true := by rcases hor with h | h; exact absurd h e20; simpa using h
          go_wp2_with (first | (go_at_call 45; refine (H1.out _).mono ?_; rintro e w' ⟨rfl, hw'⟩; have hw1 := hw'.symm; subst hw1) | (go_at_call 46; refine (H2.out _).mono ?_; rintro e w' ⟨rfl, hw'⟩; have hw1 := hw'.symm; subst hw1))
          go_meet
          exact ⟨rfl, rfl⟩
      case rest =>
      obtain ⟨hw', rfl⟩ := hcut
      have hw1 := hw'.symm
      subst hw1
      go_wp2
      have rF := ans_set bZ (.int .i64 0) (.int .i64 0) (.int .i64 0) (.slice none 0 0)
      have hkF : Kept w3 ((((w3.setCell ⟨zB, 0, none⟩ (.int .i64 0)).setCell ⟨zB, 1, none⟩ (.int .i64 0)).setCell ⟨zB, 2, none⟩ (.int .i64 0)).setCell ⟨zB, 3, none⟩ (.slice none 0 0)) (fun b => b = zB) := (((((Kept.refl w3 (fun b => b = zB)).set (a := ⟨zB, 0, none⟩) rfl _).set (a := ⟨zB, 1, none⟩) rfl _).set (a := ⟨zB, 2, none⟩) rfl _).set (a := ⟨zB, 3, none⟩) rfl _)
      have hOF := OwnClks.keep HO.out hkF (fun b hb e => by have e : b = zB := e; have := (OwnClks.blocks HO.out b hb).1; have := HzB.out; omega)
      have hbF : Below w.heap.size w ((((w3.setCell ⟨zB, 0, none⟩ (.int .i64 0)).setCell ⟨zB, 1, none⟩ (.int .i64 0)).setCell ⟨zB, 2, none⟩ (.int .i64 0)).setCell ⟨zB, 3, none⟩ (.slice none 0 0)) := Kept.below bw3 bw3.size hkF (fun b e => by have e : b = zB := e; have := HzE.out; omega)
      generalize ((((w3.setCell ⟨zB, 0, none⟩ (.int .i64 0)).setCell ⟨zB, 1, none⟩ (.int .i64 0)).setCell ⟨zB, 2, none⟩ (.int .i64 0)).setCell ⟨zB, 3, none⟩ (.slice none 0 0)) = F at rF hkF hOF hbF ⊢
      have z0 := blk_cell rF 0 _ rfl
      have z1 := blk_cell rF 1 _ rfl
      have z2 := blk_cell rF 2 _ rfl
      have z3 := blk_cell rF 3 _ rfl
      exact bodyPost_ret (v := .tuple #[_, .agg #[.int .i64 0, .int .i64 0, .int .i64 0, .slice none 0 0], .int .i64 2]) (by simp [results, Try.results10, go_sem, z0, z1, z2, z3]) rfl ⟨⟨_, _, N, S, R, ansZero, 2, rfl, AskOut.zero hOF HW1.out, .inr ⟨HG.out, p, hp.out, .inl ⟨HBAD.out, rfl, fun _ _ => rfl, rfl, rfl⟩⟩⟩, hbF⟩
    have HOK : Hid (¬ AskBad N nm num p) := hbad
    have hn : IsName nm := Classical.byContradiction fun h => hbad (.inl h)
    have hi : In num 1 1000000 := Classical.byContradiction fun h => hbad (.inr (.inl h))
    have HN : Hid (IsName nm) := hn
    have HI : Hid (In num 1 1000000) := hi
    clear hbad
    have H1 : Hid (∀ w, Calls Try.prog 45 #[.string nm] w fun e w' => e = .returned (.bool true) ∧ w' = w) := fun w => (l1Name_is nm w (by omega)).mono fun e w' ⟨he, hw⟩ => ⟨by rw [he, decide_eq_true HN.out], hw⟩
    have H2 : Hid (∀ w, Calls Try.prog 46 #[.int .i64 num, .int .i64 1, .int .i64 1000000] w fun e w' => e = .returned (.bool true) ∧ w' = w) := fun w => (l1In_is num 1 1000000 w).mono fun e w' ⟨he, hw⟩ => ⟨by rw [he, decide_eq_true HI.out], hw⟩
    clear hn hi
    rcases hp.out with ⟨k, hk, rfl, -⟩ | ⟨rfl, -⟩
    · have dp : decide ((k : Int) < 0) = false := by simp
      obtain ⟨g, rfl, hg1, hg2⟩ := own_addr HO.out.row (by omega)
      go_upto_region 8 with (first | (go_at_call 45; refine (H1.out _).mono ?_; rintro e w' ⟨rfl, hw'⟩; have hw1 := hw'.symm; subst hw1) | (go_at_call 46; refine (H2.out _).mono ?_; rintro e w' ⟨rfl, hw'⟩; have hw1 := hw'.symm; subst hw1))
      have hb4 : Below w3.heap.size w3 (w3.alloc (.cells #[.string nm, .int .i64 num, .bool true, .int .i64 0, .int .i64 0, .int .i64 0, .slice none 0 0] 68)) := push (Below.refl _ _) _
      have bF := heap_alloc_new w3 (.cells #[.string nm, .int .i64 num, .bool true, .int .i64 0, .int .i64 0, .int .i64 0, .slice none 0 0] 68)
      replace HO : Hid (OwnClks (w3.alloc (.cells #[.string nm, .int .i64 num, .bool true, .int .i64 0, .int .i64 0, .int .i64 0, .slice none 0 0] 68)) w1.heap.size (.slice (some ⟨g, 0, none⟩) N cv) N S R) := HO.out.below hb4
      replace bZ := blk_below bZ hb4
      have bw := after bw3 hb4
      generalize w3.alloc (.cells #[.string nm, .int .i64 num, .bool true, .int .i64 0, .int .i64 0, .int .i64 0, .slice none 0 0] 68) = W4 at HO bZ bw bF ⊢
      obtain ⟨fB, hfB⟩ : ∃ u, u = w3.heap.size := ⟨_, rfl⟩
      rw [← hfB] at bF ⊢
      have HfB : Hid (fB = w3.heap.size) := hfB
      clear hfB hb4 bw3
      obtain ⟨ra, rc, eR, rl1, rl2, rl3⟩ := own_form (HO.out.rows k hk)
      have HER : Hid (R k = .slice ra (S k).rwn rc) := eR
      have HRN : Hid (ra = none → (S k).rwn = 0 ∧ rc = 0) := rl3
      clear eR rl1 rl2 rl3
      have c0 := own_cell HO.out.row (k * 7) (by omega) rfl
      rw [clkCell_0] at c0
      have c1 := own_cell HO.out.row (k * 7 + 1) (by omega) rfl
      rw [clkCell_1] at c1
      have c2 := own_cell HO.out.row (k * 7 + 2) (by omega) rfl
      rw [clkCell_2] at c2
      have c3 := own_cell HO.out.row (k * 7 + 3) (by omega) rfl
      rw [clkCell_3] at c3
      have c4 := own_cell HO.out.row (k * 7 + 4) (by omega) rfl
      rw [clkCell_4] at c4
      have c5 := own_cell HO.out.row (k * 7 + 5) (by omega) rfl
      rw [clkCell_5] at c5
      have c6 := own_cell HO.out.row (k * 7 + 6) (by omega) rfl
      rw [clkCell_6, HER.out] at c6
      have i0 : (0 : Int) ≤ (k : Int) := by omega
      have i2 : (k : Int) < (N : Int) := by omega
      go_upto_region 17 with fail
      have hb5 : Below W4.heap.size W4 (W4.alloc (.cells #[.string (S k).nam, .int .i64 (S k).num, .bool (S k).opn, .int .i64 (S k).code, .int .i64 (S k).anam, .int .i64 (S k).price, .slice ra (S k).rwn rc] 68)) := push (Below.refl _ _) _
      have bK := heap_alloc_new W4 (.cells #[.string (S k).nam, .int .i64 (S k).num, .bool (S k).opn, .int .i64 (S k).code, .int .i64 (S k).anam, .int .i64 (S k).price, .slice ra (S k).rwn rc] 68)
      replace HO : Hid (OwnClks (W4.alloc (.cells #[.string (S k).nam, .int .i64 (S k).num, .bool (S k).opn, .int .i64 (S k).code, .int .i64 (S k).anam, .int .i64 (S k).price, .slice ra (S k).rwn rc] 68)) w1.heap.size (.slice (some ⟨g, 0, none⟩) N cv) N S R) := HO.out.below hb5
      replace bZ := blk_below bZ hb5
      replace bF := blk_below bF hb5
      replace bw := after bw hb5
      generalize W4.alloc (.cells #[.string (S k).nam, .int .i64 (S k).num, .bool (S k).opn, .int .i64 (S k).code, .int .i64 (S k).anam, .int .i64 (S k).price, .slice ra (S k).rwn rc] 68) = W5 at HO bZ bw bF bK ⊢
      obtain ⟨kB, hkB⟩ : ∃ u, u = W4.heap.size := ⟨_, rfl⟩
      rw [← hkB] at bK ⊢
      have HkB : Hid (kB = W4.heap.size) := hkB
      clear hkB hb5 c0 c1 c2 c3 c4 c5 c6
      have k1 := blk_cell bK 1 _ rfl
      have k2 := blk_cell bK 2 _ rfl
      have k3 := blk_cell bK 3 _ rfl
      have k4 := blk_cell bK 4 _ rfl
      have k5 := blk_cell bK 5 _ rfl
      have k6 := blk_cell bK 6 _ rfl
      have hcn : In (S k).num 1 1000000 := (HG.out.2 k hk).2.2.1
      have hcn1 : (1 : Int) ≤ (S k).num := hcn.1
      have hcn2 : (S k).num ≤ 1000000 := hcn.2
      clear hcn
      have y0 := blk_cell bZ 0 _ rfl
      have f0 := blk_free bZ 0
      have y1 := blk_cell bZ 1 _ rfl
      have f1 := blk_free bZ 1
      have y2 := blk_cell bZ 2 _ rfl
      have f2 := blk_free bZ 2
      have y3 := blk_cell bZ 3 _ rfl
      have f3 := blk_free bZ 3
      by_cases hlate : num < (S k).num
      · have dl : decide (num < (S k).num) = true := by simpa using hlate
        have HL : Hid (num < (S k).num) := hlate
        clear hlate
        go_wp2
        have rF := ans_set bZ (.int .i64 0) (.int .i64 0) (.int .i64 0) (.slice none 0 0)
        have hkF : Kept W5 ((((W5.setCell ⟨zB, 0, none⟩ (.int .i64 0)).setCell ⟨zB, 1, none⟩ (.int .i64 0)).setCell ⟨zB, 2, none⟩ (.int .i64 0)).setCell ⟨zB, 3, none⟩ (.slice none 0 0)) (fun b => b = zB) := (((((Kept.refl W5 (fun b => b = zB)).set (a := ⟨zB, 0, none⟩) rfl _).set (a := ⟨zB, 1, none⟩) rfl _).set (a := ⟨zB, 2, none⟩) rfl _).set (a := ⟨zB, 3, none⟩) rfl _)
        have hOF := OwnClks.keep HO.out hkF (fun b hb e => by have e : b = zB := e; have := (OwnClks.blocks HO.out b hb).1; have := HzB.out; omega)
        have hbF : Below w.heap.size w ((((W5.setCell ⟨zB, 0, none⟩ (.int .i64 0)).setCell ⟨zB, 1, none⟩ (.int .i64 0)).setCell ⟨zB, 2, none⟩ (.int .i64 0)).setCell ⟨zB, 3, none⟩ (.slice none 0 0)) := Kept.below bw bw.size hkF (fun b e => by have e : b = zB := e; have := HzE.out; omega)
        generalize ((((W5.setCell ⟨zB, 0, none⟩ (.int .i64 0)).setCell ⟨zB, 1, none⟩ (.int .i64 0)).setCell ⟨zB, 2, none⟩ (.int .i64 0)).setCell ⟨zB, 3, none⟩ (.slice none 0 0)) = F at rF hkF hOF hbF ⊢
        have z0 := blk_cell rF 0 _ rfl
        have z1 := blk_cell rF 1 _ rfl
        have z2 := blk_cell rF 2 _ rfl
        have z3 := blk_cell rF 3 _ rfl
        exact bodyPost_ret (v := .tuple #[_, .agg #[.int .i64 0, .int .i64 0, .int .i64 0, .slice none 0 0], .int .i64 3]) (by simp [results, Try.results10, go_sem, z0, z1, z2, z3]) rfl ⟨⟨_, _, N, S, R, ansZero, 3, rfl, AskOut.zero hOF HW1.out, .inr ⟨HG.out, (k : Int), hp.out, .inr (.inr ⟨HOK.out, rfl, k, hk, rfl, .inl ⟨HL.out, fun _ _ => rfl, rfl, rfl⟩⟩)⟩⟩, hbF⟩
      have dl : decide (num < (S k).num) = false := by simpa using hlate
      by_cases hahead : (S k).num + 1 < num
      · have da : decide ((S k).num + 1 < num) = true := by simpa using hahead
        have HL : Hid ((S k).num + 1 < num) := hahead
        clear hahead hlate
        go_wp2
        have rF := ans_set bZ (.int .i64 0) (.int .i64 0) (.int .i64 0) (.slice none 0 0)
        have hkF : Kept W5 ((((W5.setCell ⟨zB, 0, none⟩ (.int .i64 0)).setCell ⟨zB, 1, none⟩ (.int .i64 0)).setCell ⟨zB, 2, none⟩ (.int .i64 0)).setCell ⟨zB, 3, none⟩ (.slice none 0 0)) (fun b => b = zB) := (((((Kept.refl W5 (fun b => b = zB)).set (a := ⟨zB, 0, none⟩) rfl _).set (a := ⟨zB, 1, none⟩) rfl _).set (a := ⟨zB, 2, none⟩) rfl _).set (a := ⟨zB, 3, none⟩) rfl _)
        have hOF := OwnClks.keep HO.out hkF (fun b hb e => by have e : b = zB := e; have := (OwnClks.blocks HO.out b hb).1; have := HzB.out; omega)
        have hbF : Below w.heap.size w ((((W5.setCell ⟨zB, 0, none⟩ (.int .i64 0)).setCell ⟨zB, 1, none⟩ (.int .i64 0)).setCell ⟨zB, 2, none⟩ (.int .i64 0)).setCell ⟨zB, 3, none⟩ (.slice none 0 0)) := Kept.below bw bw.size hkF (fun b e => by have e : b = zB := e; have := HzE.out; omega)
        generalize ((((W5.setCell ⟨zB, 0, none⟩ (.int .i64 0)).setCell ⟨zB, 1, none⟩ (.int .i64 0)).setCell ⟨zB, 2, none⟩ (.int .i64 0)).setCell ⟨zB, 3, none⟩ (.slice none 0 0)) = F at rF hkF hOF hbF ⊢
        have z0 := blk_cell rF 0 _ rfl
        have z1 := blk_cell rF 1 _ rfl
        have z2 := blk_cell rF 2 _ rfl
        have z3 := blk_cell rF 3 _ rfl
        exact bodyPost_ret (v := .tuple #[_, .agg #[.int .i64 0, .int .i64 0, .int .i64 0, .slice none 0 0], .int .i64 4]) (by simp [results, Try.results10, go_sem, z0, z1, z2, z3]) rfl ⟨⟨_, _, N, S, R, ansZero, 4, rfl, AskOut.zero hOF HW1.out, .inr ⟨HG.out, (k : Int), hp.out, .inr (.inr ⟨HOK.out, rfl, k, hk, rfl, .inr (.inl ⟨HL.out, fun _ _ => rfl, rfl, rfl⟩)⟩)⟩⟩, hbF⟩
      have da : decide ((S k).num + 1 < num) = false := by simpa using hahead
      have HL : Hid ((S k).num ≤ num ∧ num ≤ (S k).num + 1) := ⟨by omega, by omega⟩
      clear hlate hahead
      cases ho : (S k).opn with
      | true =>
        rw [ho] at k2
        go_wp2
        have rF := ans_set bZ (.int .i64 0) (.int .i64 0) (.int .i64 0) (.slice none 0 0)
        have hkF : Kept W5 ((((W5.setCell ⟨zB, 0, none⟩ (.int .i64 0)).setCell ⟨zB, 1, none⟩ (.int .i64 0)).setCell ⟨zB, 2, none⟩ (.int .i64 0)).setCell ⟨zB, 3, none⟩ (.slice none 0 0)) (fun b => b = zB) := (((((Kept.refl W5 (fun b => b = zB)).set (a := ⟨zB, 0, none⟩) rfl _).set (a := ⟨zB, 1, none⟩) rfl _).set (a := ⟨zB, 2, none⟩) rfl _).set (a := ⟨zB, 3, none⟩) rfl _)
        have hOF := OwnClks.keep HO.out hkF (fun b hb e => by have e : b = zB := e; have := (OwnClks.blocks HO.out b hb).1; have := HzB.out; omega)
        have hbF : Below w.heap.size w ((((W5.setCell ⟨zB, 0, none⟩ (.int .i64 0)).setCell ⟨zB, 1, none⟩ (.int .i64 0)).setCell ⟨zB, 2, none⟩ (.int .i64 0)).setCell ⟨zB, 3, none⟩ (.slice none 0 0)) := Kept.below bw bw.size hkF (fun b e => by have e : b = zB := e; have := HzE.out; omega)
        generalize ((((W5.setCell ⟨zB, 0, none⟩ (.int .i64 0)).setCell ⟨zB, 1, none⟩ (.int .i64 0)).setCell ⟨zB, 2, none⟩ (.int .i64 0)).setCell ⟨zB, 3, none⟩ (.slice none 0 0)) = F at rF hkF hOF hbF ⊢
        have z0 := blk_cell rF 0 _ rfl
        have z1 := blk_cell rF 1 _ rfl
        have z2 := blk_cell rF 2 _ rfl
        have z3 := blk_cell rF 3 _ rfl
        exact bodyPost_ret (v := .tuple #[_, .agg #[.int .i64 0, .int .i64 0, .int .i64 0, .slice none 0 0], .int .i64 5]) (by simp [results, Try.results10, go_sem, z0, z1, z2, z3]) rfl ⟨⟨_, _, N, S, R, ansZero, 5, rfl, AskOut.zero hOF HW1.out, .inr ⟨HG.out, (k : Int), hp.out, .inr (.inr ⟨HOK.out, rfl, k, hk, rfl, .inr (.inr (.inl ⟨HL.out.1, HL.out.2, ho, fun _ _ => rfl, rfl, rfl⟩))⟩)⟩⟩, hbF⟩
      | false =>
        rw [ho] at k2
        have HOP : Hid ((S k).opn = false) := ho
        clear ho
        by_cases hag : num = (S k).num
        · have dg : (num == (S k).num) = true := by simpa using hag
          have HAG : Hid (num = (S k).num) := hag
          clear hag
          go_wp2_with fail
          have hro := HO.out.rows k hk
          rw [HER.out] at hro
          refine (l10OwnAns_any (S k).code (S k).anam (S k).price ra (S k).rwn rc (S k).rw _ (HS.out k hk).2.1 HRN.out (rows_of_own hro)).mono ?_
          rintro e W6 ⟨⟨a', c', rfl, ho6⟩, hb6⟩
          have HLM : Hid (∀ i, i < N → ∀ b, (R i).ownBlock = some b → b < W5.heap.size) := fun i hi b hb => ((HO.out.rows i hi).lt b hb).2
          have HZ5 : Hid (zB < W5.heap.size ∧ w1.heap.size ≤ W5.heap.size) := ⟨blk_lt bZ, by have := (HO.out.row.lt g rfl); omega⟩
          replace HO : Hid (OwnClks W6 w1.heap.size (.slice (some ⟨g, 0, none⟩) N cv) N S R) := HO.out.below hb6
          replace bZ := blk_below bZ hb6
          replace bw := after bw hb6
          clear hb6 hro y0 y1 y2 y3 f0 f1 f2 f3
          have y0 := blk_cell bZ 0 _ rfl
          have f0 := blk_free bZ 0
          have y1 := blk_cell bZ 1 _ rfl
          have f1 := blk_free bZ 1
          have y2 := blk_cell bZ 2 _ rfl
          have f2 := blk_free bZ 2
          have y3 := blk_cell bZ 3 _ rfl
          have f3 := blk_free bZ 3
          have HO6 : Hid (W6.ownsRow W5.heap.size 84 5 (.slice a' (S k).rwn c') (S k).rwn (rowList (S k).rw (S k).rwn)) := ho6
          clear ho6
          go_wp2
          have rF := ans_set bZ (.int .i64 (S k).code) (.int .i64 (S k).anam) (.int .i64 (S k).price) (.slice a' (S k).rwn c')
          have hkF : Kept W6 ((((W6.setCell ⟨zB, 0, none⟩ (.int .i64 (S k).code)).setCell ⟨zB, 1, none⟩ (.int .i64 (S k).anam)).setCell ⟨zB, 2, none⟩ (.int .i64 (S k).price)).setCell ⟨zB, 3, none⟩ (.slice a' (S k).rwn c')) (fun b => b = zB) := (((((Kept.refl W6 (fun b => b = zB)).set (a := ⟨zB, 0, none⟩) rfl _).set (a := ⟨zB, 1, none⟩) rfl _).set (a := ⟨zB, 2, none⟩) rfl _).set (a := ⟨zB, 3, none⟩) rfl _)
          have hOF := OwnClks.keep HO.out hkF (fun b hb e => by have e : b = zB := e; have := (OwnClks.blocks HO.out b hb).1; have := HzB.out; omega)
          have hbF : Below w.heap.size w ((((W6.setCell ⟨zB, 0, none⟩ (.int .i64 (S k).code)).setCell ⟨zB, 1, none⟩ (.int .i64 (S k).anam)).setCell ⟨zB, 2, none⟩ (.int .i64 (S k).price)).setCell ⟨zB, 3, none⟩ (.slice a' (S k).rwn c')) := Kept.below bw bw.size hkF (fun b e => by have e : b = zB := e; have := HzE.out; omega)
          generalize ((((W6.setCell ⟨zB, 0, none⟩ (.int .i64 (S k).code)).setCell ⟨zB, 1, none⟩ (.int .i64 (S k).anam)).setCell ⟨zB, 2, none⟩ (.int .i64 (S k).price)).setCell ⟨zB, 3, none⟩ (.slice a' (S k).rwn c')) = F at rF hkF hOF hbF ⊢
          have z0 := blk_cell rF 0 _ rfl
          have z1 := blk_cell rF 1 _ rfl
          have z2 := blk_cell rF 2 _ rfl
          have z3 := blk_cell rF 3 _ rfl
          exact bodyPost_ret (v := .tuple #[_, .agg #[.int .i64 (S k).code, .int .i64 (S k).anam, .int .i64 (S k).price, .slice a' (S k).rwn c'], .int .i64 1]) (by simp [results, Try.results10, go_sem, z0, z1, z2, z3]) rfl ⟨⟨_, _, N, S, R, (S k).ans, 1, rfl, ⟨hOF.lower HW1.out, own_base (hkF.own HO6.out (fun b hb e => by have e : b = zB := e; have := (HO6.out.lt b hb).1; have := HZ5.out; omega)) (by have := HZ5.out; have := HW1.out; omega), fun i hi b h1 h2 => by have := HLM.out i hi b h1; have := (HO6.out.lt b h2).1; omega⟩, .inr ⟨HG.out, (k : Int), hp.out, .inr (.inr ⟨HOK.out, rfl, k, hk, rfl, .inr (.inr (.inr (.inl ⟨HAG.out, HOP.out, fun _ _ => rfl, rfl, rfl⟩)))⟩)⟩⟩, hbF⟩
        · have dg : (num == (S k).num) = false := by simpa using hag
          have HAG : Hid (num = (S k).num + 1) := by have := HL.out; show num = (S k).num + 1; omega
          clear hag
          have d0 := own_cell HO.out.row (k * 7) (by omega) rfl
          have e0 := HO.out.row.frozenAt (k * 7)
          have b0 := blk_cell bF 0 _ rfl
          have d1 := own_cell HO.out.row (k * 7 + 1) (by omega) rfl
          have e1 := HO.out.row.frozenAt (k * 7 + 1)
          have b1 := blk_cell bF 1 _ rfl
          have d2 := own_cell HO.out.row (k * 7 + 2) (by omega) rfl
          have e2 := HO.out.row.frozenAt (k * 7 + 2)
          have b2 := blk_cell bF 2 _ rfl
          have d3 := own_cell HO.out.row (k * 7 + 3) (by omega) rfl
          have e3 := HO.out.row.frozenAt (k * 7 + 3)
          have b3 := blk_cell bF 3 _ rfl
          have d4 := own_cell HO.out.row (k * 7 + 4) (by omega) rfl
          have e4 := HO.out.row.frozenAt (k * 7 + 4)
          have b4 := blk_cell bF 4 _ rfl
          have d5 := own_cell HO.out.row (k * 7 + 5) (by omega) rfl
          have e5 := HO.out.row.frozenAt (k * 7 + 5)
          have b5 := blk_cell bF 5 _ rfl
          have d6 := own_cell HO.out.row (k * 7 + 6) (by omega) rfl
          have e6 := HO.out.row.frozenAt (k * 7 + 6)
          have b6 := blk_cell bF 6 _ rfl
          go_upto_region 26 with fail
          have hP := HO.out.put7 (k := k) (freshC nm num) rfl
          have hk7 : Kept W5 (((((((W5.setCell ⟨g, k * 7, none⟩ (.string nm)).setCell ⟨g, k * 7 + 1, none⟩ (.int .i64 num)).setCell ⟨g, k * 7 + 2, none⟩ (.bool true)).setCell ⟨g, k * 7 + 3, none⟩ (.int .i64 0)).setCell ⟨g, k * 7 + 4, none⟩ (.int .i64 0)).setCell ⟨g, k * 7 + 5, none⟩ (.int .i64 0)).setCell ⟨g, k * 7 + 6, none⟩ (.slice none 0 0)) (fun x => x = g) := ((((((((Kept.refl W5 (fun x => x = g)).set (a := ⟨g, k * 7, none⟩) rfl _).set (a := ⟨g, k * 7 + 1, none⟩) rfl _).set (a := ⟨g, k * 7 + 2, none⟩) rfl _).set (a := ⟨g, k * 7 + 3, none⟩) rfl _).set (a := ⟨g, k * 7 + 4, none⟩) rfl _).set (a := ⟨g, k * 7 + 5, none⟩) rfl _).set (a := ⟨g, k * 7 + 6, none⟩) rfl _)
          have hP7 : OwnClks (((((((W5.setCell ⟨g, k * 7, none⟩ (.string nm)).setCell ⟨g, k * 7 + 1, none⟩ (.int .i64 num)).setCell ⟨g, k * 7 + 2, none⟩ (.bool true)).setCell ⟨g, k * 7 + 3, none⟩ (.int .i64 0)).setCell ⟨g, k * 7 + 4, none⟩ (.int .i64 0)).setCell ⟨g, k * 7 + 5, none⟩ (.int .i64 0)).setCell ⟨g, k * 7 + 6, none⟩ (.slice none 0 0)) w1.heap.size (.slice (some ⟨g, 0, none⟩) N cv) N (putC S k (freshC nm num)) (atV R k (.slice none 0 0)) := hP
          replace bZ := hk7.blk bZ (fun e => by have := (HO.out.row.lt g rfl).1; have := HzB.out; omega)
          replace bw := Kept.below bw bw.size hk7 (fun b e => by have e : b = g := e; have := (HO.out.row.lt g rfl).1; have := HW1.out; omega)
          clear hP
          generalize (((((((W5.setCell ⟨g, k * 7, none⟩ (.string nm)).setCell ⟨g, k * 7 + 1, none⟩ (.int .i64 num)).setCell ⟨g, k * 7 + 2, none⟩ (.bool true)).setCell ⟨g, k * 7 + 3, none⟩ (.int .i64 0)).setCell ⟨g, k * 7 + 4, none⟩ (.int .i64 0)).setCell ⟨g, k * 7 + 5, none⟩ (.int .i64 0)).setCell ⟨g, k * 7 + 6, none⟩ (.slice none 0 0)) = W6 at hk7 hP7 bZ bw ⊢
          replace HO : Hid (OwnClks W6 w1.heap.size (.slice (some ⟨g, 0, none⟩) N cv) N (putC S k (freshC nm num)) (atV R k (.slice none 0 0))) := hP7
          clear hP7 hk7 y0 y1 y2 y3 f0 f1 f2 f3 d0 d1 d2 d3 d4 d5 d6 e0 e1 e2 e3 e4 e5 e6 b0 b1 b2 b3 b4 b5 b6
          have y0 := blk_cell bZ 0 _ rfl
          have f0 := blk_free bZ 0
          have y1 := blk_cell bZ 1 _ rfl
          have f1 := blk_free bZ 1
          have y2 := blk_cell bZ 2 _ rfl
          have f2 := blk_free bZ 2
          have y3 := blk_cell bZ 3 _ rfl
          have f3 := blk_free bZ 3
          go_wp2
          have rF := ans_set bZ (.int .i64 0) (.int .i64 0) (.int .i64 0) (.slice none 0 0)
          have hkF : Kept W6 ((((W6.setCell ⟨zB, 0, none⟩ (.int .i64 0)).setCell ⟨zB, 1, none⟩ (.int .i64 0)).setCell ⟨zB, 2, none⟩ (.int .i64 0)).setCell ⟨zB, 3, none⟩ (.slice none 0 0)) (fun b => b = zB) := (((((Kept.refl W6 (fun b => b = zB)).set (a := ⟨zB, 0, none⟩) rfl _).set (a := ⟨zB, 1, none⟩) rfl _).set (a := ⟨zB, 2, none⟩) rfl _).set (a := ⟨zB, 3, none⟩) rfl _)
          have hOF := OwnClks.keep HO.out hkF (fun b hb e => by have e : b = zB := e; have := (OwnClks.blocks HO.out b hb).1; have := HzB.out; omega)
          have hbF : Below w.heap.size w ((((W6.setCell ⟨zB, 0, none⟩ (.int .i64 0)).setCell ⟨zB, 1, none⟩ (.int .i64 0)).setCell ⟨zB, 2, none⟩ (.int .i64 0)).setCell ⟨zB, 3, none⟩ (.slice none 0 0)) := Kept.below bw bw.size hkF (fun b e => by have e : b = zB := e; have := HzE.out; omega)
          generalize ((((W6.setCell ⟨zB, 0, none⟩ (.int .i64 0)).setCell ⟨zB, 1, none⟩ (.int .i64 0)).setCell ⟨zB, 2, none⟩ (.int .i64 0)).setCell ⟨zB, 3, none⟩ (.slice none 0 0)) = F at rF hkF hOF hbF ⊢
          have z0 := blk_cell rF 0 _ rfl
          have z1 := blk_cell rF 1 _ rfl
          have z2 := blk_cell rF 2 _ rfl
          have z3 := blk_cell rF 3 _ rfl
          exact bodyPost_ret (v := .tuple #[_, .agg #[.int .i64 0, .int .i64 0, .int .i64 0, .slice none 0 0], .int .i64 0]) (by simp [results, Try.results10, go_sem, z0, z1, z2, z3]) rfl ⟨⟨_, _, N, _, _, ansZero, 0, rfl, AskOut.zero hOF HW1.out, .inr ⟨HG.out, (k : Int), hp.out, .inr (.inr ⟨HOK.out, rfl, k, hk, rfl, .inr (.inr (.inr (.inr ⟨HAG.out, HOP.out, fun _ _ => rfl, rfl, rfl⟩)))⟩)⟩⟩, hbF⟩
    · have hn0 : N ≠ 20 ∧ num = 1 := by
        have h := HOK.out
        constructor
        · exact fun e => h (Or.inr (Or.inr ⟨by decide, Or.inl e⟩))
        · exact Classical.byContradiction fun e => h (Or.inr (Or.inr ⟨by decide, Or.inr e⟩))
      have d20 : ((N : Int) == 20) = false := by simp; omega
      have d1 : (num != 1) = false := by simpa using hn0.2
      clear hn0
      go_upto_region 8 with (first | (go_at_call 45; refine (H1.out _).mono ?_; rintro e w' ⟨rfl, hw'⟩; have hw1 := hw'.symm; subst hw1) | (go_at_call 46; refine (H2.out _).mono ?_; rintro e w' ⟨rfl, hw'⟩; have hw1 := hw'.symm; subst hw1))
      clear d20 d1
      have hb4 : Below w3.heap.size w3 (w3.alloc (.cells #[.string nm, .int .i64 num, .bool true, .int .i64 0, .int .i64 0, .int .i64 0, .slice none 0 0] 68)) := push (Below.refl _ _) _
      have HW4 : Hid (w1.heap.size ≤ (w3.alloc (.cells #[.string nm, .int .i64 num, .bool true, .int .i64 0, .int .i64 0, .int .i64 0, .slice none 0 0] 68)).heap.size) := Nat.le_trans HW13.out hb4.size
      have bF := heap_alloc_new w3 (.cells #[.string nm, .int .i64 num, .bool true, .int .i64 0, .int .i64 0, .int .i64 0, .slice none 0 0] 68)
      replace HO : Hid (OwnClks (w3.alloc (.cells #[.string nm, .int .i64 num, .bool true, .int .i64 0, .int .i64 0, .int .i64 0, .slice none 0 0] 68)) w1.heap.size (.slice av N cv) N S R) := HO.out.below hb4
      replace bZ := blk_below bZ hb4
      have bw := after bw3 hb4
      generalize w3.alloc (.cells #[.string nm, .int .i64 num, .bool true, .int .i64 0, .int .i64 0, .int .i64 0, .slice none 0 0] 68) = W4 at HO bZ bw bF HW4 ⊢
      obtain ⟨fB, hfB⟩ : ∃ u, u = w3.heap.size := ⟨_, rfl⟩
      rw [← hfB] at bF ⊢
      have HfB : Hid (fB = w3.heap.size) := hfB
      clear hfB hb4 bw3
      have b0 := blk_cell bF 0 _ rfl
      have b1 := blk_cell bF 1 _ rfl
      have b2 := blk_cell bF 2 _ rfl
      have b3 := blk_cell bF 3 _ rfl
      have b4 := blk_cell bF 4 _ rfl
      have b5 := blk_cell bF 5 _ rfl
      have b6 := blk_cell bF 6 _ rfl
      obtain ⟨ik0, iki, ikz0, ikz1, ikz2⟩ := info_parts Try.infoClerk
      go_wp2
      go_loopw [9] (fun i wr => wr = W4 ∧ ∃ k : Nat, k ≤ N ∧ i = .int .i64 k ∧ Hid (∀ j, j < k → textLt (S j).nam nm)) (fun i _ => N - (intOf i).toNat)
      case atStart => exact ⟨rfl, 0, Nat.zero_le _, rfl, fun j hj => absurd hj (Nat.not_lt_zero _)⟩
      case round =>
        obtain ⟨rfl, k, hk, rfl, HLT⟩ := hrel
        have HR1 : Hid (∀ i, i < N → (R i).oneCell' = true) := fun i hi => by obtain ⟨a9, c9, e9, _⟩ := own_form (HO.out.rows i hi); rw [e9]; rfl
        by_cases hkN : k < N
        · obtain ⟨g, rfl, hg1, hg2⟩ := own_addr HO.out.row (by omega)
          have c0 := own_cell HO.out.row (k * 7) (by omega) rfl
          rw [clkCell_0] at c0
          have dk : decide ((k : Int) < (N : Int)) = true := by simp; omega
          have i0 : (0 : Int) ≤ (k : Int) := by omega
          have i2 : (k : Int) < (N : Int) := by omega
          by_cases hlt : textLt (S k).nam nm
          · have dl : Op.bytesLess (S k).nam.toList nm.toList = true := hlt
            have HL : Hid (textLt (S k).nam nm) := hlt
            clear hlt
            go_wp2
            go_roundw
            case rel =>
              refine ⟨by first | rfl | trivial, k + 1, by omega, by go_num, fun j hj => ?_⟩
              rcases Nat.lt_succ_iff_lt_or_eq.1 hj with e | e
              · exact HLT.out j e
              · rw [e]; exact HL.out
            case measure => simp [intOf]; omega
          · have dl : Op.bytesLess (S k).nam.toList nm.toList = false := Bool.eq_false_iff.2 hlt
            have HINS : Hid (InsAt N S nm k) := ⟨hk, HLT.out, fun _ => hlt⟩
            clear hlt
            have hcv : N ≤ cv := by obtain ⟨_, _, e9, l1, _⟩ := own_form HO.out.row; cases e9; exact l1
            have hcm : cv ≤ 9223372036854775807 := by obtain ⟨_, _, e9, _, l2, _⟩ := own_form HO.out.row; cases e9; unfold maxLen at l2; omega
            have hne : ¬ (cv = k) := by omega
            have HCE : Hid (∀ j, j < N * 7 → ∀ W, Below wr.heap.size wr W → W.cell? ⟨g, j, none⟩ = some (clkCell S R j)) := fun j hj W hW => (hW.cell (p := ⟨g, j, none⟩) (HO.out.row.lt g rfl).2).trans (own_cell HO.out.row j hj rfl)
            have p0 : (0 : Int) ≤ (k : Int) := by omega
            have p1 : (k : Int) ≤ (cv : Int) := by omega
            have p2 : (k : Int) ≤ (N : Int) := by omega
            go_upto_region 14 with (first | (at_builtin; refine wpList_append_any _ (by rfl) (.tmp 65) (.tmp 68) 23 (by rfl) wr.heap.size 68 ik0 (.agg #[.string ⟨#[]⟩, .int .i64 0, .bool false, .int .i64 0, .int .i64 0, .int .i64 0, .slice none 0 0]) 7 80 Try.underlying23 iki ikz0 ikz1 ikz2 rfl (by decide) _ 0 [] (by rfl) (World.ownsRow_nil _ _ _ _) (some ⟨g, 0, none⟩) k cv ((List.range (k * 7)).map (clkCell S R)) (by rfl) (fun h => by cases h) (by simp) (fun ad h j u hj => by cases h; obtain ⟨h1, rfl⟩ := clkTo_get hj; rw [Addr.add_lit, Nat.zero_add]; exact HCE.out j (by omega) _ (Below.refl _ _)) (clkRow_one S R k (fun i hi => HR1.out i (by omega))) (by unfold maxLen; omega) (by omega) (Nat.le_refl _) ?_; intro v5 w5 ho5 hg5; rw [Nat.zero_add, List.nil_append] at ho5; obtain ⟨a5, c5, rfl, _⟩ := own_form ho5))
            have hb5 : Below wr.heap.size wr w5 := Kept.below (Below.refl wr.heap.size wr) (Nat.le_refl _) (kept_row hg5) (fun b e => by cases e)
            have bF5 := blk_below bF hb5
            have HO5 : Hid ((w5.alloc (.cells #[.string nm, .int .i64 num, .bool true, .int .i64 0, .int .i64 0, .int .i64 0, .slice none 0 0] 68)).ownsRow wr.heap.size 68 7 (.slice a5 k c5) k ((List.range (k * 7)).map (clkCell S R))) := own_below (push (Below.refl _ _) _) ho5
            have hb5a : Below wr.heap.size wr (w5.alloc (.cells #[.string nm, .int .i64 num, .bool true, .int .i64 0, .int .i64 0, .int .i64 0, .slice none 0 0] 68)) := push hb5 _
            clear ho5 hg5 b0 b1 b2 b3 b4 b5 b6
            have b0 := blk_cell bF5 0 _ rfl
            have b1 := blk_cell bF5 1 _ rfl
            have b2 := blk_cell bF5 2 _ rfl
            have b3 := blk_cell bF5 3 _ rfl
            have b4 := blk_cell bF5 4 _ rfl
            have b5 := blk_cell bF5 5 _ rfl
            have b6 := blk_cell bF5 6 _ rfl
            go_upto_region 15 with (first | (at_builtin; refine wpList_append_any _ (by rfl) (.tmp 70) (.tmp 72) 23 (by rfl) wr.heap.size 68 ik0 (.agg #[.string ⟨#[]⟩, .int .i64 0, .bool false, .int .i64 0, .int .i64 0, .int .i64 0, .slice none 0 0]) 7 80 Try.underlying23 iki ikz0 ikz1 ikz2 rfl (by decide) _ k ((List.range (k * 7)).map (clkCell S R)) (by rfl) HO5.out (some ⟨w5.heap.size, 0, none⟩) 1 1 [.string nm, .int .i64 num, .bool true, .int .i64 0, .int .i64 0, .int .i64 0, .slice none 0 0] (by rfl) (fun h => by cases h) (by rfl) (fun ad h => by cases h; exact World.news_of_block (heap_alloc_new w5 _)) (by intro u hu; simp only [List.mem_cons, List.not_mem_nil, or_false] at hu; rcases hu with rfl | rfl | rfl | rfl | rfl | rfl | rfl <;> rfl) (by unfold maxLen; omega) (by omega) (by have := hb5a.size; omega) ?_; intro v6 w6 ho6 hg6; obtain ⟨a6, c6, rfl, _⟩ := own_form ho6))
            have HB6 : Hid (Below wr.heap.size wr w6) := Kept.below hb5a hb5a.size (kept_row hg6) (fun b e => (HO5.out.lt b e).1)
            have HO6 : Hid (w6.ownsRow wr.heap.size 68 7 (.slice a6 (k + 1) c6) (k + 1) (((List.range (k * 7)).map (clkCell S R)) ++ [.string nm, .int .i64 num, .bool true, .int .i64 0, .int .i64 0, .int .i64 0, .slice none 0 0])) := ho6
            clear ho6 hg6 b0 b1 b2 b3 b4 b5 b6 bF5 hb5 hb5a HO5
            go_wp2_with (first | (at_builtin; refine wpList_append_any _ (by rfl) (.tmp 74) (.tmp 77) 23 (by rfl) wr.heap.size 68 ik0 (.agg #[.string ⟨#[]⟩, .int .i64 0, .bool false, .int .i64 0, .int .i64 0, .int .i64 0, .slice none 0 0]) 7 80 Try.underlying23 iki ikz0 ikz1 ikz2 rfl (by decide) _ (k + 1) (((List.range (k * 7)).map (clkCell S R)) ++ [.string nm, .int .i64 num, .bool true, .int .i64 0, .int .i64 0, .int .i64 0, .slice none 0 0]) (by rfl) HO6.out (some ⟨g, k * 7, none⟩) (N - k) (cv - k) (clkFrom S R k N) (by rfl) (fun h => by cases h) (clkFrom_length _ _ _ _) (fun ad h j u hj => by cases h; obtain ⟨h1, rfl⟩ := clkFrom_get hj; rw [Addr.add_lit]; exact HCE.out _ (by omega) _ HB6.out) (clkFrom_one _ _ _ _ HR1.out) (by unfold maxLen; omega) (by omega) (HB6.out.size) ?_; intro W6 w7 ho7 hg7; rw [show k + 1 + (N - k) = N + 1 by omega] at ho7; obtain ⟨a7, c7, rfl, _⟩ := own_form ho7; have HB7 : Hid (Below wr.heap.size wr w7) := Kept.below HB6.out HB6.out.size (kept_row hg7) (fun b e => (HO6.out.lt b e).1); have bZ7 := blk_below bZ HB7.out; have y0 := blk_cell bZ7 0 _ rfl; have y1 := blk_cell bZ7 1 _ rfl; have y2 := blk_cell bZ7 2 _ rfl; have y3 := blk_cell bZ7 3 _ rfl; have f0 := blk_free bZ7 0; have f1 := blk_free bZ7 1; have f2 := blk_free bZ7 2; have f3 := blk_free bZ7 3))
            have HO7 : Hid (OwnClks w7 w1.heap.size (.slice a7 (N + 1) c7) (N + 1) (insC S k (freshC nm num)) (insC R k (.slice none 0 0))) := HO.out.insNew (x := freshC nm num) (by omega) rfl HB7.out (own_base ho7 HW4.out)
            replace HO := HO7
            replace bZ := bZ7
            replace bw := after bw HB7.out
            clear ho7 hg7 HO6 HB6 HO7 HB7 y0 y1 y2 y3 f0 f1 f2 f3
            have rF := ans_set bZ (.int .i64 0) (.int .i64 0) (.int .i64 0) (.slice none 0 0)
            have hkF : Kept w7 ((((w7.setCell ⟨zB, 0, none⟩ (.int .i64 0)).setCell ⟨zB, 1, none⟩ (.int .i64 0)).setCell ⟨zB, 2, none⟩ (.int .i64 0)).setCell ⟨zB, 3, none⟩ (.slice none 0 0)) (fun b => b = zB) := (((((Kept.refl w7 (fun b => b = zB)).set (a := ⟨zB, 0, none⟩) rfl _).set (a := ⟨zB, 1, none⟩) rfl _).set (a := ⟨zB, 2, none⟩) rfl _).set (a := ⟨zB, 3, none⟩) rfl _)
            have hOF := OwnClks.keep HO.out hkF (fun b hb e => by have e : b = zB := e; have := (OwnClks.blocks HO.out b hb).1; have := HzB.out; omega)
            have hbF : Below w.heap.size w ((((w7.setCell ⟨zB, 0, none⟩ (.int .i64 0)).setCell ⟨zB, 1, none⟩ (.int .i64 0)).setCell ⟨zB, 2, none⟩ (.int .i64 0)).setCell ⟨zB, 3, none⟩ (.slice none 0 0)) := Kept.below bw bw.size hkF (fun b e => by have e : b = zB := e; have := HzE.out; omega)
            generalize ((((w7.setCell ⟨zB, 0, none⟩ (.int .i64 0)).setCell ⟨zB, 1, none⟩ (.int .i64 0)).setCell ⟨zB, 2, none⟩ (.int .i64 0)).setCell ⟨zB, 3, none⟩ (.slice none 0 0)) = F at rF hkF hOF hbF ⊢
            have z0 := blk_cell rF 0 _ rfl
            have z1 := blk_cell rF 1 _ rfl
            have z2 := blk_cell rF 2 _ rfl
            have z3 := blk_cell rF 3 _ rfl
            exact bodyPost_ret (v := .tuple #[_, .agg #[.int .i64 0, .int .i64 0, .int .i64 0, .slice none 0 0], .int .i64 0]) (by simp [results, Try.results10, go_sem, z0, z1, z2, z3]) rfl ⟨⟨_, _, (N + 1), _, _, ansZero, 0, rfl, AskOut.zero hOF HW1.out, .inr ⟨HG.out, (-1 : Int), hp.out, .inr (.inl ⟨HOK.out, by decide, rfl, ⟨k, HINS.out, fun _ _ => rfl⟩, rfl, rfl⟩)⟩⟩, hbF⟩
        · have dk : decide ((k : Int) < (N : Int)) = false := by simp; omega
          have HINS : Hid (InsAt N S nm k) := ⟨hk, HLT.out, fun h => absurd h hkN⟩
          obtain ⟨hcv, hcm, hnil⟩ : N ≤ cv ∧ cv ≤ 9223372036854775807 ∧ (av = none → N = 0 ∧ cv = 0) := by obtain ⟨_, _, e9, l1, l2, l3⟩ := own_form HO.out.row; cases e9; unfold maxLen at l2; exact ⟨l1, by omega, l3⟩
          obtain rfl : k = N := by omega
          clear hkN hk
          cases av with
          | none =>
            obtain ⟨h0, h1⟩ := hnil rfl
            obtain rfl : k = cv := by omega
            have HK0 : Hid (k = 0 ∧ k = 0) := ⟨h0, h0⟩
            clear h0 h1 hnil hcv
            have p0 : (0 : Int) ≤ (k : Int) := by omega
            have p1 : (k : Int) ≤ (k : Int) := by omega
            have p2 : (k : Int) ≤ (k : Int) := by omega
            go_upto_region 14 with (first | (at_builtin; refine wpList_append_any _ (by rfl) (.tmp 65) (.tmp 68) 23 (by rfl) wr.heap.size 68 ik0 (.agg #[.string ⟨#[]⟩, .int .i64 0, .bool false, .int .i64 0, .int .i64 0, .int .i64 0, .slice none 0 0]) 7 80 Try.underlying23 iki ikz0 ikz1 ikz2 rfl (by decide) _ 0 [] (by rfl) (World.ownsRow_nil _ _ _ _) none k k ((List.range (k * 7)).map (clkCell S R)) (by rfl) (fun _ => HK0.out) (by simp) (fun ad h => by cases h) (clkRow_one S R k (fun i hi => HR1.out i (by omega))) (by unfold maxLen; omega) (by omega) (Nat.le_refl _) ?_; intro v5 w5 ho5 hg5; rw [Nat.zero_add, List.nil_append] at ho5; obtain ⟨a5, c5, rfl, _⟩ := own_form ho5))
            have hb5 : Below wr.heap.size wr w5 := Kept.below (Below.refl wr.heap.size wr) (Nat.le_refl _) (kept_row hg5) (fun b e => by cases e)
            have bF5 := blk_below bF hb5
            have HO5 : Hid ((w5.alloc (.cells #[.string nm, .int .i64 num, .bool true, .int .i64 0, .int .i64 0, .int .i64 0, .slice none 0 0] 68)).ownsRow wr.heap.size 68 7 (.slice a5 k c5) k ((List.range (k * 7)).map (clkCell S R))) := own_below (push (Below.refl _ _) _) ho5
            have hb5a : Below wr.heap.size wr (w5.alloc (.cells #[.string nm, .int .i64 num, .bool true, .int .i64 0, .int .i64 0, .int .i64 0, .slice none 0 0] 68)) := push hb5 _
            clear ho5 hg5 b0 b1 b2 b3 b4 b5 b6
            have b0 := blk_cell bF5 0 _ rfl
            have b1 := blk_cell bF5 1 _ rfl
            have b2 := blk_cell bF5 2 _ rfl
            have b3 := blk_cell bF5 3 _ rfl
            have b4 := blk_cell bF5 4 _ rfl
            have b5 := blk_cell bF5 5 _ rfl
            have b6 := blk_cell bF5 6 _ rfl
            go_upto_region 15 with (first | (at_builtin; refine wpList_append_any _ (by rfl) (.tmp 70) (.tmp 72) 23 (by rfl) wr.heap.size 68 ik0 (.agg #[.string ⟨#[]⟩, .int .i64 0, .bool false, .int .i64 0, .int .i64 0, .int .i64 0, .slice none 0 0]) 7 80 Try.underlying23 iki ikz0 ikz1 ikz2 rfl (by decide) _ k ((List.range (k * 7)).map (clkCell S R)) (by rfl) HO5.out (some ⟨w5.heap.size, 0, none⟩) 1 1 [.string nm, .int .i64 num, .bool true, .int .i64 0, .int .i64 0, .int .i64 0, .slice none 0 0] (by rfl) (fun h => by cases h) (by rfl) (fun ad h => by cases h; exact World.news_of_block (heap_alloc_new w5 _)) (by intro u hu; simp only [List.mem_cons, List.not_mem_nil, or_false] at hu; rcases hu with rfl | rfl | rfl | rfl | rfl | rfl | rfl <;> rfl) (by unfold maxLen; omega) (by omega) (by have := hb5a.size; omega) ?_; intro v6 w6 ho6 hg6; obtain ⟨a6, c6, rfl, _⟩ := own_form ho6))
            have HB6 : Hid (Below wr.heap.size wr w6) := Kept.below hb5a hb5a.size (kept_row hg6) (fun b e => (HO5.out.lt b e).1)
            have HO6 : Hid (w6.ownsRow wr.heap.size 68 7 (.slice a6 (k + 1) c6) (k + 1) (((List.range (k * 7)).map (clkCell S R)) ++ [.string nm, .int .i64 num, .bool true, .int .i64 0, .int .i64 0, .int .i64 0, .slice none 0 0])) := ho6
            clear ho6 hg6 b0 b1 b2 b3 b4 b5 b6 bF5 hb5 hb5a HO5
            go_wp2_with (first | (at_builtin; refine wpList_append_any _ (by rfl) (.tmp 74) (.tmp 77) 23 (by rfl) wr.heap.size 68 ik0 (.agg #[.string ⟨#[]⟩, .int .i64 0, .bool false, .int .i64 0, .int .i64 0, .int .i64 0, .slice none 0 0]) 7 80 Try.underlying23 iki ikz0 ikz1 ikz2 rfl (by decide) _ (k + 1) (((List.range (k * 7)).map (clkCell S R)) ++ [.string nm, .int .i64 num, .bool true, .int .i64 0, .int .i64 0, .int .i64 0, .slice none 0 0]) (by rfl) HO6.out none 0 0 [] (by rfl) (fun _ => ⟨rfl, rfl⟩) rfl (fun ad h j u hj => by cases hj) (fun u hu => by cases hu) (by unfold maxLen; omega) (by omega) (HB6.out.size) ?_; intro W6 w7 ho7 hg7; rw [Nat.add_zero] at ho7; obtain ⟨a7, c7, rfl, _⟩ := own_form ho7; have HB7 : Hid (Below wr.heap.size wr w7) := Kept.below HB6.out HB6.out.size (kept_row hg7) (fun b e => (HO6.out.lt b e).1); have bZ7 := blk_below bZ HB7.out; have y0 := blk_cell bZ7 0 _ rfl; have y1 := blk_cell bZ7 1 _ rfl; have y2 := blk_cell bZ7 2 _ rfl; have y3 := blk_cell bZ7 3 _ rfl; have f0 := blk_free bZ7 0; have f1 := blk_free bZ7 1; have f2 := blk_free bZ7 2; have f3 := blk_free bZ7 3))
            have HO7 : Hid (OwnClks w7 w1.heap.size (.slice a7 (k + 1) c7) (k + 1) (insC S k (freshC nm num)) (insC R k (.slice none 0 0))) := HO.out.insNew (x := freshC nm num) (by omega) rfl HB7.out (own_base (by rw [clkFrom_none]; exact ho7) HW4.out)
            replace HO := HO7
            replace bZ := bZ7
            replace bw := after bw HB7.out
            clear ho7 hg7 HO6 HB6 HO7 HB7 y0 y1 y2 y3 f0 f1 f2 f3
            have rF := ans_set bZ (.int .i64 0) (.int .i64 0) (.int .i64 0) (.slice none 0 0)
            have hkF : Kept w7 ((((w7.setCell ⟨zB, 0, none⟩ (.int .i64 0)).setCell ⟨zB, 1, none⟩ (.int .i64 0)).setCell ⟨zB, 2, none⟩ (.int .i64 0)).setCell ⟨zB, 3, none⟩ (.slice none 0 0)) (fun b => b = zB) := (((((Kept.refl w7 (fun b => b = zB)).set (a := ⟨zB, 0, none⟩) rfl _).set (a := ⟨zB, 1, none⟩) rfl _).set (a := ⟨zB, 2, none⟩) rfl _).set (a := ⟨zB, 3, none⟩) rfl _)
            have hOF := OwnClks.keep HO.out hkF (fun b hb e => by have e : b = zB := e; have := (OwnClks.blocks HO.out b hb).1; have := HzB.out; omega)
            have hbF : Below w.heap.size w ((((w7.setCell ⟨zB, 0, none⟩ (.int .i64 0)).setCell ⟨zB, 1, none⟩ (.int .i64 0)).setCell ⟨zB, 2, none⟩ (.int .i64 0)).setCell ⟨zB, 3, none⟩ (.slice none 0 0)) := Kept.below bw bw.size hkF (fun b e => by have e : b = zB := e; have := HzE.out; omega)
            generalize ((((w7.setCell ⟨zB, 0, none⟩ (.int .i64 0)).setCell ⟨zB, 1, none⟩ (.int .i64 0)).setCell ⟨zB, 2, none⟩ (.int .i64 0)).setCell ⟨zB, 3, none⟩ (.slice none 0 0)) = F at rF hkF hOF hbF ⊢
            have z0 := blk_cell rF 0 _ rfl
            have z1 := blk_cell rF 1 _ rfl
            have z2 := blk_cell rF 2 _ rfl
            have z3 := blk_cell rF 3 _ rfl
            exact bodyPost_ret (v := .tuple #[_, .agg #[.int .i64 0, .int .i64 0, .int .i64 0, .slice none 0 0], .int .i64 0]) (by simp [results, Try.results10, go_sem, z0, z1, z2, z3]) rfl ⟨⟨_, _, (k + 1), _, _, ansZero, 0, rfl, AskOut.zero hOF HW1.out, .inr ⟨HG.out, (-1 : Int), hp.out, .inr (.inl ⟨HOK.out, by decide, rfl, ⟨k, HINS.out, fun _ _ => rfl⟩, rfl, rfl⟩)⟩⟩, hbF⟩
          | some ad =>
            clear hnil
            obtain ⟨g, rfl, hg1, hg2⟩ := own_some HO.out.row
            by_cases hck : k = cv
            · subst hck
              have HCE : Hid (∀ j, j < k * 7 → ∀ W, Below wr.heap.size wr W → W.cell? ⟨g, j, none⟩ = some (clkCell S R j)) := fun j hj W hW => (hW.cell (p := ⟨g, j, none⟩) (HO.out.row.lt g rfl).2).trans (own_cell HO.out.row j hj rfl)
              have p0 : (0 : Int) ≤ (k : Int) := by omega
              have p1 : (k : Int) ≤ (k : Int) := by omega
              have p2 : (k : Int) ≤ (k : Int) := by omega
              go_upto_region 14 with (first | (at_builtin; refine wpList_append_any _ (by rfl) (.tmp 65) (.tmp 68) 23 (by rfl) wr.heap.size 68 ik0 (.agg #[.string ⟨#[]⟩, .int .i64 0, .bool false, .int .i64 0, .int .i64 0, .int .i64 0, .slice none 0 0]) 7 80 Try.underlying23 iki ikz0 ikz1 ikz2 rfl (by decide) _ 0 [] (by rfl) (World.ownsRow_nil _ _ _ _) (some ⟨g, 0, none⟩) k k ((List.range (k * 7)).map (clkCell S R)) (by rfl) (fun h => by cases h) (by simp) (fun ad h j u hj => by cases h; obtain ⟨h1, rfl⟩ := clkTo_get hj; rw [Addr.add_lit, Nat.zero_add]; exact HCE.out j (by omega) _ (Below.refl _ _)) (clkRow_one S R k (fun i hi => HR1.out i (by omega))) (by unfold maxLen; omega) (by omega) (Nat.le_refl _) ?_; intro v5 w5 ho5 hg5; rw [Nat.zero_add, List.nil_append] at ho5; obtain ⟨a5, c5, rfl, _⟩ := own_form ho5))
              have hb5 : Below wr.heap.size wr w5 := Kept.below (Below.refl wr.heap.size wr) (Nat.le_refl _) (kept_row hg5) (fun b e => by cases e)
              have bF5 := blk_below bF hb5
              have HO5 : Hid ((w5.alloc (.cells #[.string nm, .int .i64 num, .bool true, .int .i64 0, .int .i64 0, .int .i64 0, .slice none 0 0] 68)).ownsRow wr.heap.size 68 7 (.slice a5 k c5) k ((List.range (k * 7)).map (clkCell S R))) := own_below (push (Below.refl _ _) _) ho5
              have hb5a : Below wr.heap.size wr (w5.alloc (.cells #[.string nm, .int .i64 num, .bool true, .int .i64 0, .int .i64 0, .int .i64 0, .slice none 0 0] 68)) := push hb5 _
              clear ho5 hg5 b0 b1 b2 b3 b4 b5 b6
              have b0 := blk_cell bF5 0 _ rfl
              have b1 := blk_cell bF5 1 _ rfl
              have b2 := blk_cell bF5 2 _ rfl
              have b3 := blk_cell bF5 3 _ rfl
              have b4 := blk_cell bF5 4 _ rfl
              have b5 := blk_cell bF5 5 _ rfl
              have b6 := blk_cell bF5 6 _ rfl
              go_upto_region 15 with (first | (at_builtin; refine wpList_append_any _ (by rfl) (.tmp 70) (.tmp 72) 23 (by rfl) wr.heap.size 68 ik0 (.agg #[.string ⟨#[]⟩, .int .i64 0, .bool false, .int .i64 0, .int .i64 0, .int .i64 0, .slice none 0 0]) 7 80 Try.underlying23 iki ikz0 ikz1 ikz2 rfl (by decide) _ k ((List.range (k * 7)).map (clkCell S R)) (by rfl) HO5.out (some ⟨w5.heap.size, 0, none⟩) 1 1 [.string nm, .int .i64 num, .bool true, .int .i64 0, .int .i64 0, .int .i64 0, .slice none 0 0] (by rfl) (fun h => by cases h) (by rfl) (fun ad h => by cases h; exact World.news_of_block (heap_alloc_new w5 _)) (by intro u hu; simp only [List.mem_cons, List.not_mem_nil, or_false] at hu; rcases hu with rfl | rfl | rfl | rfl | rfl | rfl | rfl <;> rfl) (by unfold maxLen; omega) (by omega) (by have := hb5a.size; omega) ?_; intro v6 w6 ho6 hg6; obtain ⟨a6, c6, rfl, _⟩ := own_form ho6))
              have HB6 : Hid (Below wr.heap.size wr w6) := Kept.below hb5a hb5a.size (kept_row hg6) (fun b e => (HO5.out.lt b e).1)
              have HO6 : Hid (w6.ownsRow wr.heap.size 68 7 (.slice a6 (k + 1) c6) (k + 1) (((List.range (k * 7)).map (clkCell S R)) ++ [.string nm, .int .i64 num, .bool true, .int .i64 0, .int .i64 0, .int .i64 0, .slice none 0 0])) := ho6
              clear ho6 hg6 b0 b1 b2 b3 b4 b5 b6 bF5 hb5 hb5a HO5
              go_wp2_with (first | (at_builtin; refine wpList_append_any _ (by rfl) (.tmp 74) (.tmp 77) 23 (by rfl) wr.heap.size 68 ik0 (.agg #[.string ⟨#[]⟩, .int .i64 0, .bool false, .int .i64 0, .int .i64 0, .int .i64 0, .slice none 0 0]) 7 80 Try.underlying23 iki ikz0 ikz1 ikz2 rfl (by decide) _ (k + 1) (((List.range (k * 7)).map (clkCell S R)) ++ [.string nm, .int .i64 num, .bool true, .int .i64 0, .int .i64 0, .int .i64 0, .slice none 0 0]) (by rfl) HO6.out (some ⟨g, 0, none⟩) 0 0 [] (by rfl) (fun h => by cases h) rfl (fun ad h j u hj => by cases hj) (fun u hu => by cases hu) (by unfold maxLen; omega) (by omega) (HB6.out.size) ?_; intro W6 w7 ho7 hg7; rw [Nat.add_zero] at ho7; obtain ⟨a7, c7, rfl, _⟩ := own_form ho7; have HB7 : Hid (Below wr.heap.size wr w7) := Kept.below HB6.out HB6.out.size (kept_row hg7) (fun b e => (HO6.out.lt b e).1); have bZ7 := blk_below bZ HB7.out; have y0 := blk_cell bZ7 0 _ rfl; have y1 := blk_cell bZ7 1 _ rfl; have y2 := blk_cell bZ7 2 _ rfl; have y3 := blk_cell bZ7 3 _ rfl; have f0 := blk_free bZ7 0; have f1 := blk_free bZ7 1; have f2 := blk_free bZ7 2; have f3 := blk_free bZ7 3))
              have HO7 : Hid (OwnClks w7 w1.heap.size (.slice a7 (k + 1) c7) (k + 1) (insC S k (freshC nm num)) (insC R k (.slice none 0 0))) := HO.out.insNew (x := freshC nm num) (by omega) rfl HB7.out (own_base (by rw [clkFrom_none]; exact ho7) HW4.out)
              replace HO := HO7
              replace bZ := bZ7
              replace bw := after bw HB7.out
              clear ho7 hg7 HO6 HB6 HO7 HB7 y0 y1 y2 y3 f0 f1 f2 f3
              have rF := ans_set bZ (.int .i64 0) (.int .i64 0) (.int .i64 0) (.slice none 0 0)
              have hkF : Kept w7 ((((w7.setCell ⟨zB, 0, none⟩ (.int .i64 0)).setCell ⟨zB, 1, none⟩ (.int .i64 0)).setCell ⟨zB, 2, none⟩ (.int .i64 0)).setCell ⟨zB, 3, none⟩ (.slice none 0 0)) (fun b => b = zB) := (((((Kept.refl w7 (fun b => b = zB)).set (a := ⟨zB, 0, none⟩) rfl _).set (a := ⟨zB, 1, none⟩) rfl _).set (a := ⟨zB, 2, none⟩) rfl _).set (a := ⟨zB, 3, none⟩) rfl _)
              have hOF := OwnClks.keep HO.out hkF (fun b hb e => by have e : b = zB := e; have := (OwnClks.blocks HO.out b hb).1; have := HzB.out; omega)
              have hbF : Below w.heap.size w ((((w7.setCell ⟨zB, 0, none⟩ (.int .i64 0)).setCell ⟨zB, 1, none⟩ (.int .i64 0)).setCell ⟨zB, 2, none⟩ (.int .i64 0)).setCell ⟨zB, 3, none⟩ (.slice none 0 0)) := Kept.below bw bw.size hkF (fun b e => by have e : b = zB := e; have := HzE.out; omega)
              generalize ((((w7.setCell ⟨zB, 0, none⟩ (.int .i64 0)).setCell ⟨zB, 1, none⟩ (.int .i64 0)).setCell ⟨zB, 2, none⟩ (.int .i64 0)).setCell ⟨zB, 3, none⟩ (.slice none 0 0)) = F at rF hkF hOF hbF ⊢
              have z0 := blk_cell rF 0 _ rfl
              have z1 := blk_cell rF 1 _ rfl
              have z2 := blk_cell rF 2 _ rfl
              have z3 := blk_cell rF 3 _ rfl
              exact bodyPost_ret (v := .tuple #[_, .agg #[.int .i64 0, .int .i64 0, .int .i64 0, .slice none 0 0], .int .i64 0]) (by simp [results, Try.results10, go_sem, z0, z1, z2, z3]) rfl ⟨⟨_, _, (k + 1), _, _, ansZero, 0, rfl, AskOut.zero hOF HW1.out, .inr ⟨HG.out, (-1 : Int), hp.out, .inr (.inl ⟨HOK.out, by decide, rfl, ⟨k, HINS.out, fun _ _ => rfl⟩, rfl, rfl⟩)⟩⟩, hbF⟩
            · have hne : ¬ (cv = k) := fun e => hck e.symm
              clear hck
              have HCE : Hid (∀ j, j < k * 7 → ∀ W, Below wr.heap.size wr W → W.cell? ⟨g, j, none⟩ = some (clkCell S R j)) := fun j hj W hW => (hW.cell (p := ⟨g, j, none⟩) (HO.out.row.lt g rfl).2).trans (own_cell HO.out.row j hj rfl)
              have p0 : (0 : Int) ≤ (k : Int) := by omega
              have p1 : (k : Int) ≤ (cv : Int) := by omega
              have p2 : (k : Int) ≤ (k : Int) := by omega
              go_upto_region 14 with (first | (at_builtin; refine wpList_append_any _ (by rfl) (.tmp 65) (.tmp 68) 23 (by rfl) wr.heap.size 68 ik0 (.agg #[.string ⟨#[]⟩, .int .i64 0, .bool false, .int .i64 0, .int .i64 0, .int .i64 0, .slice none 0 0]) 7 80 Try.underlying23 iki ikz0 ikz1 ikz2 rfl (by decide) _ 0 [] (by rfl) (World.ownsRow_nil _ _ _ _) (some ⟨g, 0, none⟩) k cv ((List.range (k * 7)).map (clkCell S R)) (by rfl) (fun h => by cases h) (by simp) (fun ad h j u hj => by cases h; obtain ⟨h1, rfl⟩ := clkTo_get hj; rw [Addr.add_lit, Nat.zero_add]; exact HCE.out j (by omega) _ (Below.refl _ _)) (clkRow_one S R k (fun i hi => HR1.out i (by omega))) (by unfold maxLen; omega) (by omega) (Nat.le_refl _) ?_; intro v5 w5 ho5 hg5; rw [Nat.zero_add, List.nil_append] at ho5; obtain ⟨a5, c5, rfl, _⟩ := own_form ho5))
              have hb5 : Below wr.heap.size wr w5 := Kept.below (Below.refl wr.heap.size wr) (Nat.le_refl _) (kept_row hg5) (fun b e => by cases e)
              have bF5 := blk_below bF hb5
              have HO5 : Hid ((w5.alloc (.cells #[.string nm, .int .i64 num, .bool true, .int .i64 0, .int .i64 0, .int .i64 0, .slice none 0 0] 68)).ownsRow wr.heap.size 68 7 (.slice a5 k c5) k ((List.range (k * 7)).map (clkCell S R))) := own_below (push (Below.refl _ _) _) ho5
              have hb5a : Below wr.heap.size wr (w5.alloc (.cells #[.string nm, .int .i64 num, .bool true, .int .i64 0, .int .i64 0, .int .i64 0, .slice none 0 0] 68)) := push hb5 _
              clear ho5 hg5 b0 b1 b2 b3 b4 b5 b6
              have b0 := blk_cell bF5 0 _ rfl
              have b1 := blk_cell bF5 1 _ rfl
              have b2 := blk_cell bF5 2 _ rfl
              have b3 := blk_cell bF5 3 _ rfl
              have b4 := blk_cell bF5 4 _ rfl
              have b5 := blk_cell bF5 5 _ rfl
              have b6 := blk_cell bF5 6 _ rfl
              go_upto_region 15 with (first | (at_builtin; refine wpList_append_any _ (by rfl) (.tmp 70) (.tmp 72) 23 (by rfl) wr.heap.size 68 ik0 (.agg #[.string ⟨#[]⟩, .int .i64 0, .bool false, .int .i64 0, .int .i64 0, .int .i64 0, .slice none 0 0]) 7 80 Try.underlying23 iki ikz0 ikz1 ikz2 rfl (by decide) _ k ((List.range (k * 7)).map (clkCell S R)) (by rfl) HO5.out (some ⟨w5.heap.size, 0, none⟩) 1 1 [.string nm, .int .i64 num, .bool true, .int .i64 0, .int .i64 0, .int .i64 0, .slice none 0 0] (by rfl) (fun h => by cases h) (by rfl) (fun ad h => by cases h; exact World.news_of_block (heap_alloc_new w5 _)) (by intro u hu; simp only [List.mem_cons, List.not_mem_nil, or_false] at hu; rcases hu with rfl | rfl | rfl | rfl | rfl | rfl | rfl <;> rfl) (by unfold maxLen; omega) (by omega) (by have := hb5a.size; omega) ?_; intro v6 w6 ho6 hg6; obtain ⟨a6, c6, rfl, _⟩ := own_form ho6))
              have HB6 : Hid (Below wr.heap.size wr w6) := Kept.below hb5a hb5a.size (kept_row hg6) (fun b e => (HO5.out.lt b e).1)
              have HO6 : Hid (w6.ownsRow wr.heap.size 68 7 (.slice a6 (k + 1) c6) (k + 1) (((List.range (k * 7)).map (clkCell S R)) ++ [.string nm, .int .i64 num, .bool true, .int .i64 0, .int .i64 0, .int .i64 0, .slice none 0 0])) := ho6
              clear ho6 hg6 b0 b1 b2 b3 b4 b5 b6 bF5 hb5 hb5a HO5
              go_wp2_with (first | (at_builtin; refine wpList_append_any _ (by rfl) (.tmp 74) (.tmp 77) 23 (by rfl) wr.heap.size 68 ik0 (.agg #[.string ⟨#[]⟩, .int .i64 0, .bool false, .int .i64 0, .int .i64 0, .int .i64 0, .slice none 0 0]) 7 80 Try.underlying23 iki ikz0 ikz1 ikz2 rfl (by decide) _ (k + 1) (((List.range (k * 7)).map (clkCell S R)) ++ [.string nm, .int .i64 num, .bool true, .int .i64 0, .int .i64 0, .int .i64 0, .slice none 0 0]) (by rfl) HO6.out (some ⟨g, k * 7, none⟩) 0 (cv - k) [] (by rfl) (fun h => by cases h) rfl (fun ad h j u hj => by cases hj) (fun u hu => by cases hu) (by unfold maxLen; omega) (by omega) (HB6.out.size) ?_; intro W6 w7 ho7 hg7; rw [Nat.add_zero] at ho7; obtain ⟨a7, c7, rfl, _⟩ := own_form ho7; have HB7 : Hid (Below wr.heap.size wr w7) := Kept.below HB6.out HB6.out.size (kept_row hg7) (fun b e => (HO6.out.lt b e).1); have bZ7 := blk_below bZ HB7.out; have y0 := blk_cell bZ7 0 _ rfl; have y1 := blk_cell bZ7 1 _ rfl; have y2 := blk_cell bZ7 2 _ rfl; have y3 := blk_cell bZ7 3 _ rfl; have f0 := blk_free bZ7 0; have f1 := blk_free bZ7 1; have f2 := blk_free bZ7 2; have f3 := blk_free bZ7 3))
              have HO7 : Hid (OwnClks w7 w1.heap.size (.slice a7 (k + 1) c7) (k + 1) (insC S k (freshC nm num)) (insC R k (.slice none 0 0))) := HO.out.insNew (x := freshC nm num) (by omega) rfl HB7.out (own_base (by rw [clkFrom_none]; exact ho7) HW4.out)
              replace HO := HO7
              replace bZ := bZ7
              replace bw := after bw HB7.out
              clear ho7 hg7 HO6 HB6 HO7 HB7 y0 y1 y2 y3 f0 f1 f2 f3
              have rF := ans_set bZ (.int .i64 0) (.int .i64 0) (.int .i64 0) (.slice none 0 0)
              have hkF : Kept w7 ((((w7.setCell ⟨zB, 0, none⟩ (.int .i64 0)).setCell ⟨zB, 1, none⟩ (.int .i64 0)).setCell ⟨zB, 2, none⟩ (.int .i64 0)).setCell ⟨zB, 3, none⟩ (.slice none 0 0)) (fun b => b = zB) := (((((Kept.refl w7 (fun b => b = zB)).set (a := ⟨zB, 0, none⟩) rfl _).set (a := ⟨zB, 1, none⟩) rfl _).set (a := ⟨zB, 2, none⟩) rfl _).set (a := ⟨zB, 3, none⟩) rfl _)
              have hOF := OwnClks.keep HO.out hkF (fun b hb e => by have e : b = zB := e; have := (OwnClks.blocks HO.out b hb).1; have := HzB.out; omega)
              have hbF : Below w.heap.size w ((((w7.setCell ⟨zB, 0, none⟩ (.int .i64 0)).setCell ⟨zB, 1, none⟩ (.int .i64 0)).setCell ⟨zB, 2, none⟩ (.int .i64 0)).setCell ⟨zB, 3, none⟩ (.slice none 0 0)) := Kept.below bw bw.size hkF (fun b e => by have e : b = zB := e; have := HzE.out; omega)
              generalize ((((w7.setCell ⟨zB, 0, none⟩ (.int .i64 0)).setCell ⟨zB, 1, none⟩ (.int .i64 0)).setCell ⟨zB, 2, none⟩ (.int .i64 0)).setCell ⟨zB, 3, none⟩ (.slice none 0 0)) = F at rF hkF hOF hbF ⊢
              have z0 := blk_cell rF 0 _ rfl
              have z1 := blk_cell rF 1 _ rfl
              have z2 := blk_cell rF 2 _ rfl
              have z3 := blk_cell rF 3 _ rfl
              exact bodyPost_ret (v := .tuple #[_, .agg #[.int .i64 0, .int .i64 0, .int .i64 0, .slice none 0 0], .int .i64 0]) (by simp [results, Try.results10, go_sem, z0, z1, z2, z3]) rfl ⟨⟨_, _, (k + 1), _, _, ansZero, 0, rfl, AskOut.zero hOF HW1.out, .inr ⟨HG.out, (-1 : Int), hp.out, .inr (.inl ⟨HOK.out, by decide, rfl, ⟨k, HINS.out, fun _ _ => rfl⟩, rfl, rfl⟩)⟩⟩, hbF⟩

end Go.Proofs.Ytogbaoggebghdaa

namespace Go.Proofs.Ytogbaoggebghdaa
open Go.RowKit

def MRowRow (w : World) (base b n : Nat) : Prop := OwnAny w base 84 5 b n (fun xs => ∃ S, xs = rowList S n)
theorem markRow_row {w : World} {base b n : Nat} {k : Int} (hn : n ≤ 1048576) (h0 : 0 ≤ k) (h1 : k ≤ 100000000000000) (h : MRowRow w base b n) :
    Calls Try.prog 58 #[.slice (some ⟨b, 0, none⟩) n n, .int .i64 k] w fun e w' => e = .returned (.int .i64 (k + 5 * n)) ∧ MRowRow w' base b n ∧ Kept w w' (fun x => x = b) := by
  obtain ⟨_, ⟨S, rfl⟩, ho⟩ := h
  obtain ⟨q, rfl⟩ := Int.eq_ofNat_of_zero_le h0
  exact (markRowS_own _ n n base q S w (by omega) (by omega) ho).mono fun _ _ ⟨a, b, c⟩ => ⟨by rw [a]; simp, ⟨_, ⟨_, rfl⟩, b⟩, c.mono (fun x hx => by simp only [Value.ownBlock, Option.some.injEq] at hx; exact hx.symm)⟩

/-- A row of N clerks in the block g, whose rows lie in blocks behind g. -/
structure CMark (w : World) (base g N : Nat) (m r : Nat → Nat) : Prop where
  ord : ∀ i, i < N → g < r i
  row : ∃ f, w.ownsRow base 68 7 (.slice (some ⟨g, 0, none⟩) N N) N ((List.range (N * 7)).map f) ∧ ∀ i, i < N → f (i * 7 + 6) = whole (r i) (m i)
  rows : ∀ i, i < N → MRowRow w base (r i) (m i)

section
variable {w w' : World} {base g N : Nat} {m r : Nat → Nat}
theorem CMark.cell (h : CMark w base g N m r) (j : Nat) (hj : j < N * 7) : ∃ v, w.cell? ⟨g, j, none⟩ = some v := by
  obtain ⟨f, hf, _⟩ := h.row
  exact ⟨_, own_cell hf j hj rfl⟩
theorem CMark.ice (h : CMark w base g N m r) (j : Nat) : w.frozen? ⟨g, j, none⟩ = false := by
  obtain ⟨f, hf, _⟩ := h.row
  exact hf.frozenAt j
theorem CMark.rw_ (h : CMark w base g N m r) {t : Nat} (ht : t < N) : w.cell? ⟨g, t * 7 + 6, none⟩ = some (.slice (some ⟨r t, 0, none⟩) (m t) (m t)) := by
  obtain ⟨f, hf, h5⟩ := h.row
  rw [own_cell hf (t * 7 + 6) (by omega) rfl, h5 t ht]; rfl
theorem CMark.below (h : CMark w base g N m r) (hb : Below w.heap.size w w') : CMark w' base g N m r := by
  refine ⟨h.ord, ?_, fun i hi => ?_⟩
  · obtain ⟨f, hf, h5⟩ := h.row; exact ⟨f, own_below hb hf, h5⟩
  · exact (h.rows i hi).kept (Kept.of_below (S := fun _ => False) hb) (fun h => h)
theorem CMark.put (h : CMark w base g N m r) (j : Nat) (h5 : j % 7 ≠ 6) (u : Value) : CMark (w.setCell ⟨g, j, none⟩ u) base g N m r := by
  have hk : Kept w (w.setCell ⟨g, j, none⟩ u) (fun b => b = g) := (Kept.refl w (fun b => b = g)).set (a := ⟨g, j, none⟩) rfl u
  refine ⟨h.ord, ?_, fun i hi => ?_⟩
  · obtain ⟨f, hf, hx⟩ := h.row
    refine ⟨_, own_store hf j u, fun i hi => ?_⟩
    rw [if_neg (by omega)]
    exact hx i hi
  · exact (h.rows i hi).kept hk (fun e => by have := h.ord i hi; omega)
theorem CMark.markr (h : CMark w base g N m r) {t : Nat} (ht : t < N) (hk : Kept w w' (fun b => b = r t)) (ho : MRowRow w' base (r t) (m t)) : CMark w' base g N m r := by
  refine ⟨h.ord, ?_, fun i hi => ?_⟩
  · obtain ⟨f, hf, hx⟩ := h.row
    exact ⟨f, hk.own hf (fun b hb e => by simp only [Value.ownBlock, Option.some.injEq] at hb; have := h.ord t ht; omega), hx⟩
  · exact (h.rows i hi).after (h.rows t ht) hk (by omega) (fun _ => rfl) (fun _ e => by rw [e]; exact ho)
end

set_option maxHeartbeats 6400000 in
set_option maxRecDepth 100000 in
theorem markClerkS_own (g N lo hi k0 : Nat) (S : Nat → ClkD) (C : Nat → List Value) (w : World) (hN : N ≤ 1048576) (hk0 : k0 ≤ 30000000000000) (hs : ClkDsShort N S 1048576) (ho : ClkDsTo w N lo hi g N S C) :
    Calls Try.prog 20 #[.slice (some ⟨g, 0, none⟩) N N, .int .i64 k0] w fun e w' => (∃ k : Nat, k ≤ k0 + 10000000000000 ∧ e = .returned (.int .i64 k)) ∧ Kept w w' (fun b => lo ≤ b ∧ b < hi) := by
  have key : ∀ i, i < N → ∃ q : Nat, (g < q ∧ q < hi) ∧ (C i).getD 6 (.bool false) = whole q (S i).rwn ∧ MRowRow w lo q (S i).rwn := by
    intro i hi'
    obtain ⟨b, e, hb⟩ := ho.each i hi'
    have sh := hs i hi'
    have gl := ho.glo
    unfold ClkD.Short at sh
    have sr := sh.2.1
    exact ⟨b, ⟨Nat.lt_of_succ_le hb.1, hb.2.1⟩, by rw [e]; rfl, ⟨_, ⟨_, rfl⟩, own_of_row (size := 5) (n := (S i).rwn) hb.2.2 (Nat.le_trans (Nat.le_succ_of_le gl) hb.1) (by unfold maxLen; omega)⟩⟩
  obtain ⟨r, hp⟩ := Go.Deep.choose_lt key
  have hM0 : CMark w lo g N (fun i => (S i).rwn) r := by
    refine ⟨fun i hi' => (hp i hi').1.1, ⟨_, own_of_row ho.row ho.glo (by unfold maxLen; omega), fun i hi' => ?_⟩, fun i hi' => (hp i hi').2.2⟩
    rw [recCell_at 7 _ i 6 (by omega), upto_lt _ _ hi', (hp i hi').2.1]
  have HP : Hid (∀ i, i < N → (S i).rwn ≤ 1048576 ∧ g < r i ∧ r i < hi) := fun i hi' => ⟨(hs i hi').2.1, (hp i hi').1⟩
  have hgl := ho.glo
  have hgh := ho.ghi
  clear hs ho key hp
  go_enter Try.func20, Try.ntmps20
  go_wp2
  go_loopw [1, 5] (fun q i wr => ∃ t k : Nat, t ≤ N ∧ i = .int .i64 t ∧ q = .int .i64 k ∧ k ≤ k0 + t * 5242900 ∧ CMark wr lo g N (fun i => (S i).rwn) r ∧ Kept w wr (fun b => g ≤ b ∧ b < hi)) (fun _ i _ => N - (intOf i).toNat)
  case atStart => exact ⟨0, k0, Nat.zero_le _, rfl, rfl, by omega, hM0, Kept.refl _ _⟩
  case round =>
    obtain ⟨t, k, ht, rfl, rfl, hkk, hM, hk⟩ := hrel
    by_cases hlt : t < N
    · obtain ⟨n2, b3, b4⟩ := HP.out t hlt
      go_wp2_with fail
      refine (markText_int _ _ (by omega) (by omega)).mono ?_
      rintro e w2 ⟨⟨s, rfl⟩, hb2⟩
      have hM2 := hM.below hb2
      have hk2 := hk.trans (Kept.of_below hb2)
      clear hM hk hb2
      obtain ⟨v0, hc0⟩ := hM2.cell (t * 7) (by omega)
      have hf0 := hM2.ice (t * 7)
      obtain ⟨v1, hc1⟩ := hM2.cell (t * 7 + 1) (by omega)
      have hf1 := hM2.ice (t * 7 + 1)
      obtain ⟨v2, hc2⟩ := hM2.cell (t * 7 + 2) (by omega)
      have hf2 := hM2.ice (t * 7 + 2)
      obtain ⟨v3, hc3⟩ := hM2.cell (t * 7 + 3) (by omega)
      have hf3 := hM2.ice (t * 7 + 3)
      obtain ⟨v4, hc4⟩ := hM2.cell (t * 7 + 4) (by omega)
      have hf4 := hM2.ice (t * 7 + 4)
      obtain ⟨v5, hc5⟩ := hM2.cell (t * 7 + 5) (by omega)
      have hf5 := hM2.ice (t * 7 + 5)
      have hc6 := hM2.rw_ hlt
      go_wp2_with fail
      refine (markRow_row n2 (by omega) (by omega) (((((((hM2.put (t * 7) (by omega) (_)).put (t * 7 + 1) (by omega) (_)).put (t * 7 + 2) (by omega) (_)).put (t * 7 + 3) (by omega) (_)).put (t * 7 + 4) (by omega) (_)).put (t * 7 + 5) (by omega) (_)).rows t hlt)).mono ?_
      rintro e w6 ⟨rfl, o6, k6⟩
      have hM6 := ((((((hM2.put (t * 7) (by omega) (_)).put (t * 7 + 1) (by omega) (_)).put (t * 7 + 2) (by omega) (_)).put (t * 7 + 3) (by omega) (_)).put (t * 7 + 4) (by omega) (_)).put (t * 7 + 5) (by omega) (_)).markr hlt k6 o6
      have hk6 := ((((((hk2.set (a := ⟨g, t * 7, none⟩) ⟨Nat.le_refl g, hgh⟩ (_)).set (a := ⟨g, t * 7 + 1, none⟩) ⟨Nat.le_refl g, hgh⟩ (_)).set (a := ⟨g, t * 7 + 2, none⟩) ⟨Nat.le_refl g, hgh⟩ (_)).set (a := ⟨g, t * 7 + 3, none⟩) ⟨Nat.le_refl g, hgh⟩ (_)).set (a := ⟨g, t * 7 + 4, none⟩) ⟨Nat.le_refl g, hgh⟩ (_)).set (a := ⟨g, t * 7 + 5, none⟩) ⟨Nat.le_refl g, hgh⟩ (_)).trans (k6.mono (fun b e => by have e : b = r t := e; exact ⟨by omega, by omega⟩))
      clear hM2 hk2 hc0 hf0 hc1 hf1 hc2 hf2 hc3 hf3 hc4 hf4 hc5 hf5 hc6 o6 k6 w2
      go_wp2
      go_roundw
      case rel => exact ⟨t + 1, k + 6 + 5 * (S t).rwn, by omega, by go_num, by go_num, by omega, hM6, hk6⟩
      case measure => simp [intOf]; omega
    · obtain rfl : t = N := by omega
      go_wp2
      go_ret
      exact ⟨⟨k, by omega, rfl⟩, hk.mono (fun b e => by have e : g ≤ b ∧ b < hi := e; exact ⟨by omega, by omega⟩)⟩

end Go.Proofs.Ytogbaoggebghdaa

namespace Go.Proofs.Ytogbaoggebghdaa
open Go.RowKit

set_option maxHeartbeats 6400000 in
set_option maxRecDepth 100000 in
theorem heldClerkS_yes (ao : Option Addr) (N c k0 : Nat) (S : Nat → ClkD) (w : World) (hN : N ≤ 1048577) (hk0 : k0 ≤ 30000000000000) (hs : ∀ i, i < N → (S i).rwn ≤ 2097152) (hz : ClkDsAt w ao N (ckMark S k0)) :
    Calls Try.prog 22 #[.slice ao N c, .int .i64 k0] w fun e w' => e = .returned (.int .i64 ((ckPos S k0 N : Nat) : Int)) ∧ Below w.heap.size w w' := by
  have HS : Hid (∀ i, i < N → (S i).rwn ≤ 2097152) := hs
  have HP : Hid (∀ i, i ≤ N → ckPos S k0 i ≤ k0 + i * 10485766) := ckPos_le S k0 N hs
  have HX : Hid (ClkDsAt w ao N (ckMark S k0)) := hz
  clear hs hz
  go_enter Try.func22, Try.ntmps22
  go_wp2
  go_loopw [1, 5] (fun q i wr => ∃ t k : Nat, t ≤ N ∧ i = .int .i64 t ∧ q = .int .i64 k ∧ Hid (k = ckPos S k0 t) ∧ Below w.heap.size w wr) (fun _ i _ => N - (intOf i).toNat)
  case atStart => exact ⟨0, k0, Nat.zero_le _, rfl, rfl, rfl, Below.refl _ _⟩
  case round =>
    obtain ⟨t, k, ht, rfl, rfl, HK, hbel⟩ := hrel
    have kb : k ≤ 50000000000000 := by have := HK.out; have := HP.out t ht; omega
    by_cases hlt : t < N
    · have n2 := HS.out t hlt
      obtain ⟨C, hC, hI⟩ := HX.out
      obtain ⟨b, off, ea, hc⟩ := hC t hlt
      obtain ⟨ra, rc, eC, hrw, q1⟩ := hI t hlt
      unfold ckMark clkMark at eC hrw
      rw [← HK.out] at eC hrw
      have l1 : b < w.heap.size := World.block_lt_of_cell? w _ (hc 0 (by decide))
      subst ea
      have HC : Hid (∀ w', Below w.heap.size w w' → w'.cell? ⟨b, off + t * 7, none⟩ = some (.string (markT k)) ∧ w'.cell? ⟨b, off + t * 7 + 1, none⟩ = some (.int .i64 ((k : Int) + 1)) ∧ w'.cell? ⟨b, off + t * 7 + 2, none⟩ = some (.bool (((k : Int) + 2) % 3 == 0)) ∧ w'.cell? ⟨b, off + t * 7 + 3, none⟩ = some (.int .i64 ((k : Int) + 3)) ∧ w'.cell? ⟨b, off + t * 7 + 4, none⟩ = some (.int .i64 ((k : Int) + 4)) ∧ w'.cell? ⟨b, off + t * 7 + 5, none⟩ = some (.int .i64 ((k : Int) + 5)) ∧ w'.cell? ⟨b, off + t * 7 + 6, none⟩ = some (.slice ra (S t).rwn rc)) := fun w' h => ⟨(h.cell (p := ⟨b, off + t * 7, none⟩) l1).trans (by have := hc 0 (by decide); rw [eC] at this; exact this), (h.cell (p := ⟨b, off + t * 7 + 1, none⟩) l1).trans (by have := hc 1 (by decide); rw [eC] at this; exact this), (h.cell (p := ⟨b, off + t * 7 + 2, none⟩) l1).trans (by have := hc 2 (by decide); rw [eC] at this; exact this), (h.cell (p := ⟨b, off + t * 7 + 3, none⟩) l1).trans (by have := hc 3 (by decide); rw [eC] at this; exact this), (h.cell (p := ⟨b, off + t * 7 + 4, none⟩) l1).trans (by have := hc 4 (by decide); rw [eC] at this; exact this), (h.cell (p := ⟨b, off + t * 7 + 5, none⟩) l1).trans (by have := hc 5 (by decide); rw [eC] at this; exact this), (h.cell (p := ⟨b, off + t * 7 + 6, none⟩) l1).trans (by have := hc 6 (by decide); rw [eC] at this; exact this)⟩
      have HRW : Hid (MRowsAt w ra (S t).rwn (rowMark (k + 6))) := hrw
      clear hC hI hc eC hrw q1
      have hc' : ∀ g : Grown wr, g.val.cell? ⟨b, off + t * 7, none⟩ = some (.string (markT k)) := fun g => (HC.out g.val (after hbel g.bel)).1
      have i1 : (0 : Int) ≤ (t : Int) := by omega
      have i2 : (t : Int) < (N : Int) := by omega
      have HM : Hid (∀ g : Grown wr, Calls Try.prog 57 #[.int .i64 k] g.val fun e w' => e = .returned (.string (markT k)) ∧ Below g.val.heap.size g.val w') := fun g => markText_is k g.val (by omega)
      go_upto_region 4 with fail
      refine wp_region_grow (by kernel_rfl) (by kernel_rfl) ?_
      repeat (first | go_big_quiet_skip | (go_big_quiet_want; go_big_quiet_op; first | go_big_quiet_on | (apply Exists.intro; refine ⟨fun g => ?_, ?_⟩; (focus (first | (go_at_call 57; (with_reducible refine grown_call (HM.out g))))); go_big_quiet_on)))
      refine wpQuiet_nil ?_
      rintro _ ⟨g, rfl⟩
      clear hc' HM
      have hbw := after hbel g.bel
      obtain ⟨_, c1, c2, c3, c4, c5, c6⟩ := HC.out g.val hbw
      generalize g.val = W at hbw c1 c2 c3 c4 c5 c6 ⊢
      clear hbel
      have f2 : ((((k : Int) + 2) % 3 == 0) == (((k : Int) + 1 + 1) % 3 == 0)) = true := by rw [show (k : Int) + 1 + 1 = (k : Int) + 2 by omega]; simp
      have f3 : (((k : Int) + 3) != (k : Int) + 1 + 1 + 1) = false := by simp; omega
      have f4 : (((k : Int) + 4) != (k : Int) + 1 + 1 + 1 + 1) = false := by simp; omega
      have f5 : (((k : Int) + 5) != (k : Int) + 1 + 1 + 1 + 1 + 1) = false := by simp; omega
      go_wp2_with fail
      refine (heldRowS_yesI ra (S t).rwn rc ((k : Int) + 1 + 1 + 1 + 1 + 1 + 1) W n2 (by omega) (by omega) (by rw [show ((k : Int) + 1 + 1 + 1 + 1 + 1 + 1).toNat = k + 6 by omega]; exact HRW.out.below hbw)).mono ?_
      rintro e w6 ⟨rfl, hb6⟩
      have hb6 := after hbw hb6
      have d6 : decide ((k : Int) + 1 + 1 + 1 + 1 + 1 + 1 + 5 * ((S t).rwn : Int) < 0) = false := by simp; omega
      go_wp2
      go_roundw
      case rel => exact ⟨t + 1, k + 6 + 5 * (S t).rwn, by omega, by go_num, by go_num, (show k + 6 + 5 * (S t).rwn = ckPos S k0 (t + 1) by rw [ckPos_succ, HK.out]), hb6⟩
      case measure => simp [intOf]; omega
    · obtain rfl : t = N := by omega
      go_wp2
      go_ret
      exact ⟨by rw [HK.out]; rfl, hbel⟩

end Go.Proofs.Ytogbaoggebghdaa
