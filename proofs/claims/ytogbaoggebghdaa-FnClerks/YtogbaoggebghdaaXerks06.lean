/-
  OWN TEXT: SpecAsk, SpecSet, DrawC2.
-/
import Derived.Laws.BytesArg
import Derived.Test.YtogbaoggebghdaaXerks04
import Derived.Test.YtogbaoggebghdaaB16
import Derived.Test.YtogbaoggebghdaaXerks05
import Derived.Test.YtogbaoggebghdaaB19
import Derived.Test.YtogbaoggebghdaaXerks01
namespace Go.Proofs.Ytogbaoggebghdaa
open Go.RowKit Classical

set_option maxHeartbeats 12800000 in
set_option maxRecDepth 100000 in
theorem specAsk_any (ao : Option Addr) (N c : Nat) (S : Nat → ClkD) (nm : ByteArray) (num : Int) (w : World) (hN : N ≤ 1048576) (hs : ClkDsShort N S 1048576) (hx : ClkDsAt w ao N S) (hnm : nm.size ≤ 1048576) :
    Calls Try.prog 10 #[.slice ao N c, .string nm, .int .i64 num] w fun e w' => (∃ v rv N' S' R a z, e = .returned (.tuple #[v, .agg #[.int .i64 a.code, .int .i64 a.anam, .int .i64 a.price, rv], .int .i64 z]) ∧ AskOut w' w.heap.size v rv N' S' R a ∧ Hid (AskIs N S nm num N' S' a z)) ∧ Below w.heap.size w w' := by
  have HX : Hid (ClkDsAt w ao N S) := hx
  have HS : Hid (ClkDsShort N S 1048576) := hs
  clear hx hs
  obtain ⟨q, hq⟩ : ∃ q : Bool, q = clerksOk N S := ⟨_, rfl⟩
  have HQ : Hid (clerksOk N S = q) := hq.symm
  have HV : Hid (q = true ↔ ClerksOk N S) := by rw [hq]; exact decide_eq_true_iff
  clear hq
  have bZ := heap_alloc_new w (.cells #[.int .i64 0, .int .i64 0, .int .i64 0, .slice none 0 0] 28)
  have hb0 : Below w.heap.size w (w.alloc (.cells #[.int .i64 0, .int .i64 0, .int .i64 0, .slice none 0 0] 28)) := push (Below.refl _ _) _
  go_enter Try.func10, Try.ntmps10
  go_upto_region 1 with fail
  generalize w.alloc (.cells #[.int .i64 0, .int .i64 0, .int .i64 0, .slice none 0 0] 28) = W0 at bZ hb0 ⊢
  obtain ⟨zB, hzB⟩ : ∃ u, u = w.heap.size := ⟨_, rfl⟩
  rw [← hzB] at bZ ⊢
  have HzE : Hid (zB = w.heap.size) := hzB
  clear hzB
  go_wp2_with fail
  refine (specGoodC_any ao N c S _ hN HS.out (HX.out.below (HzE.out ▸ hb0))).mono ?_
  rintro e w1 ⟨he, hb1⟩
  rw [HQ.out] at he
  subst he
  clear HQ
  have bw1 : Below w.heap.size w w1 := after hb0 hb1
  replace bZ := blk_below bZ hb1
  have HzB : Hid (zB < w1.heap.size) := blk_lt bZ
  have HW1 : Hid (w.heap.size ≤ w1.heap.size) := bw1.size
  clear hb0 hb1
  cases q with
  | false =>
    have HG : Hid (¬ ClerksOk N S) := fun h => by have := HV.out.2 h; cases this
    have y0 := blk_cell bZ 0 _ rfl
    have f0 := blk_free bZ 0
    have y1 := blk_cell bZ 1 _ rfl
    have f1 := blk_free bZ 1
    have y2 := blk_cell bZ 2 _ rfl
    have f2 := blk_free bZ 2
    have y3 := blk_cell bZ 3 _ rfl
    have f3 := blk_free bZ 3
    have hO0 : OwnClks w1 w1.heap.size (.slice none 0 0) 0 S (fun _ => .slice none 0 0) := OwnClks.nil _ _ _ _
    go_wp2
    have rF := ans_set bZ (.int .i64 0) (.int .i64 0) (.int .i64 0) (.slice none 0 0)
    have hkF : Kept w1 ((((w1.setCell ⟨zB, 0, none⟩ (.int .i64 0)).setCell ⟨zB, 1, none⟩ (.int .i64 0)).setCell ⟨zB, 2, none⟩ (.int .i64 0)).setCell ⟨zB, 3, none⟩ (.slice none 0 0)) (fun b => b = zB) := (((((Kept.refl w1 (fun b => b = zB)).set (a := ⟨zB, 0, none⟩) rfl _).set (a := ⟨zB, 1, none⟩) rfl _).set (a := ⟨zB, 2, none⟩) rfl _).set (a := ⟨zB, 3, none⟩) rfl _)
    have hOF := OwnClks.keep hO0 hkF (fun b hb e => by have e : b = zB := e; have := (OwnClks.blocks hO0 b hb).1; have := HzB.out; omega)
    have hbF : Below w.heap.size w ((((w1.setCell ⟨zB, 0, none⟩ (.int .i64 0)).setCell ⟨zB, 1, none⟩ (.int .i64 0)).setCell ⟨zB, 2, none⟩ (.int .i64 0)).setCell ⟨zB, 3, none⟩ (.slice none 0 0)) := Kept.below bw1 bw1.size hkF (fun b e => by have e : b = zB := e; have := HzE.out; omega)
    generalize ((((w1.setCell ⟨zB, 0, none⟩ (.int .i64 0)).setCell ⟨zB, 1, none⟩ (.int .i64 0)).setCell ⟨zB, 2, none⟩ (.int .i64 0)).setCell ⟨zB, 3, none⟩ (.slice none 0 0)) = F at rF hkF hOF hbF ⊢
    have z0 := blk_cell rF 0 _ rfl
    have z1 := blk_cell rF 1 _ rfl
    have z2 := blk_cell rF 2 _ rfl
    have z3 := blk_cell rF 3 _ rfl
    exact bodyPost_ret (v := .tuple #[.slice none 0 0, .agg #[.int .i64 0, .int .i64 0, .int .i64 0, .slice none 0 0], .int .i64 2]) (by simp [results, Try.results10, go_sem, z0, z1, z2, z3]) rfl ⟨⟨_, _, 0, S, _, ansZero, 2, rfl, AskOut.zero hOF HW1.out, .inl ⟨HG.out, rfl, rfl, rfl⟩⟩, hbF⟩
  | true =>
    have HG : Hid (ClerksOk N S) := HV.out.1 rfl
    clear HV
    have h20 := HG.out.1
    go_wp2_with fail
    refine (l10Own_any ao N c S _ hN HS.out (HX.out.below bw1)).mono ?_
    rintro e w2 ⟨⟨av, cv, R, rfl, hO⟩, hb2⟩
    have h12 : w1.heap.size ≤ w2.heap.size := hb2.size
    have bw2 := after bw1 hb2
    replace bZ := blk_below bZ hb2
    clear hb2 bw1
    go_wp2_with fail
    refine (l10At_any av N cv S nm _ hN hO.at).mono ?_
    rintro e w3 ⟨⟨p, rfl, hp⟩, hb3⟩
    have bw3 := after bw2 hb3
    have HW13 : Hid (w1.heap.size ≤ w3.heap.size) := Nat.le_trans h12 hb3.size
    clear h12
    replace bZ := blk_below bZ hb3
    have HO : Hid (OwnClks w3 w1.heap.size (.slice av N cv) N S R) := hO.below hb3
    clear hb3 bw2 hO
    by_cases hbad : AskBad N nm num p
    case pos =>
      have HBAD : Hid (AskBad N nm num p) := hbad
      clear hbad
      have y0 := blk_cell bZ 0 _ rfl
      have f0 := blk_free bZ 0
      have y1 := blk_cell bZ 1 _ rfl
      have f1 := blk_free bZ 1
      have y2 := blk_cell bZ 2 _ rfl
      have f2 := blk_free bZ 2
      have y3 := blk_cell bZ 3 _ rfl
      have f3 := blk_free bZ 3
      go_upto_region 5 with fail
      go_cut [42] (fun b wx => wx = w3 ∧ b = .bool true)
      case first =>
        have HN1 : Hid (IsName nm → ∀ w, Calls Try.prog 45 #[.string nm] w fun e w' => e = .returned (.bool true) ∧ w' = w) := fun h w => (l1Name_is nm w (by omega)).mono fun e w' ⟨he, hw⟩ => ⟨by rw [he, decide_eq_true h], hw⟩
        have HN0 : Hid (¬ IsName nm → ∀ w, Calls Try.prog 45 #[.string nm] w fun e w' => e = .returned (.bool false) ∧ w' = w) := fun h w => (l1Name_is nm w (by omega)).mono fun e w' ⟨he, hw⟩ => ⟨by rw [he, decide_eq_false h], hw⟩
        have HI1 : Hid (In num 1 1000000 → ∀ w, Calls Try.prog 46 #[.int .i64 num, .int .i64 1, .int .i64 1000000] w fun e w' => e = .returned (.bool true) ∧ w' = w) := fun h w => (l1In_is num 1 1000000 w).mono fun e w' ⟨he, hw⟩ => ⟨by rw [he, decide_eq_true h], hw⟩
        have HI0 : Hid (¬ In num 1 1000000 → ∀ w, Calls Try.prog 46 #[.int .i64 num, .int .i64 1, .int .i64 1000000] w fun e w' => e = .returned (.bool false) ∧ w' = w) := fun h w => (l1In_is num 1 1000000 w).mono fun e w' ⟨he, hw⟩ => ⟨by rw [he, decide_eq_false h], hw⟩
        by_cases hn : IsName nm
        case neg =>
          have H1 : Hid (∀ w, Calls Try.prog 45 #[.string nm] w fun e w' => e = .returned (.bool false) ∧ w' = w) := HN0.out hn
          clear hn
          go_wp2_with (first | (go_at_call 45; refine (H1.out _).mono ?_; rintro e w' ⟨rfl, hw'⟩; have hw1 := hw'.symm; subst hw1))
          go_meet
          exact ⟨rfl, rfl⟩
        have H1 : Hid (∀ w, Calls Try.prog 45 #[.string nm] w fun e w' => e = .returned (.bool true) ∧ w' = w) := HN1.out hn
        by_cases hi : In num 1 1000000
        case neg =>
          have H2 : Hid (∀ w, Calls Try.prog 46 #[.int .i64 num, .int .i64 1, .int .i64 1000000] w fun e w' => e = .returned (.bool false) ∧ w' = w) := HI0.out hi
          clear hn hi
          go_wp2_with (first | (go_at_call 45; refine (H1.out _).mono ?_; rintro e w' ⟨rfl, hw'⟩; have hw1 := hw'.symm; subst hw1) | (go_at_call 46; refine (H2.out _).mono ?_; rintro e w' ⟨rfl, hw'⟩; have hw1 := hw'.symm; subst hw1))
          go_meet
          exact ⟨rfl, rfl⟩
        have H2 : Hid (∀ w, Calls Try.prog 46 #[.int .i64 num, .int .i64 1, .int .i64 1000000] w fun e w' => e = .returned (.bool true) ∧ w' = w) := HI1.out hi
        have hb3 : p < 0 ∧ (N = 20 ∨ num ≠ 1) := by rcases HBAD.out with h | h | h; exact absurd hn h; exact absurd hi h; exact h
        obtain ⟨pneg, hor⟩ := hb3
        have dp : decide (p < 0) = true := by simpa using pneg
        clear hn hi
        by_cases e20 : N = 20
        · have d20 : ((N : Int) == 20) = true := by simp; omega
          clear e20 hor
          go_wp2_with (first | (go_at_call 45; refine (H1.out _).mono ?_; rintro e w' ⟨rfl, hw'⟩; have hw1 := hw'.symm; subst hw1) | (go_at_call 46; refine (H2.out _).mono ?_; rintro e w' ⟨rfl, hw'⟩; have hw1 := hw'.symm; subst hw1))
          go_meet
          exact ⟨rfl, rfl⟩
        · have d20 : ((N : Int) == 20) = false := by simp; omega
          have d1 : (num != 1) = true := by rcases hor with h | h; exact absurd h e20; simpa using h
          go_wp2_with (first | (go_at_call 45; refine (H1.out _).mono ?_; rintro e w' ⟨rfl, hw'⟩; have hw1 := hw'.symm; subst hw1) | (go_at_call 46; refine (H2.out _).mono ?_; rintro e w' ⟨rfl, hw'⟩; have hw1 := hw'.symm; subst hw1))
          go_meet
          exact ⟨rfl, rfl⟩
      case rest =>
      obtain ⟨hw', rfl⟩ := hcut
      have hw1 := hw'.symm
      subst hw1
      go_wp2
      have rF := ans_set bZ (.int .i64 0) (.int .i64 0) (.int .i64 0) (.slice none 0 0)
      have hkF : Kept w3 ((((w3.setCell ⟨zB, 0, none⟩ (.int .i64 0)).setCell ⟨zB, 1, none⟩ (.int .i64 0)).setCell ⟨zB, 2, none⟩ (.int .i64 0)).setCell ⟨zB, 3, none⟩ (.slice none 0 0)) (fun b => b = zB) := (((((Kept.refl w3 (fun b => b = zB)).set (a := ⟨zB, 0, none⟩) rfl _).set (a := ⟨zB, 1, none⟩) rfl _).set (a := ⟨zB, 2, none⟩) rfl _).set (a := ⟨zB, 3, none⟩) rfl _)
      have hOF := OwnClks.keep HO.out hkF (fun b hb e => by have e : b = zB := e; have := (OwnClks.blocks HO.out b hb).1; have := HzB.out; omega)
      have hbF : Below w.heap.size w ((((w3.setCell ⟨zB, 0, none⟩ (.int .i64 0)).setCell ⟨zB, 1, none⟩ (.int .i64 0)).setCell ⟨zB, 2, none⟩ (.int .i64 0)).setCell ⟨zB, 3, none⟩ (.slice none 0 0)) := Kept.below bw3 bw3.size hkF (fun b e => by have e : b = zB := e; have := HzE.out; omega)
      generalize ((((w3.setCell ⟨zB, 0, none⟩ (.int .i64 0)).setCell ⟨zB, 1, none⟩ (.int .i64 0)).setCell ⟨zB, 2, none⟩ (.int .i64 0)).setCell ⟨zB, 3, none⟩ (.slice none 0 0)) = F at rF hkF hOF hbF ⊢
      have z0 := blk_cell rF 0 _ rfl
      have z1 := blk_cell rF 1 _ rfl
      have z2 := blk_cell rF 2 _ rfl
      have z3 := blk_cell rF 3 _ rfl
      exact bodyPost_ret (v := .tuple #[_, .agg #[.int .i64 0, .int .i64 0, .int .i64 0, .slice none 0 0], .int .i64 2]) (by simp [results, Try.results10, go_sem, z0, z1, z2, z3]) rfl ⟨⟨_, _, N, S, R, ansZero, 2, rfl, AskOut.zero hOF HW1.out, .inr ⟨HG.out, p, hp.out, .inl ⟨HBAD.out, rfl, fun _ _ => rfl, rfl, rfl⟩⟩⟩, hbF⟩
    have HOK : Hid (¬ AskBad N nm num p) := hbad
    have hn : IsName nm := Classical.byContradiction fun h => hbad (.inl h)
    have hi : In num 1 1000000 := Classical.byContradiction fun h => hbad (.inr (.inl h))
    have HN : Hid (IsName nm) := hn
    have HI : Hid (In num 1 1000000) := hi
    clear hbad
    have H1 : Hid (∀ w, Calls Try.prog 45 #[.string nm] w fun e w' => e = .returned (.bool true) ∧ w' = w) := fun w => (l1Name_is nm w (by omega)).mono fun e w' ⟨he, hw⟩ => ⟨by rw [he, decide_eq_true HN.out], hw⟩
    have H2 : Hid (∀ w, Calls Try.prog 46 #[.int .i64 num, .int .i64 1, .int .i64 1000000] w fun e w' => e = .returned (.bool true) ∧ w' = w) := fun w => (l1In_is num 1 1000000 w).mono fun e w' ⟨he, hw⟩ => ⟨by rw [he, decide_eq_true HI.out], hw⟩
    clear hn hi
    rcases hp.out with ⟨k, hk, rfl, -⟩ | ⟨rfl, -⟩
    · have dp : decide ((k : Int) < 0) = false := by simp
      obtain ⟨g, rfl, hg1, hg2⟩ := own_addr HO.out.row (by omega)
      go_upto_region 8 with (first | (go_at_call 45; refine (H1.out _).mono ?_; rintro e w' ⟨rfl, hw'⟩; have hw1 := hw'.symm; subst hw1) | (go_at_call 46; refine (H2.out _).mono ?_; rintro e w' ⟨rfl, hw'⟩; have hw1 := hw'.symm; subst hw1))
      have hb4 : Below w3.heap.size w3 (w3.alloc (.cells #[.string nm, .int .i64 num, .bool true, .int .i64 0, .int .i64 0, .int .i64 0, .slice none 0 0] 68)) := push (Below.refl _ _) _
      have bF := heap_alloc_new w3 (.cells #[.string nm, .int .i64 num, .bool true, .int .i64 0, .int .i64 0, .int .i64 0, .slice none 0 0] 68)
      replace HO : Hid (OwnClks (w3.alloc (.cells #[.string nm, .int .i64 num, .bool true, .int .i64 0, .int .i64 0, .int .i64 0, .slice none 0 0] 68)) w1.heap.size (.slice (some ⟨g, 0, none⟩) N cv) N S R) := HO.out.below hb4
      replace bZ := blk_below bZ hb4
      have bw := after bw3 hb4
      generalize w3.alloc (.cells #[.string nm, .int .i64 num, .bool true, .int .i64 0, .int .i64 0, .int .i64 0, .slice none 0 0] 68) = W4 at HO bZ bw bF ⊢
      obtain ⟨fB, hfB⟩ : ∃ u, u = w3.heap.size := ⟨_, rfl⟩
      rw [← hfB] at bF ⊢
      have HfB : Hid (fB = w3.heap.size) := hfB
      clear hfB hb4 bw3
      obtain ⟨ra, rc, eR, rl1, rl2, rl3⟩ := own_form (HO.out.rows k hk)
      have HER : Hid (R k = .slice ra (S k).rwn rc) := eR
      have HRN : Hid (ra = none → (S k).rwn = 0 ∧ rc = 0) := rl3
      clear eR rl1 rl2 rl3
      have c0 := own_cell HO.out.row (k * 7) (by omega) rfl
      rw [clkCell_0] at c0
      have c1 := own_cell HO.out.row (k * 7 + 1) (by omega) rfl
      rw [clkCell_1] at c1
      have c2 := own_cell HO.out.row (k * 7 + 2) (by omega) rfl
      rw [clkCell_2] at c2
      have c3 := own_cell HO.out.row (k * 7 + 3) (by omega) rfl
      rw [clkCell_3] at c3
      have c4 := own_cell HO.out.row (k * 7 + 4) (by omega) rfl
      rw [clkCell_4] at c4
      have c5 := own_cell HO.out.row (k * 7 + 5) (by omega) rfl
      rw [clkCell_5] at c5
      have c6 := own_cell HO.out.row (k * 7 + 6) (by omega) rfl
      rw [clkCell_6, HER.out] at c6
      have i0 : (0 : Int) ≤ (k : Int) := by omega
      have i2 : (k : Int) < (N : Int) := by omega
      go_upto_region 17 with fail
      have hb5 : Below W4.heap.size W4 (W4.alloc (.cells #[.string (S k).nam, .int .i64 (S k).num, .bool (S k).opn, .int .i64 (S k).code, .int .i64 (S k).anam, .int .i64 (S k).price, .slice ra (S k).rwn rc] 68)) := push (Below.refl _ _) _
      have bK := heap_alloc_new W4 (.cells #[.string (S k).nam, .int .i64 (S k).num, .bool (S k).opn, .int .i64 (S k).code, .int .i64 (S k).anam, .int .i64 (S k).price, .slice ra (S k).rwn rc] 68)
      replace HO : Hid (OwnClks (W4.alloc (.cells #[.string (S k).nam, .int .i64 (S k).num, .bool (S k).opn, .int .i64 (S k).code, .int .i64 (S k).anam, .int .i64 (S k).price, .slice ra (S k).rwn rc] 68)) w1.heap.size (.slice (some ⟨g, 0, none⟩) N cv) N S R) := HO.out.below hb5
      replace bZ := blk_below bZ hb5
      replace bF := blk_below bF hb5
      replace bw := after bw hb5
      generalize W4.alloc (.cells #[.string (S k).nam, .int .i64 (S k).num, .bool (S k).opn, .int .i64 (S k).code, .int .i64 (S k).anam, .int .i64 (S k).price, .slice ra (S k).rwn rc] 68) = W5 at HO bZ bw bF bK ⊢
      obtain ⟨kB, hkB⟩ : ∃ u, u = W4.heap.size := ⟨_, rfl⟩
      rw [← hkB] at bK ⊢
      have HkB : Hid (kB = W4.heap.size) := hkB
      clear hkB hb5 c0 c1 c2 c3 c4 c5 c6
      have k1 := blk_cell bK 1 _ rfl
      have k2 := blk_cell bK 2 _ rfl
      have k3 := blk_cell bK 3 _ rfl
      have k4 := blk_cell bK 4 _ rfl
      have k5 := blk_cell bK 5 _ rfl
      have k6 := blk_cell bK 6 _ rfl
      have hcn : In (S k).num 1 1000000 := (HG.out.2 k hk).2.2.1
      have hcn1 : (1 : Int) ≤ (S k).num := hcn.1
      have hcn2 : (S k).num ≤ 1000000 := hcn.2
      clear hcn
      have y0 := blk_cell bZ 0 _ rfl
      have f0 := blk_free bZ 0
      have y1 := blk_cell bZ 1 _ rfl
      have f1 := blk_free bZ 1
      have y2 := blk_cell bZ 2 _ rfl
      have f2 := blk_free bZ 2
      have y3 := blk_cell bZ 3 _ rfl
      have f3 := blk_free bZ 3
      by_cases hlate : num < (S k).num
      · have dl : decide (num < (S k).num) = true := by simpa using hlate
        have HL : Hid (num < (S k).num) := hlate
        clear hlate
        go_wp2
        have rF := ans_set bZ (.int .i64 0) (.int .i64 0) (.int .i64 0) (.slice none 0 0)
        have hkF : Kept W5 ((((W5.setCell ⟨zB, 0, none⟩ (.int .i64 0)).setCell ⟨zB, 1, none⟩ (.int .i64 0)).setCell ⟨zB, 2, none⟩ (.int .i64 0)).setCell ⟨zB, 3, none⟩ (.slice none 0 0)) (fun b => b = zB) := (((((Kept.refl W5 (fun b => b = zB)).set (a := ⟨zB, 0, none⟩) rfl _).set (a := ⟨zB, 1, none⟩) rfl _).set (a := ⟨zB, 2, none⟩) rfl _).set (a := ⟨zB, 3, none⟩) rfl _)
        have hOF := OwnClks.keep HO.out hkF (fun b hb e => by have e : b = zB := e; have := (OwnClks.blocks HO.out b hb).1; have := HzB.out; omega)
        have hbF : Below w.heap.size w ((((W5.setCell ⟨zB, 0, none⟩ (.int .i64 0)).setCell ⟨zB, 1, none⟩ (.int .i64 0)).setCell ⟨zB, 2, none⟩ (.int .i64 0)).setCell ⟨zB, 3, none⟩ (.slice none 0 0)) := Kept.below bw bw.size hkF (fun b e => by have e : b = zB := e; have := HzE.out; omega)
        generalize ((((W5.setCell ⟨zB, 0, none⟩ (.int .i64 0)).setCell ⟨zB, 1, none⟩ (.int .i64 0)).setCell ⟨zB, 2, none⟩ (.int .i64 0)).setCell ⟨zB, 3, none⟩ (.slice none 0 0)) = F at rF hkF hOF hbF ⊢
        have z0 := blk_cell rF 0 _ rfl
        have z1 := blk_cell rF 1 _ rfl
        have z2 := blk_cell rF 2 _ rfl
        have z3 := blk_cell rF 3 _ rfl
        exact bodyPost_ret (v := .tuple #[_, .agg #[.int .i64 0, .int .i64 0, .int .i64 0, .slice none 0 0], .int .i64 3]) (by simp [results, Try.results10, go_sem, z0, z1, z2, z3]) rfl ⟨⟨_, _, N, S, R, ansZero, 3, rfl, AskOut.zero hOF HW1.out, .inr ⟨HG.out, (k : Int), hp.out, .inr (.inr ⟨HOK.out, rfl, k, hk, rfl, .inl ⟨HL.out, fun _ _ => rfl, rfl, rfl⟩⟩)⟩⟩, hbF⟩
      have dl : decide (num < (S k).num) = false := by simpa using hlate
      by_cases hahead : (S k).num + 1 < num
      · have da : decide ((S k).num + 1 < num) = true := by simpa using hahead
        have HL : Hid ((S k).num + 1 < num) := hahead
        clear hahead hlate
        go_wp2
        have rF := ans_set bZ (.int .i64 0) (.int .i64 0) (.int .i64 0) (.slice none 0 0)
        have hkF : Kept W5 ((((W5.setCell ⟨zB, 0, none⟩ (.int .i64 0)).setCell ⟨zB, 1, none⟩ (.int .i64 0)).setCell ⟨zB, 2, none⟩ (.int .i64 0)).setCell ⟨zB, 3, none⟩ (.slice none 0 0)) (fun b => b = zB) := (((((Kept.refl W5 (fun b => b = zB)).set (a := ⟨zB, 0, none⟩) rfl _).set (a := ⟨zB, 1, none⟩) rfl _).set (a := ⟨zB, 2, none⟩) rfl _).set (a := ⟨zB, 3, none⟩) rfl _)
        have hOF := OwnClks.keep HO.out hkF (fun b hb e => by have e : b = zB := e; have := (OwnClks.blocks HO.out b hb).1; have := HzB.out; omega)
        have hbF : Below w.heap.size w ((((W5.setCell ⟨zB, 0, none⟩ (.int .i64 0)).setCell ⟨zB, 1, none⟩ (.int .i64 0)).setCell ⟨zB, 2, none⟩ (.int .i64 0)).setCell ⟨zB, 3, none⟩ (.slice none 0 0)) := Kept.below bw bw.size hkF (fun b e => by have e : b = zB := e; have := HzE.out; omega)
        generalize ((((W5.setCell ⟨zB, 0, none⟩ (.int .i64 0)).setCell ⟨zB, 1, none⟩ (.int .i64 0)).setCell ⟨zB, 2, none⟩ (.int .i64 0)).setCell ⟨zB, 3, none⟩ (.slice none 0 0)) = F at rF hkF hOF hbF ⊢
        have z0 := blk_cell rF 0 _ rfl
        have z1 := blk_cell rF 1 _ rfl
        have z2 := blk_cell rF 2 _ rfl
        have z3 := blk_cell rF 3 _ rfl
        exact bodyPost_ret (v := .tuple #[_, .agg #[.int .i64 0, .int .i64 0, .int .i64 0, .slice none 0 0], .int .i64 4]) (by simp [results, Try.results10, go_sem, z0, z1, z2, z3]) rfl ⟨⟨_, _, N, S, R, ansZero, 4, rfl, AskOut.zero hOF HW1.out, .inr ⟨HG.out, (k : Int), hp.out, .inr (.inr ⟨HOK.out, rfl, k, hk, rfl, .inr (.inl ⟨HL.out, fun _ _ => rfl, rfl, rfl⟩)⟩)⟩⟩, hbF⟩
      have da : decide ((S k).num + 1 < num) = false := by simpa using hahead
      have HL : Hid ((S k).num ≤ num ∧ num ≤ (S k).num + 1) := ⟨by omega, by omega⟩
      clear hlate hahead
      cases ho : (S k).opn with
      | true =>
        rw [ho] at k2
        go_wp2
        have rF := ans_set bZ (.int .i64 0) (.int .i64 0) (.int .i64 0) (.slice none 0 0)
        have hkF : Kept W5 ((((W5.setCell ⟨zB, 0, none⟩ (.int .i64 0)).setCell ⟨zB, 1, none⟩ (.int .i64 0)).setCell ⟨zB, 2, none⟩ (.int .i64 0)).setCell ⟨zB, 3, none⟩ (.slice none 0 0)) (fun b => b = zB) := (((((Kept.refl W5 (fun b => b = zB)).set (a := ⟨zB, 0, none⟩) rfl _).set (a := ⟨zB, 1, none⟩) rfl _).set (a := ⟨zB, 2, none⟩) rfl _).set (a := ⟨zB, 3, none⟩) rfl _)
        have hOF := OwnClks.keep HO.out hkF (fun b hb e => by have e : b = zB := e; have := (OwnClks.blocks HO.out b hb).1; have := HzB.out; omega)
        have hbF : Below w.heap.size w ((((W5.setCell ⟨zB, 0, none⟩ (.int .i64 0)).setCell ⟨zB, 1, none⟩ (.int .i64 0)).setCell ⟨zB, 2, none⟩ (.int .i64 0)).setCell ⟨zB, 3, none⟩ (.slice none 0 0)) := Kept.below bw bw.size hkF (fun b e => by have e : b = zB := e; have := HzE.out; omega)
        generalize ((((W5.setCell ⟨zB, 0, none⟩ (.int .i64 0)).setCell ⟨zB, 1, none⟩ (.int .i64 0)).setCell ⟨zB, 2, none⟩ (.int .i64 0)).setCell ⟨zB, 3, none⟩ (.slice none 0 0)) = F at rF hkF hOF hbF ⊢
        have z0 := blk_cell rF 0 _ rfl
        have z1 := blk_cell rF 1 _ rfl
        have z2 := blk_cell rF 2 _ rfl
        have z3 := blk_cell rF 3 _ rfl
        exact bodyPost_ret (v := .tuple #[_, .agg #[.int .i64 0, .int .i64 0, .int .i64 0, .slice none 0 0], .int .i64 5]) (by simp [results, Try.results10, go_sem, z0, z1, z2, z3]) rfl ⟨⟨_, _, N, S, R, ansZero, 5, rfl, AskOut.zero hOF HW1.out, .inr ⟨HG.out, (k : Int), hp.out, .inr (.inr ⟨HOK.out, rfl, k, hk, rfl, .inr (.inr (.inl ⟨HL.out.1, HL.out.2, ho, fun _ _ => rfl, rfl, rfl⟩))⟩)⟩⟩, hbF⟩
      | false =>
        rw [ho] at k2
        have HOP : Hid ((S k).opn = false) := ho
        clear ho
        by_cases hag : num = (S k).num
        · have dg : (num == (S k).num) = true := by simpa using hag
          have HAG : Hid (num = (S k).num) := hag
          clear hag
          go_wp2_with fail
          have hro := HO.out.rows k hk
          rw [HER.out] at hro
          refine (l10OwnAns_any (S k).code (S k).anam (S k).price ra (S k).rwn rc (S k).rw _ (HS.out k hk).2.1 HRN.out (rows_of_own hro)).mono ?_
          rintro e W6 ⟨⟨a', c', rfl, ho6⟩, hb6⟩
          have HLM : Hid (∀ i, i < N → ∀ b, (R i).ownBlock = some b → b < W5.heap.size) := fun i hi b hb => ((HO.out.rows i hi).lt b hb).2
          have HZ5 : Hid (zB < W5.heap.size ∧ w1.heap.size ≤ W5.heap.size) := ⟨blk_lt bZ, by have := (HO.out.row.lt g rfl); omega⟩
          replace HO : Hid (OwnClks W6 w1.heap.size (.slice (some ⟨g, 0, none⟩) N cv) N S R) := HO.out.below hb6
          replace bZ := blk_below bZ hb6
          replace bw := after bw hb6
          clear hb6 hro y0 y1 y2 y3 f0 f1 f2 f3
          have y0 := blk_cell bZ 0 _ rfl
          have f0 := blk_free bZ 0
          have y1 := blk_cell bZ 1 _ rfl
          have f1 := blk_free bZ 1
          have y2 := blk_cell bZ 2 _ rfl
          have f2 := blk_free bZ 2
          have y3 := blk_cell bZ 3 _ rfl
          have f3 := blk_free bZ 3
          have HO6 : Hid (W6.ownsRow W5.heap.size 84 5 (.slice a' (S k).rwn c') (S k).rwn (rowList (S k).rw (S k).rwn)) := ho6
          clear ho6
          go_wp2
          have rF := ans_set bZ (.int .i64 (S k).code) (.int .i64 (S k).anam) (.int .i64 (S k).price) (.slice a' (S k).rwn c')
          have hkF : Kept W6 ((((W6.setCell ⟨zB, 0, none⟩ (.int .i64 (S k).code)).setCell ⟨zB, 1, none⟩ (.int .i64 (S k).anam)).setCell ⟨zB, 2, none⟩ (.int .i64 (S k).price)).setCell ⟨zB, 3, none⟩ (.slice a' (S k).rwn c')) (fun b => b = zB) := (((((Kept.refl W6 (fun b => b = zB)).set (a := ⟨zB, 0, none⟩) rfl _).set (a := ⟨zB, 1, none⟩) rfl _).set (a := ⟨zB, 2, none⟩) rfl _).set (a := ⟨zB, 3, none⟩) rfl _)
          have hOF := OwnClks.keep HO.out hkF (fun b hb e => by have e : b = zB := e; have := (OwnClks.blocks HO.out b hb).1; have := HzB.out; omega)
          have hbF : Below w.heap.size w ((((W6.setCell ⟨zB, 0, none⟩ (.int .i64 (S k).code)).setCell ⟨zB, 1, none⟩ (.int .i64 (S k).anam)).setCell ⟨zB, 2, none⟩ (.int .i64 (S k).price)).setCell ⟨zB, 3, none⟩ (.slice a' (S k).rwn c')) := Kept.below bw bw.size hkF (fun b e => by have e : b = zB := e; have := HzE.out; omega)
          generalize ((((W6.setCell ⟨zB, 0, none⟩ (.int .i64 (S k).code)).setCell ⟨zB, 1, none⟩ (.int .i64 (S k).anam)).setCell ⟨zB, 2, none⟩ (.int .i64 (S k).price)).setCell ⟨zB, 3, none⟩ (.slice a' (S k).rwn c')) = F at rF hkF hOF hbF ⊢
          have z0 := blk_cell rF 0 _ rfl
          have z1 := blk_cell rF 1 _ rfl
          have z2 := blk_cell rF 2 _ rfl
          have z3 := blk_cell rF 3 _ rfl
          exact bodyPost_ret (v := .tuple #[_, .agg #[.int .i64 (S k).code, .int .i64 (S k).anam, .int .i64 (S k).price, .slice a' (S k).rwn c'], .int .i64 1]) (by simp [results, Try.results10, go_sem, z0, z1, z2, z3]) rfl ⟨⟨_, _, N, S, R, (S k).ans, 1, rfl, ⟨hOF.lower HW1.out, own_base (hkF.own HO6.out (fun b hb e => by have e : b = zB := e; have := (HO6.out.lt b hb).1; have := HZ5.out; omega)) (by have := HZ5.out; have := HW1.out; omega), fun i hi b h1 h2 => by have := HLM.out i hi b h1; have := (HO6.out.lt b h2).1; omega⟩, .inr ⟨HG.out, (k : Int), hp.out, .inr (.inr ⟨HOK.out, rfl, k, hk, rfl, .inr (.inr (.inr (.inl ⟨HAG.out, HOP.out, fun _ _ => rfl, rfl, rfl⟩)))⟩)⟩⟩, hbF⟩
        · have dg : (num == (S k).num) = false := by simpa using hag
          have HAG : Hid (num = (S k).num + 1) := by have := HL.out; show num = (S k).num + 1; omega
          clear hag
          have d0 := own_cell HO.out.row (k * 7) (by omega) rfl
          have e0 := HO.out.row.frozenAt (k * 7)
          have b0 := blk_cell bF 0 _ rfl
          have d1 := own_cell HO.out.row (k * 7 + 1) (by omega) rfl
          have e1 := HO.out.row.frozenAt (k * 7 + 1)
          have b1 := blk_cell bF 1 _ rfl
          have d2 := own_cell HO.out.row (k * 7 + 2) (by omega) rfl
          have e2 := HO.out.row.frozenAt (k * 7 + 2)
          have b2 := blk_cell bF 2 _ rfl
          have d3 := own_cell HO.out.row (k * 7 + 3) (by omega) rfl
          have e3 := HO.out.row.frozenAt (k * 7 + 3)
          have b3 := blk_cell bF 3 _ rfl
          have d4 := own_cell HO.out.row (k * 7 + 4) (by omega) rfl
          have e4 := HO.out.row.frozenAt (k * 7 + 4)
          have b4 := blk_cell bF 4 _ rfl
          have d5 := own_cell HO.out.row (k * 7 + 5) (by omega) rfl
          have e5 := HO.out.row.frozenAt (k * 7 + 5)
          have b5 := blk_cell bF 5 _ rfl
          have d6 := own_cell HO.out.row (k * 7 + 6) (by omega) rfl
          have e6 := HO.out.row.frozenAt (k * 7 + 6)
          have b6 := blk_cell bF 6 _ rfl
          go_upto_region 26 with fail
          have hP := HO.out.put7 (k := k) (freshC nm num) rfl
          have hk7 : Kept W5 (((((((W5.setCell ⟨g, k * 7, none⟩ (.string nm)).setCell ⟨g, k * 7 + 1, none⟩ (.int .i64 num)).setCell ⟨g, k * 7 + 2, none⟩ (.bool true)).setCell ⟨g, k * 7 + 3, none⟩ (.int .i64 0)).setCell ⟨g, k * 7 + 4, none⟩ (.int .i64 0)).setCell ⟨g, k * 7 + 5, none⟩ (.int .i64 0)).setCell ⟨g, k * 7 + 6, none⟩ (.slice none 0 0)) (fun x => x = g) := ((((((((Kept.refl W5 (fun x => x = g)).set (a := ⟨g, k * 7, none⟩) rfl _).set (a := ⟨g, k * 7 + 1, none⟩) rfl _).set (a := ⟨g, k * 7 + 2, none⟩) rfl _).set (a := ⟨g, k * 7 + 3, none⟩) rfl _).set (a := ⟨g, k * 7 + 4, none⟩) rfl _).set (a := ⟨g, k * 7 + 5, none⟩) rfl _).set (a := ⟨g, k * 7 + 6, none⟩) rfl _)
          have hP7 : OwnClks (((((((W5.setCell ⟨g, k * 7, none⟩ (.string nm)).setCell ⟨g, k * 7 + 1, none⟩ (.int .i64 num)).setCell ⟨g, k * 7 + 2, none⟩ (.bool true)).setCell ⟨g, k * 7 + 3, none⟩ (.int .i64 0)).setCell ⟨g, k * 7 + 4, none⟩ (.int .i64 0)).setCell ⟨g, k * 7 + 5, none⟩ (.int .i64 0)).setCell ⟨g, k * 7 + 6, none⟩ (.slice none 0 0)) w1.heap.size (.slice (some ⟨g, 0, none⟩) N cv) N (putC S k (freshC nm num)) (atV R k (.slice none 0 0)) := hP
          replace bZ := hk7.blk bZ (fun e => by have := (HO.out.row.lt g rfl).1; have := HzB.out; omega)
          replace bw := Kept.below bw bw.size hk7 (fun b e => by have e : b = g := e; have := (HO.out.row.lt g rfl).1; have := HW1.out; omega)
          clear hP
          generalize (((((((W5.setCell ⟨g, k * 7, none⟩ (.string nm)).setCell ⟨g, k * 7 + 1, none⟩ (.int .i64 num)).setCell ⟨g, k * 7 + 2, none⟩ (.bool true)).setCell ⟨g, k * 7 + 3, none⟩ (.int .i64 0)).setCell ⟨g, k * 7 + 4, none⟩ (.int .i64 0)).setCell ⟨g, k * 7 + 5, none⟩ (.int .i64 0)).setCell ⟨g, k * 7 + 6, none⟩ (.slice none 0 0)) = W6 at hk7 hP7 bZ bw ⊢
          replace HO : Hid (OwnClks W6 w1.heap.size (.slice (some ⟨g, 0, none⟩) N cv) N (putC S k (freshC nm num)) (atV R k (.slice none 0 0))) := hP7
          clear hP7 hk7 y0 y1 y2 y3 f0 f1 f2 f3 d0 d1 d2 d3 d4 d5 d6 e0 e1 e2 e3 e4 e5 e6 b0 b1 b2 b3 b4 b5 b6
          have y0 := blk_cell bZ 0 _ rfl
          have f0 := blk_free bZ 0
          have y1 := blk_cell bZ 1 _ rfl
          have f1 := blk_free bZ 1
          have y2 := blk_cell bZ 2 _ rfl
          have f2 := blk_free bZ 2
          have y3 := blk_cell bZ 3 _ rfl
          have f3 := blk_free bZ 3
          go_wp2
          have rF := ans_set bZ (.int .i64 0) (.int .i64 0) (.int .i64 0) (.slice none 0 0)
          have hkF : Kept W6 ((((W6.setCell ⟨zB, 0, none⟩ (.int .i64 0)).setCell ⟨zB, 1, none⟩ (.int .i64 0)).setCell ⟨zB, 2, none⟩ (.int .i64 0)).setCell ⟨zB, 3, none⟩ (.slice none 0 0)) (fun b => b = zB) := (((((Kept.refl W6 (fun b => b = zB)).set (a := ⟨zB, 0, none⟩) rfl _).set (a := ⟨zB, 1, none⟩) rfl _).set (a := ⟨zB, 2, none⟩) rfl _).set (a := ⟨zB, 3, none⟩) rfl _)
          have hOF := OwnClks.keep HO.out hkF (fun b hb e => by have e : b = zB := e; have := (OwnClks.blocks HO.out b hb).1; have := HzB.out; omega)
          have hbF : Below w.heap.size w ((((W6.setCell ⟨zB, 0, none⟩ (.int .i64 0)).setCell ⟨zB, 1, none⟩ (.int .i64 0)).setCell ⟨zB, 2, none⟩ (.int .i64 0)).setCell ⟨zB, 3, none⟩ (.slice none 0 0)) := Kept.below bw bw.size hkF (fun b e => by have e : b = zB := e; have := HzE.out; omega)
          generalize ((((W6.setCell ⟨zB, 0, none⟩ (.int .i64 0)).setCell ⟨zB, 1, none⟩ (.int .i64 0)).setCell ⟨zB, 2, none⟩ (.int .i64 0)).setCell ⟨zB, 3, none⟩ (.slice none 0 0)) = F at rF hkF hOF hbF ⊢
          have z0 := blk_cell rF 0 _ rfl
          have z1 := blk_cell rF 1 _ rfl
          have z2 := blk_cell rF 2 _ rfl
          have z3 := blk_cell rF 3 _ rfl
          exact bodyPost_ret (v := .tuple #[_, .agg #[.int .i64 0, .int .i64 0, .int .i64 0, .slice none 0 0], .int .i64 0]) (by simp [results, Try.results10, go_sem, z0, z1, z2, z3]) rfl ⟨⟨_, _, N, _, _, ansZero, 0, rfl, AskOut.zero hOF HW1.out, .inr ⟨HG.out, (k : Int), hp.out, .inr (.inr ⟨HOK.out, rfl, k, hk, rfl, .inr (.inr (.inr (.inr ⟨HAG.out, HOP.out, fun _ _ => rfl, rfl, rfl⟩)))⟩)⟩⟩, hbF⟩
    · have hn0 : N ≠ 20 ∧ num = 1 := by
        have h := HOK.out
        constructor
        · exact fun e => h (Or.inr (Or.inr ⟨by decide, Or.inl e⟩))
        · exact Classical.byContradiction fun e => h (Or.inr (Or.inr ⟨by decide, Or.inr e⟩))
      have d20 : ((N : Int) == 20) = false := by simp; omega
      have d1 : (num != 1) = false := by simpa using hn0.2
      clear hn0
      go_upto_region 8 with (first | (go_at_call 45; refine (H1.out _).mono ?_; rintro e w' ⟨rfl, hw'⟩; have hw1 := hw'.symm; subst hw1) | (go_at_call 46; refine (H2.out _).mono ?_; rintro e w' ⟨rfl, hw'⟩; have hw1 := hw'.symm; subst hw1))
      clear d20 d1
      have hb4 : Below w3.heap.size w3 (w3.alloc (.cells #[.string nm, .int .i64 num, .bool true, .int .i64 0, .int .i64 0, .int .i64 0, .slice none 0 0] 68)) := push (Below.refl _ _) _
      have HW4 : Hid (w1.heap.size ≤ (w3.alloc (.cells #[.string nm, .int .i64 num, .bool true, .int .i64 0, .int .i64 0, .int .i64 0, .slice none 0 0] 68)).heap.size) := Nat.le_trans HW13.out hb4.size
      have bF := heap_alloc_new w3 (.cells #[.string nm, .int .i64 num, .bool true, .int .i64 0, .int .i64 0, .int .i64 0, .slice none 0 0] 68)
      replace HO : Hid (OwnClks (w3.alloc (.cells #[.string nm, .int .i64 num, .bool true, .int .i64 0, .int .i64 0, .int .i64 0, .slice none 0 0] 68)) w1.heap.size (.slice av N cv) N S R) := HO.out.below hb4
      replace bZ := blk_below bZ hb4
      have bw := after bw3 hb4
      generalize w3.alloc (.cells #[.string nm, .int .i64 num, .bool true, .int .i64 0, .int .i64 0, .int .i64 0, .slice none 0 0] 68) = W4 at HO bZ bw bF HW4 ⊢
      obtain ⟨fB, hfB⟩ : ∃ u, u = w3.heap.size := ⟨_, rfl⟩
      rw [← hfB] at bF ⊢
      have HfB : Hid (fB = w3.heap.size) := hfB
      clear hfB hb4 bw3
      have b0 := blk_cell bF 0 _ rfl
      have b1 := blk_cell bF 1 _ rfl
      have b2 := blk_cell bF 2 _ rfl
      have b3 := blk_cell bF 3 _ rfl
      have b4 := blk_cell bF 4 _ rfl
      have b5 := blk_cell bF 5 _ rfl
      have b6 := blk_cell bF 6 _ rfl
      obtain ⟨ik0, iki, ikz0, ikz1, ikz2⟩ := info_parts Try.infoClerk
      go_wp2
      go_loopw [9] (fun i wr => wr = W4 ∧ ∃ k : Nat, k ≤ N ∧ i = .int .i64 k ∧ Hid (∀ j, j < k → textLt (S j).nam nm)) (fun i _ => N - (intOf i).toNat)
      case atStart => exact ⟨rfl, 0, Nat.zero_le _, rfl, fun j hj => absurd hj (Nat.not_lt_zero _)⟩
      case round =>
        obtain ⟨rfl, k, hk, rfl, HLT⟩ := hrel
        have HR1 : Hid (∀ i, i < N → (R i).oneCell' = true) := fun i hi => by obtain ⟨a9, c9, e9, _⟩ := own_form (HO.out.rows i hi); rw [e9]; rfl
        by_cases hkN : k < N
        · obtain ⟨g, rfl, hg1, hg2⟩ := own_addr HO.out.row (by omega)
          have c0 := own_cell HO.out.row (k * 7) (by omega) rfl
          rw [clkCell_0] at c0
          have dk : decide ((k : Int) < (N : Int)) = true := by simp; omega
          have i0 : (0 : Int) ≤ (k : Int) := by omega
          have i2 : (k : Int) < (N : Int) := by omega
          by_cases hlt : textLt (S k).nam nm
          · have dl : Op.bytesLess (S k).nam.toList nm.toList = true := hlt
            have HL : Hid (textLt (S k).nam nm) := hlt
            clear hlt
            go_wp2
            go_roundw
            case rel =>
              refine ⟨by first | rfl | trivial, k + 1, by omega, by go_num, fun j hj => ?_⟩
              rcases Nat.lt_succ_iff_lt_or_eq.1 hj with e | e
              · exact HLT.out j e
              · rw [e]; exact HL.out
            case measure => simp [intOf]; omega
          · have dl : Op.bytesLess (S k).nam.toList nm.toList = false := Bool.eq_false_iff.2 hlt
            have HINS : Hid (InsAt N S nm k) := ⟨hk, HLT.out, fun _ => hlt⟩
            clear hlt
            have hcv : N ≤ cv := by obtain ⟨_, _, e9, l1, _⟩ := own_form HO.out.row; cases e9; exact l1
            have hcm : cv ≤ 9223372036854775807 := by obtain ⟨_, _, e9, _, l2, _⟩ := own_form HO.out.row; cases e9; unfold maxLen at l2; omega
            have hne : ¬ (cv = k) := by omega
            have HCE : Hid (∀ j, j < N * 7 → ∀ W, Below wr.heap.size wr W → W.cell? ⟨g, j, none⟩ = some (clkCell S R j)) := fun j hj W hW => (hW.cell (p := ⟨g, j, none⟩) (HO.out.row.lt g rfl).2).trans (own_cell HO.out.row j hj rfl)
            have p0 : (0 : Int) ≤ (k : Int) := by omega
            have p1 : (k : Int) ≤ (cv : Int) := by omega
            have p2 : (k : Int) ≤ (N : Int) := by omega
            go_upto_region 14 with (first | (at_builtin; refine wpList_append_any _ (by rfl) (.tmp 65) (.tmp 68) 23 (by rfl) wr.heap.size 68 ik0 (.agg #[.string ⟨#[]⟩, .int .i64 0, .bool false, .int .i64 0, .int .i64 0, .int .i64 0, .slice none 0 0]) 7 80 Try.underlying23 iki ikz0 ikz1 ikz2 rfl (by decide) _ 0 [] (by rfl) (World.ownsRow_nil _ _ _ _) (some ⟨g, 0, none⟩) k cv ((List.range (k * 7)).map (clkCell S R)) (by rfl) (fun h => by cases h) (by simp) (fun ad h j u hj => by cases h; obtain ⟨h1, rfl⟩ := clkTo_get hj; rw [Addr.add_lit, Nat.zero_add]; exact HCE.out j (by omega) _ (Below.refl _ _)) (clkRow_one S R k (fun i hi => HR1.out i (by omega))) (by unfold maxLen; omega) (by omega) (Nat.le_refl _) ?_; intro v5 w5 ho5 hg5; rw [Nat.zero_add, List.nil_append] at ho5; obtain ⟨a5, c5, rfl, _⟩ := own_form ho5))
            have hb5 : Below wr.heap.size wr w5 := Kept.below (Below.refl wr.heap.size wr) (Nat.le_refl _) (kept_row hg5) (fun b e => by cases e)
            have bF5 := blk_below bF hb5
            have HO5 : Hid ((w5.alloc (.cells #[.string nm, .int .i64 num, .bool true, .int .i64 0, .int .i64 0, .int .i64 0, .slice none 0 0] 68)).ownsRow wr.heap.size 68 7 (.slice a5 k c5) k ((List.range (k * 7)).map (clkCell S R))) := own_below (push (Below.refl _ _) _) ho5
            have hb5a : Below wr.heap.size wr (w5.alloc (.cells #[.string nm, .int .i64 num, .bool true, .int .i64 0, .int .i64 0, .int .i64 0, .slice none 0 0] 68)) := push hb5 _
            clear ho5 hg5 b0 b1 b2 b3 b4 b5 b6
            have b0 := blk_cell bF5 0 _ rfl
            have b1 := blk_cell bF5 1 _ rfl
            have b2 := blk_cell bF5 2 _ rfl
            have b3 := blk_cell bF5 3 _ rfl
            have b4 := blk_cell bF5 4 _ rfl
            have b5 := blk_cell bF5 5 _ rfl
            have b6 := blk_cell bF5 6 _ rfl
            go_upto_region 15 with (first | (at_builtin; refine wpList_append_any _ (by rfl) (.tmp 70) (.tmp 72) 23 (by rfl) wr.heap.size 68 ik0 (.agg #[.string ⟨#[]⟩, .int .i64 0, .bool false, .int .i64 0, .int .i64 0, .int .i64 0, .slice none 0 0]) 7 80 Try.underlying23 iki ikz0 ikz1 ikz2 rfl (by decide) _ k ((List.range (k * 7)).map (clkCell S R)) (by rfl) HO5.out (some ⟨w5.heap.size, 0, none⟩) 1 1 [.string nm, .int .i64 num, .bool true, .int .i64 0, .int .i64 0, .int .i64 0, .slice none 0 0] (by rfl) (fun h => by cases h) (by rfl) (fun ad h => by cases h; exact World.news_of_block (heap_alloc_new w5 _)) (by intro u hu; simp only [List.mem_cons, List.not_mem_nil, or_false] at hu; rcases hu with rfl | rfl | rfl | rfl | rfl | rfl | rfl <;> rfl) (by unfold maxLen; omega) (by omega) (by have := hb5a.size; omega) ?_; intro v6 w6 ho6 hg6; obtain ⟨a6, c6, rfl, _⟩ := own_form ho6))
            have HB6 : Hid (Below wr.heap.size wr w6) := Kept.below hb5a hb5a.size (kept_row hg6) (fun b e => (HO5.out.lt b e).1)
            have HO6 : Hid (w6.ownsRow wr.heap.size 68 7 (.slice a6 (k + 1) c6) (k + 1) (((List.range (k * 7)).map (clkCell S R)) ++ [.string nm, .int .i64 num, .bool true, .int .i64 0, .int .i64 0, .int .i64 0, .slice none 0 0])) := ho6
            clear ho6 hg6 b0 b1 b2 b3 b4 b5 b6 bF5 hb5 hb5a HO5
            go_wp2_with (first | (at_builtin; refine wpList_append_any _ (by rfl) (.tmp 74) (.tmp 77) 23 (by rfl) wr.heap.size 68 ik0 (.agg #[.string ⟨#[]⟩, .int .i64 0, .bool false, .int .i64 0, .int .i64 0, .int .i64 0, .slice none 0 0]) 7 80 Try.underlying23 iki ikz0 ikz1 ikz2 rfl (by decide) _ (k + 1) (((List.range (k * 7)).map (clkCell S R)) ++ [.string nm, .int .i64 num, .bool true, .int .i64 0, .int .i64 0, .int .i64 0, .slice none 0 0]) (by rfl) HO6.out (some ⟨g, k * 7, none⟩) (N - k) (cv - k) (clkFrom S R k N) (by rfl) (fun h => by cases h) (clkFrom_length _ _ _ _) (fun ad h j u hj => by cases h; obtain ⟨h1, rfl⟩ := clkFrom_get hj; rw [Addr.add_lit]; exact HCE.out _ (by omega) _ HB6.out) (clkFrom_one _ _ _ _ HR1.out) (by unfold maxLen; omega) (by omega) (HB6.out.size) ?_; intro W6 w7 ho7 hg7; rw [show k + 1 + (N - k) = N + 1 by omega] at ho7; obtain ⟨a7, c7, rfl, _⟩ := own_form ho7; have HB7 : Hid (Below wr.heap.size wr w7) := Kept.below HB6.out HB6.out.size (kept_row hg7) (fun b e => (HO6.out.lt b e).1); have bZ7 := blk_below bZ HB7.out; have y0 := blk_cell bZ7 0 _ rfl; have y1 := blk_cell bZ7 1 _ rfl; have y2 := blk_cell bZ7 2 _ rfl; have y3 := blk_cell bZ7 3 _ rfl; have f0 := blk_free bZ7 0; have f1 := blk_free bZ7 1; have f2 := blk_free bZ7 2; have f3 := blk_free bZ7 3))
            have HO7 : Hid (OwnClks w7 w1.heap.size (.slice a7 (N + 1) c7) (N + 1) (insC S k (freshC nm num)) (insC R k (.slice none 0 0))) := HO.out.insNew (x := freshC nm num) (by omega) rfl HB7.out (own_base ho7 HW4.out)
            replace HO := HO7
            replace bZ := bZ7
            replace bw := after bw HB7.out
            clear ho7 hg7 HO6 HB6 HO7 HB7 y0 y1 y2 y3 f0 f1 f2 f3
            have rF := ans_set bZ (.int .i64 0) (.int .i64 0) (.int .i64 0) (.slice none 0 0)
            have hkF : Kept w7 ((((w7.setCell ⟨zB, 0, none⟩ (.int .i64 0)).setCell ⟨zB, 1, none⟩ (.int .i64 0)).setCell ⟨zB, 2, none⟩ (.int .i64 0)).setCell ⟨zB, 3, none⟩ (.slice none 0 0)) (fun b => b = zB) := (((((Kept.refl w7 (fun b => b = zB)).set (a := ⟨zB, 0, none⟩) rfl _).set (a := ⟨zB, 1, none⟩) rfl _).set (a := ⟨zB, 2, none⟩) rfl _).set (a := ⟨zB, 3, none⟩) rfl _)
            have hOF := OwnClks.keep HO.out hkF (fun b hb e => by have e : b = zB := e; have := (OwnClks.blocks HO.out b hb).1; have := HzB.out; omega)
            have hbF : Below w.heap.size w ((((w7.setCell ⟨zB, 0, none⟩ (.int .i64 0)).setCell ⟨zB, 1, none⟩ (.int .i64 0)).setCell ⟨zB, 2, none⟩ (.int .i64 0)).setCell ⟨zB, 3, none⟩ (.slice none 0 0)) := Kept.below bw bw.size hkF (fun b e => by have e : b = zB := e; have := HzE.out; omega)
            generalize ((((w7.setCell ⟨zB, 0, none⟩ (.int .i64 0)).setCell ⟨zB, 1, none⟩ (.int .i64 0)).setCell ⟨zB, 2, none⟩ (.int .i64 0)).setCell ⟨zB, 3, none⟩ (.slice none 0 0)) = F at rF hkF hOF hbF ⊢
            have z0 := blk_cell rF 0 _ rfl
            have z1 := blk_cell rF 1 _ rfl
            have z2 := blk_cell rF 2 _ rfl
            have z3 := blk_cell rF 3 _ rfl
            exact bodyPost_ret (v := .tuple #[_, .agg #[.int .i64 0, .int .i64 0, .int .i64 0, .slice none 0 0], .int .i64 0]) (by simp [results, Try.results10, go_sem, z0, z1, z2, z3]) rfl ⟨⟨_, _, (N + 1), _, _, ansZero, 0, rfl, AskOut.zero hOF HW1.out, .inr ⟨HG.out, (-1 : Int), hp.out, .inr (.inl ⟨HOK.out, by decide, rfl, ⟨k, HINS.out, fun _ _ => rfl⟩, rfl, rfl⟩)⟩⟩, hbF⟩
        · have dk : decide ((k : Int) < (N : Int)) = false := by simp; omega
          have HINS : Hid (InsAt N S nm k) := ⟨hk, HLT.out, fun h => absurd h hkN⟩
          obtain ⟨hcv, hcm, hnil⟩ : N ≤ cv ∧ cv ≤ 9223372036854775807 ∧ (av = none → N = 0 ∧ cv = 0) := by obtain ⟨_, _, e9, l1, l2, l3⟩ := own_form HO.out.row; cases e9; unfold maxLen at l2; exact ⟨l1, by omega, l3⟩
          obtain rfl : k = N := by omega
          clear hkN hk
          cases av with
          | none =>
            obtain ⟨h0, h1⟩ := hnil rfl
            obtain rfl : k = cv := by omega
            have HK0 : Hid (k = 0 ∧ k = 0) := ⟨h0, h0⟩
            clear h0 h1 hnil hcv
            have p0 : (0 : Int) ≤ (k : Int) := by omega
            have p1 : (k : Int) ≤ (k : Int) := by omega
            have p2 : (k : Int) ≤ (k : Int) := by omega
            go_upto_region 14 with (first | (at_builtin; refine wpList_append_any _ (by rfl) (.tmp 65) (.tmp 68) 23 (by rfl) wr.heap.size 68 ik0 (.agg #[.string ⟨#[]⟩, .int .i64 0, .bool false, .int .i64 0, .int .i64 0, .int .i64 0, .slice none 0 0]) 7 80 Try.underlying23 iki ikz0 ikz1 ikz2 rfl (by decide) _ 0 [] (by rfl) (World.ownsRow_nil _ _ _ _) none k k ((List.range (k * 7)).map (clkCell S R)) (by rfl) (fun _ => HK0.out) (by simp) (fun ad h => by cases h) (clkRow_one S R k (fun i hi => HR1.out i (by omega))) (by unfold maxLen; omega) (by omega) (Nat.le_refl _) ?_; intro v5 w5 ho5 hg5; rw [Nat.zero_add, List.nil_append] at ho5; obtain ⟨a5, c5, rfl, _⟩ := own_form ho5))
            have hb5 : Below wr.heap.size wr w5 := Kept.below (Below.refl wr.heap.size wr) (Nat.le_refl _) (kept_row hg5) (fun b e => by cases e)
            have bF5 := blk_below bF hb5
            have HO5 : Hid ((w5.alloc (.cells #[.string nm, .int .i64 num, .bool true, .int .i64 0, .int .i64 0, .int .i64 0, .slice none 0 0] 68)).ownsRow wr.heap.size 68 7 (.slice a5 k c5) k ((List.range (k * 7)).map (clkCell S R))) := own_below (push (Below.refl _ _) _) ho5
            have hb5a : Below wr.heap.size wr (w5.alloc (.cells #[.string nm, .int .i64 num, .bool true, .int .i64 0, .int .i64 0, .int .i64 0, .slice none 0 0] 68)) := push hb5 _
            clear ho5 hg5 b0 b1 b2 b3 b4 b5 b6
            have b0 := blk_cell bF5 0 _ rfl
            have b1 := blk_cell bF5 1 _ rfl
            have b2 := blk_cell bF5 2 _ rfl
            have b3 := blk_cell bF5 3 _ rfl
            have b4 := blk_cell bF5 4 _ rfl
            have b5 := blk_cell bF5 5 _ rfl
            have b6 := blk_cell bF5 6 _ rfl
            go_upto_region 15 with (first | (at_builtin; refine wpList_append_any _ (by rfl) (.tmp 70) (.tmp 72) 23 (by rfl) wr.heap.size 68 ik0 (.agg #[.string ⟨#[]⟩, .int .i64 0, .bool false, .int .i64 0, .int .i64 0, .int .i64 0, .slice none 0 0]) 7 80 Try.underlying23 iki ikz0 ikz1 ikz2 rfl (by decide) _ k ((List.range (k * 7)).map (clkCell S R)) (by rfl) HO5.out (some ⟨w5.heap.size, 0, none⟩) 1 1 [.string nm, .int .i64 num, .bool true, .int .i64 0, .int .i64 0, .int .i64 0, .slice none 0 0] (by rfl) (fun h => by cases h) (by rfl) (fun ad h => by cases h; exact World.news_of_block (heap_alloc_new w5 _)) (by intro u hu; simp only [List.mem_cons, List.not_mem_nil, or_false] at hu; rcases hu with rfl | rfl | rfl | rfl | rfl | rfl | rfl <;> rfl) (by unfold maxLen; omega) (by omega) (by have := hb5a.size; omega) ?_; intro v6 w6 ho6 hg6; obtain ⟨a6, c6, rfl, _⟩ := own_form ho6))
            have HB6 : Hid (Below wr.heap.size wr w6) := Kept.below hb5a hb5a.size (kept_row hg6) (fun b e => (HO5.out.lt b e).1)
            have HO6 : Hid (w6.ownsRow wr.heap.size 68 7 (.slice a6 (k + 1) c6) (k + 1) (((List.range (k * 7)).map (clkCell S R)) ++ [.string nm, .int .i64 num, .bool true, .int .i64 0, .int .i64 0, .int .i64 0, .slice none 0 0])) := ho6
            clear ho6 hg6 b0 b1 b2 b3 b4 b5 b6 bF5 hb5 hb5a HO5
            go_wp2_with (first | (at_builtin; refine wpList_append_any _ (by rfl) (.tmp 74) (.tmp 77) 23 (by rfl) wr.heap.size 68 ik0 (.agg #[.string ⟨#[]⟩, .int .i64 0, .bool false, .int .i64 0, .int .i64 0, .int .i64 0, .slice none 0 0]) 7 80 Try.underlying23 iki ikz0 ikz1 ikz2 rfl (by decide) _ (k + 1) (((List.range (k * 7)).map (clkCell S R)) ++ [.string nm, .int .i64 num, .bool true, .int .i64 0, .int .i64 0, .int .i64 0, .slice none 0 0]) (by rfl) HO6.out none 0 0 [] (by rfl) (fun _ => ⟨rfl, rfl⟩) rfl (fun ad h j u hj => by cases hj) (fun u hu => by cases hu) (by unfold maxLen; omega) (by omega) (HB6.out.size) ?_; intro W6 w7 ho7 hg7; rw [Nat.add_zero] at ho7; obtain ⟨a7, c7, rfl, _⟩ := own_form ho7; have HB7 : Hid (Below wr.heap.size wr w7) := Kept.below HB6.out HB6.out.size (kept_row hg7) (fun b e => (HO6.out.lt b e).1); have bZ7 := blk_below bZ HB7.out; have y0 := blk_cell bZ7 0 _ rfl; have y1 := blk_cell bZ7 1 _ rfl; have y2 := blk_cell bZ7 2 _ rfl; have y3 := blk_cell bZ7 3 _ rfl; have f0 := blk_free bZ7 0; have f1 := blk_free bZ7 1; have f2 := blk_free bZ7 2; have f3 := blk_free bZ7 3))
            have HO7 : Hid (OwnClks w7 w1.heap.size (.slice a7 (k + 1) c7) (k + 1) (insC S k (freshC nm num)) (insC R k (.slice none 0 0))) := HO.out.insNew (x := freshC nm num) (by omega) rfl HB7.out (own_base (by rw [clkFrom_none]; exact ho7) HW4.out)
            replace HO := HO7
            replace bZ := bZ7
            replace bw := after bw HB7.out
            clear ho7 hg7 HO6 HB6 HO7 HB7 y0 y1 y2 y3 f0 f1 f2 f3
            have rF := ans_set bZ (.int .i64 0) (.int .i64 0) (.int .i64 0) (.slice none 0 0)
            have hkF : Kept w7 ((((w7.setCell ⟨zB, 0, none⟩ (.int .i64 0)).setCell ⟨zB, 1, none⟩ (.int .i64 0)).setCell ⟨zB, 2, none⟩ (.int .i64 0)).setCell ⟨zB, 3, none⟩ (.slice none 0 0)) (fun b => b = zB) := (((((Kept.refl w7 (fun b => b = zB)).set (a := ⟨zB, 0, none⟩) rfl _).set (a := ⟨zB, 1, none⟩) rfl _).set (a := ⟨zB, 2, none⟩) rfl _).set (a := ⟨zB, 3, none⟩) rfl _)
            have hOF := OwnClks.keep HO.out hkF (fun b hb e => by have e : b = zB := e; have := (OwnClks.blocks HO.out b hb).1; have := HzB.out; omega)
            have hbF : Below w.heap.size w ((((w7.setCell ⟨zB, 0, none⟩ (.int .i64 0)).setCell ⟨zB, 1, none⟩ (.int .i64 0)).setCell ⟨zB, 2, none⟩ (.int .i64 0)).setCell ⟨zB, 3, none⟩ (.slice none 0 0)) := Kept.below bw bw.size hkF (fun b e => by have e : b = zB := e; have := HzE.out; omega)
            generalize ((((w7.setCell ⟨zB, 0, none⟩ (.int .i64 0)).setCell ⟨zB, 1, none⟩ (.int .i64 0)).setCell ⟨zB, 2, none⟩ (.int .i64 0)).setCell ⟨zB, 3, none⟩ (.slice none 0 0)) = F at rF hkF hOF hbF ⊢
            have z0 := blk_cell rF 0 _ rfl
            have z1 := blk_cell rF 1 _ rfl
            have z2 := blk_cell rF 2 _ rfl
            have z3 := blk_cell rF 3 _ rfl
            exact bodyPost_ret (v := .tuple #[_, .agg #[.int .i64 0, .int .i64 0, .int .i64 0, .slice none 0 0], .int .i64 0]) (by simp [results, Try.results10, go_sem, z0, z1, z2, z3]) rfl ⟨⟨_, _, (k + 1), _, _, ansZero, 0, rfl, AskOut.zero hOF HW1.out, .inr ⟨HG.out, (-1 : Int), hp.out, .inr (.inl ⟨HOK.out, by decide, rfl, ⟨k, HINS.out, fun _ _ => rfl⟩, rfl, rfl⟩)⟩⟩, hbF⟩
          | some ad =>
            clear hnil
            obtain ⟨g, rfl, hg1, hg2⟩ := own_some HO.out.row
            by_cases hck : k = cv
            · subst hck
              have HCE : Hid (∀ j, j < k * 7 → ∀ W, Below wr.heap.size wr W → W.cell? ⟨g, j, none⟩ = some (clkCell S R j)) := fun j hj W hW => (hW.cell (p := ⟨g, j, none⟩) (HO.out.row.lt g rfl).2).trans (own_cell HO.out.row j hj rfl)
              have p0 : (0 : Int) ≤ (k : Int) := by omega
              have p1 : (k : Int) ≤ (k : Int) := by omega
              have p2 : (k : Int) ≤ (k : Int) := by omega
              go_upto_region 14 with (first | (at_builtin; refine wpList_append_any _ (by rfl) (.tmp 65) (.tmp 68) 23 (by rfl) wr.heap.size 68 ik0 (.agg #[.string ⟨#[]⟩, .int .i64 0, .bool false, .int .i64 0, .int .i64 0, .int .i64 0, .slice none 0 0]) 7 80 Try.underlying23 iki ikz0 ikz1 ikz2 rfl (by decide) _ 0 [] (by rfl) (World.ownsRow_nil _ _ _ _) (some ⟨g, 0, none⟩) k k ((List.range (k * 7)).map (clkCell S R)) (by rfl) (fun h => by cases h) (by simp) (fun ad h j u hj => by cases h; obtain ⟨h1, rfl⟩ := clkTo_get hj; rw [Addr.add_lit, Nat.zero_add]; exact HCE.out j (by omega) _ (Below.refl _ _)) (clkRow_one S R k (fun i hi => HR1.out i (by omega))) (by unfold maxLen; omega) (by omega) (Nat.le_refl _) ?_; intro v5 w5 ho5 hg5; rw [Nat.zero_add, List.nil_append] at ho5; obtain ⟨a5, c5, rfl, _⟩ := own_form ho5))
              have hb5 : Below wr.heap.size wr w5 := Kept.below (Below.refl wr.heap.size wr) (Nat.le_refl _) (kept_row hg5) (fun b e => by cases e)
              have bF5 := blk_below bF hb5
              have HO5 : Hid ((w5.alloc (.cells #[.string nm, .int .i64 num, .bool true, .int .i64 0, .int .i64 0, .int .i64 0, .slice none 0 0] 68)).ownsRow wr.heap.size 68 7 (.slice a5 k c5) k ((List.range (k * 7)).map (clkCell S R))) := own_below (push (Below.refl _ _) _) ho5
              have hb5a : Below wr.heap.size wr (w5.alloc (.cells #[.string nm, .int .i64 num, .bool true, .int .i64 0, .int .i64 0, .int .i64 0, .slice none 0 0] 68)) := push hb5 _
              clear ho5 hg5 b0 b1 b2 b3 b4 b5 b6
              have b0 := blk_cell bF5 0 _ rfl
              have b1 := blk_cell bF5 1 _ rfl
              have b2 := blk_cell bF5 2 _ rfl
              have b3 := blk_cell bF5 3 _ rfl
              have b4 := blk_cell bF5 4 _ rfl
              have b5 := blk_cell bF5 5 _ rfl
              have b6 := blk_cell bF5 6 _ rfl
              go_upto_region 15 with (first | (at_builtin; refine wpList_append_any _ (by rfl) (.tmp 70) (.tmp 72) 23 (by rfl) wr.heap.size 68 ik0 (.agg #[.string ⟨#[]⟩, .int .i64 0, .bool false, .int .i64 0, .int .i64 0, .int .i64 0, .slice none 0 0]) 7 80 Try.underlying23 iki ikz0 ikz1 ikz2 rfl (by decide) _ k ((List.range (k * 7)).map (clkCell S R)) (by rfl) HO5.out (some ⟨w5.heap.size, 0, none⟩) 1 1 [.string nm, .int .i64 num, .bool true, .int .i64 0, .int .i64 0, .int .i64 0, .slice none 0 0] (by rfl) (fun h => by cases h) (by rfl) (fun ad h => by cases h; exact World.news_of_block (heap_alloc_new w5 _)) (by intro u hu; simp only [List.mem_cons, List.not_mem_nil, or_false] at hu; rcases hu with rfl | rfl | rfl | rfl | rfl | rfl | rfl <;> rfl) (by unfold maxLen; omega) (by omega) (by have := hb5a.size; omega) ?_; intro v6 w6 ho6 hg6; obtain ⟨a6, c6, rfl, _⟩ := own_form ho6))
              have HB6 : Hid (Below wr.heap.size wr w6) := Kept.below hb5a hb5a.size (kept_row hg6) (fun b e => (HO5.out.lt b e).1)
              have HO6 : Hid (w6.ownsRow wr.heap.size 68 7 (.slice a6 (k + 1) c6) (k + 1) (((List.range (k * 7)).map (clkCell S R)) ++ [.string nm, .int .i64 num, .bool true, .int .i64 0, .int .i64 0, .int .i64 0, .slice none 0 0])) := ho6
              clear ho6 hg6 b0 b1 b2 b3 b4 b5 b6 bF5 hb5 hb5a HO5
              go_wp2_with (first | (at_builtin; refine wpList_append_any _ (by rfl) (.tmp 74) (.tmp 77) 23 (by rfl) wr.heap.size 68 ik0 (.agg #[.string ⟨#[]⟩, .int .i64 0, .bool false, .int .i64 0, .int .i64 0, .int .i64 0, .slice none 0 0]) 7 80 Try.underlying23 iki ikz0 ikz1 ikz2 rfl (by decide) _ (k + 1) (((List.range (k * 7)).map (clkCell S R)) ++ [.string nm, .int .i64 num, .bool true, .int .i64 0, .int .i64 0, .int .i64 0, .slice none 0 0]) (by rfl) HO6.out (some ⟨g, 0, none⟩) 0 0 [] (by rfl) (fun h => by cases h) rfl (fun ad h j u hj => by cases hj) (fun u hu => by cases hu) (by unfold maxLen; omega) (by omega) (HB6.out.size) ?_; intro W6 w7 ho7 hg7; rw [Nat.add_zero] at ho7; obtain ⟨a7, c7, rfl, _⟩ := own_form ho7; have HB7 : Hid (Below wr.heap.size wr w7) := Kept.below HB6.out HB6.out.size (kept_row hg7) (fun b e => (HO6.out.lt b e).1); have bZ7 := blk_below bZ HB7.out; have y0 := blk_cell bZ7 0 _ rfl; have y1 := blk_cell bZ7 1 _ rfl; have y2 := blk_cell bZ7 2 _ rfl; have y3 := blk_cell bZ7 3 _ rfl; have f0 := blk_free bZ7 0; have f1 := blk_free bZ7 1; have f2 := blk_free bZ7 2; have f3 := blk_free bZ7 3))
              have HO7 : Hid (OwnClks w7 w1.heap.size (.slice a7 (k + 1) c7) (k + 1) (insC S k (freshC nm num)) (insC R k (.slice none 0 0))) := HO.out.insNew (x := freshC nm num) (by omega) rfl HB7.out (own_base (by rw [clkFrom_none]; exact ho7) HW4.out)
              replace HO := HO7
              replace bZ := bZ7
              replace bw := after bw HB7.out
              clear ho7 hg7 HO6 HB6 HO7 HB7 y0 y1 y2 y3 f0 f1 f2 f3
              have rF := ans_set bZ (.int .i64 0) (.int .i64 0) (.int .i64 0) (.slice none 0 0)
              have hkF : Kept w7 ((((w7.setCell ⟨zB, 0, none⟩ (.int .i64 0)).setCell ⟨zB, 1, none⟩ (.int .i64 0)).setCell ⟨zB, 2, none⟩ (.int .i64 0)).setCell ⟨zB, 3, none⟩ (.slice none 0 0)) (fun b => b = zB) := (((((Kept.refl w7 (fun b => b = zB)).set (a := ⟨zB, 0, none⟩) rfl _).set (a := ⟨zB, 1, none⟩) rfl _).set (a := ⟨zB, 2, none⟩) rfl _).set (a := ⟨zB, 3, none⟩) rfl _)
              have hOF := OwnClks.keep HO.out hkF (fun b hb e => by have e : b = zB := e; have := (OwnClks.blocks HO.out b hb).1; have := HzB.out; omega)
              have hbF : Below w.heap.size w ((((w7.setCell ⟨zB, 0, none⟩ (.int .i64 0)).setCell ⟨zB, 1, none⟩ (.int .i64 0)).setCell ⟨zB, 2, none⟩ (.int .i64 0)).setCell ⟨zB, 3, none⟩ (.slice none 0 0)) := Kept.below bw bw.size hkF (fun b e => by have e : b = zB := e; have := HzE.out; omega)
              generalize ((((w7.setCell ⟨zB, 0, none⟩ (.int .i64 0)).setCell ⟨zB, 1, none⟩ (.int .i64 0)).setCell ⟨zB, 2, none⟩ (.int .i64 0)).setCell ⟨zB, 3, none⟩ (.slice none 0 0)) = F at rF hkF hOF hbF ⊢
              have z0 := blk_cell rF 0 _ rfl
              have z1 := blk_cell rF 1 _ rfl
              have z2 := blk_cell rF 2 _ rfl
              have z3 := blk_cell rF 3 _ rfl
              exact bodyPost_ret (v := .tuple #[_, .agg #[.int .i64 0, .int .i64 0, .int .i64 0, .slice none 0 0], .int .i64 0]) (by simp [results, Try.results10, go_sem, z0, z1, z2, z3]) rfl ⟨⟨_, _, (k + 1), _, _, ansZero, 0, rfl, AskOut.zero hOF HW1.out, .inr ⟨HG.out, (-1 : Int), hp.out, .inr (.inl ⟨HOK.out, by decide, rfl, ⟨k, HINS.out, fun _ _ => rfl⟩, rfl, rfl⟩)⟩⟩, hbF⟩
            · have hne : ¬ (cv = k) := fun e => hck e.symm
              clear hck
              have HCE : Hid (∀ j, j < k * 7 → ∀ W, Below wr.heap.size wr W → W.cell? ⟨g, j, none⟩ = some (clkCell S R j)) := fun j hj W hW => (hW.cell (p := ⟨g, j, none⟩) (HO.out.row.lt g rfl).2).trans (own_cell HO.out.row j hj rfl)
              have p0 : (0 : Int) ≤ (k : Int) := by omega
              have p1 : (k : Int) ≤ (cv : Int) := by omega
              have p2 : (k : Int) ≤ (k : Int) := by omega
              go_upto_region 14 with (first | (at_builtin; refine wpList_append_any _ (by rfl) (.tmp 65) (.tmp 68) 23 (by rfl) wr.heap.size 68 ik0 (.agg #[.string ⟨#[]⟩, .int .i64 0, .bool false, .int .i64 0, .int .i64 0, .int .i64 0, .slice none 0 0]) 7 80 Try.underlying23 iki ikz0 ikz1 ikz2 rfl (by decide) _ 0 [] (by rfl) (World.ownsRow_nil _ _ _ _) (some ⟨g, 0, none⟩) k cv ((List.range (k * 7)).map (clkCell S R)) (by rfl) (fun h => by cases h) (by simp) (fun ad h j u hj => by cases h; obtain ⟨h1, rfl⟩ := clkTo_get hj; rw [Addr.add_lit, Nat.zero_add]; exact HCE.out j (by omega) _ (Below.refl _ _)) (clkRow_one S R k (fun i hi => HR1.out i (by omega))) (by unfold maxLen; omega) (by omega) (Nat.le_refl _) ?_; intro v5 w5 ho5 hg5; rw [Nat.zero_add, List.nil_append] at ho5; obtain ⟨a5, c5, rfl, _⟩ := own_form ho5))
              have hb5 : Below wr.heap.size wr w5 := Kept.below (Below.refl wr.heap.size wr) (Nat.le_refl _) (kept_row hg5) (fun b e => by cases e)
              have bF5 := blk_below bF hb5
              have HO5 : Hid ((w5.alloc (.cells #[.string nm, .int .i64 num, .bool true, .int .i64 0, .int .i64 0, .int .i64 0, .slice none 0 0] 68)).ownsRow wr.heap.size 68 7 (.slice a5 k c5) k ((List.range (k * 7)).map (clkCell S R))) := own_below (push (Below.refl _ _) _) ho5
              have hb5a : Below wr.heap.size wr (w5.alloc (.cells #[.string nm, .int .i64 num, .bool true, .int .i64 0, .int .i64 0, .int .i64 0, .slice none 0 0] 68)) := push hb5 _
              clear ho5 hg5 b0 b1 b2 b3 b4 b5 b6
              have b0 := blk_cell bF5 0 _ rfl
              have b1 := blk_cell bF5 1 _ rfl
              have b2 := blk_cell bF5 2 _ rfl
              have b3 := blk_cell bF5 3 _ rfl
              have b4 := blk_cell bF5 4 _ rfl
              have b5 := blk_cell bF5 5 _ rfl
              have b6 := blk_cell bF5 6 _ rfl
              go_upto_region 15 with (first | (at_builtin; refine wpList_append_any _ (by rfl) (.tmp 70) (.tmp 72) 23 (by rfl) wr.heap.size 68 ik0 (.agg #[.string ⟨#[]⟩, .int .i64 0, .bool false, .int .i64 0, .int .i64 0, .int .i64 0, .slice none 0 0]) 7 80 Try.underlying23 iki ikz0 ikz1 ikz2 rfl (by decide) _ k ((List.range (k * 7)).map (clkCell S R)) (by rfl) HO5.out (some ⟨w5.heap.size, 0, none⟩) 1 1 [.string nm, .int .i64 num, .bool true, .int .i64 0, .int .i64 0, .int .i64 0, .slice none 0 0] (by rfl) (fun h => by cases h) (by rfl) (fun ad h => by cases h; exact World.news_of_block (heap_alloc_new w5 _)) (by intro u hu; simp only [List.mem_cons, List.not_mem_nil, or_false] at hu; rcases hu with rfl | rfl | rfl | rfl | rfl | rfl | rfl <;> rfl) (by unfold maxLen; omega) (by omega) (by have := hb5a.size; omega) ?_; intro v6 w6 ho6 hg6; obtain ⟨a6, c6, rfl, _⟩ := own_form ho6))
              have HB6 : Hid (Below wr.heap.size wr w6) := Kept.below hb5a hb5a.size (kept_row hg6) (fun b e => (HO5.out.lt b e).1)
              have HO6 : Hid (w6.ownsRow wr.heap.size 68 7 (.slice a6 (k + 1) c6) (k + 1) (((List.range (k * 7)).map (clkCell S R)) ++ [.string nm, .int .i64 num, .bool true, .int .i64 0, .int .i64 0, .int .i64 0, .slice none 0 0])) := ho6
              clear ho6 hg6 b0 b1 b2 b3 b4 b5 b6 bF5 hb5 hb5a HO5
              go_wp2_with (first | (at_builtin; refine wpList_append_any _ (by rfl) (.tmp 74) (.tmp 77) 23 (by rfl) wr.heap.size 68 ik0 (.agg #[.string ⟨#[]⟩, .int .i64 0, .bool false, .int .i64 0, .int .i64 0, .int .i64 0, .slice none 0 0]) 7 80 Try.underlying23 iki ikz0 ikz1 ikz2 rfl (by decide) _ (k + 1) (((List.range (k * 7)).map (clkCell S R)) ++ [.string nm, .int .i64 num, .bool true, .int .i64 0, .int .i64 0, .int .i64 0, .slice none 0 0]) (by rfl) HO6.out (some ⟨g, k * 7, none⟩) 0 (cv - k) [] (by rfl) (fun h => by cases h) rfl (fun ad h j u hj => by cases hj) (fun u hu => by cases hu) (by unfold maxLen; omega) (by omega) (HB6.out.size) ?_; intro W6 w7 ho7 hg7; rw [Nat.add_zero] at ho7; obtain ⟨a7, c7, rfl, _⟩ := own_form ho7; have HB7 : Hid (Below wr.heap.size wr w7) := Kept.below HB6.out HB6.out.size (kept_row hg7) (fun b e => (HO6.out.lt b e).1); have bZ7 := blk_below bZ HB7.out; have y0 := blk_cell bZ7 0 _ rfl; have y1 := blk_cell bZ7 1 _ rfl; have y2 := blk_cell bZ7 2 _ rfl; have y3 := blk_cell bZ7 3 _ rfl; have f0 := blk_free bZ7 0; have f1 := blk_free bZ7 1; have f2 := blk_free bZ7 2; have f3 := blk_free bZ7 3))
              have HO7 : Hid (OwnClks w7 w1.heap.size (.slice a7 (k + 1) c7) (k + 1) (insC S k (freshC nm num)) (insC R k (.slice none 0 0))) := HO.out.insNew (x := freshC nm num) (by omega) rfl HB7.out (own_base (by rw [clkFrom_none]; exact ho7) HW4.out)
              replace HO := HO7
              replace bZ := bZ7
              replace bw := after bw HB7.out
              clear ho7 hg7 HO6 HB6 HO7 HB7 y0 y1 y2 y3 f0 f1 f2 f3
              have rF := ans_set bZ (.int .i64 0) (.int .i64 0) (.int .i64 0) (.slice none 0 0)
              have hkF : Kept w7 ((((w7.setCell ⟨zB, 0, none⟩ (.int .i64 0)).setCell ⟨zB, 1, none⟩ (.int .i64 0)).setCell ⟨zB, 2, none⟩ (.int .i64 0)).setCell ⟨zB, 3, none⟩ (.slice none 0 0)) (fun b => b = zB) := (((((Kept.refl w7 (fun b => b = zB)).set (a := ⟨zB, 0, none⟩) rfl _).set (a := ⟨zB, 1, none⟩) rfl _).set (a := ⟨zB, 2, none⟩) rfl _).set (a := ⟨zB, 3, none⟩) rfl _)
              have hOF := OwnClks.keep HO.out hkF (fun b hb e => by have e : b = zB := e; have := (OwnClks.blocks HO.out b hb).1; have := HzB.out; omega)
              have hbF : Below w.heap.size w ((((w7.setCell ⟨zB, 0, none⟩ (.int .i64 0)).setCell ⟨zB, 1, none⟩ (.int .i64 0)).setCell ⟨zB, 2, none⟩ (.int .i64 0)).setCell ⟨zB, 3, none⟩ (.slice none 0 0)) := Kept.below bw bw.size hkF (fun b e => by have e : b = zB := e; have := HzE.out; omega)
              generalize ((((w7.setCell ⟨zB, 0, none⟩ (.int .i64 0)).setCell ⟨zB, 1, none⟩ (.int .i64 0)).setCell ⟨zB, 2, none⟩ (.int .i64 0)).setCell ⟨zB, 3, none⟩ (.slice none 0 0)) = F at rF hkF hOF hbF ⊢
              have z0 := blk_cell rF 0 _ rfl
              have z1 := blk_cell rF 1 _ rfl
              have z2 := blk_cell rF 2 _ rfl
              have z3 := blk_cell rF 3 _ rfl
              exact bodyPost_ret (v := .tuple #[_, .agg #[.int .i64 0, .int .i64 0, .int .i64 0, .slice none 0 0], .int .i64 0]) (by simp [results, Try.results10, go_sem, z0, z1, z2, z3]) rfl ⟨⟨_, _, (k + 1), _, _, ansZero, 0, rfl, AskOut.zero hOF HW1.out, .inr ⟨HG.out, (-1 : Int), hp.out, .inr (.inl ⟨HOK.out, by decide, rfl, ⟨k, HINS.out, fun _ _ => rfl⟩, rfl, rfl⟩)⟩⟩, hbF⟩

end Go.Proofs.Ytogbaoggebghdaa

namespace Go.Proofs.Ytogbaoggebghdaa
open Go.RowKit Classical

set_option maxHeartbeats 6400000 in
set_option maxRecDepth 100000 in
theorem specSettle_any (ao : Option Addr) (N c : Nat) (S : Nat → ClkD) (nm : ByteArray) (a : AnsD) (arw : Option Addr) (crw : Nat) (w : World) (hN : N ≤ 1048576) (hs : ClkDsShort N S 1048576) (hx : ClkDsAt w ao N S) (han : a.rwn ≤ 1048576) (hr : MRowsAt w arw a.rwn a.rw) (hnil : arw = none → a.rwn = 0 ∧ crw = 0) :
    Calls Try.prog 25 #[.slice ao N c, .string nm, .agg #[.int .i64 a.code, .int .i64 a.anam, .int .i64 a.price, .slice arw a.rwn crw]] w fun e w' => (∃ v N' S' R z, e = .returned (.tuple #[v, .int .i64 z]) ∧ OwnClks w' w.heap.size v N' S' R ∧ Hid (SettleIs N S nm a N' S' z)) ∧ Below w.heap.size w w' := by
  have HX : Hid (ClkDsAt w ao N S) := hx
  have HS : Hid (ClkDsShort N S 1048576) := hs
  have HR : Hid (MRowsAt w arw a.rwn a.rw) := hr
  have HNL : Hid (arw = none → a.rwn = 0 ∧ crw = 0) := hnil
  clear hx hs hr hnil
  obtain ⟨q, hq⟩ : ∃ q : Bool, q = clerksOk N S := ⟨_, rfl⟩
  have HQ : Hid (clerksOk N S = q) := hq.symm
  have HV : Hid (q = true ↔ ClerksOk N S) := by rw [hq]; exact decide_eq_true_iff
  clear hq
  have bX := heap_alloc_new w (.cells #[.int .i64 a.code, .int .i64 a.anam, .int .i64 a.price, .slice arw a.rwn crw] 28)
  have hb0 : Below w.heap.size w (w.alloc (.cells #[.int .i64 a.code, .int .i64 a.anam, .int .i64 a.price, .slice arw a.rwn crw] 28)) := push (Below.refl _ _) _
  go_enter Try.func25, Try.ntmps25
  go_upto_region 1 with fail
  generalize w.alloc (.cells #[.int .i64 a.code, .int .i64 a.anam, .int .i64 a.price, .slice arw a.rwn crw] 28) = W0 at bX hb0 ⊢
  obtain ⟨xB, hxB⟩ : ∃ u, u = w.heap.size := ⟨_, rfl⟩
  rw [← hxB] at bX ⊢
  have HxB : Hid (xB = w.heap.size) := hxB
  clear hxB
  go_wp2_with fail
  refine (specGoodC_any ao N c S _ hN HS.out (HX.out.below (HxB.out ▸ hb0))).mono ?_
  rintro e w1 ⟨he, hb1⟩
  rw [HQ.out] at he
  subst he
  clear HQ
  have bw1 : Below w.heap.size w w1 := after hb0 hb1
  have bX1 := blk_below bX hb1
  clear hb0 hb1 bX
  cases q with
  | false =>
    have HG : Hid (¬ ClerksOk N S) := fun h => by have := HV.out.2 h; cases this
    go_wp2
    exact bodyPost_ret (v := .tuple #[.slice none 0 0, .int .i64 2]) (by simp [results, Try.results25, go_sem]) rfl ⟨⟨_, 0, S, fun _ => .slice none 0 0, 2, rfl, OwnClks.nil _ _ _ _, .inl ⟨HG.out, rfl, rfl⟩⟩, bw1⟩
  | true =>
    have HG : Hid (ClerksOk N S) := HV.out.1 rfl
    clear HV
    go_wp2_with fail
    refine (l10Own_any ao N c S _ hN HS.out (HX.out.below bw1)).mono ?_
    rintro e w2 ⟨⟨av, cv, R, rfl, hO⟩, hb2⟩
    have bw2 := after bw1 hb2
    have bX2 := blk_below bX1 hb2
    have hO2 : OwnClks w2 w.heap.size (.slice av N cv) N S R := hO.lower bw1.size
    have HW1 : Hid (w.heap.size ≤ w1.heap.size) := bw1.size
    have HSEP : Hid (xB < w1.heap.size) := blk_lt bX1
    have HO1 : Hid (OwnClks w2 w1.heap.size (.slice av N cv) N S R) := hO
    clear hb2 bX1 hO bw1
    go_wp2_with fail
    refine (l10At_any av N cv S nm _ hN hO2.at).mono ?_
    rintro e w3 ⟨⟨p, rfl, hp⟩, hb3⟩
    have bw3 := after bw2 hb3
    have bX3 := blk_below bX2 hb3
    have hO3 := hO2.below hb3
    have HO3 : Hid (OwnClks w3 w1.heap.size (.slice av N cv) N S R) := HO1.out.below hb3
    clear hb3 bw2 bX2 hO2 HO1
    rcases hp.out with ⟨k, hk, rfl, _⟩ | ⟨rfl, _⟩
    · obtain ⟨g, rfl, hg1, hg2⟩ := own_addr HO3.out.row (by omega)
      have c2 := own_cell HO3.out.row (k * 7 + 2) (by omega) rfl
      rw [clkCell_2] at c2
      have i0 : (0 : Int) ≤ (k : Int) := by omega
      have i2 : (k : Int) < (N : Int) := by omega
      have dk : decide ((k : Int) < 0) = false := by simp
      cases ho : (S k).opn with
      | false =>
        rw [ho] at c2
        go_wp2
        exact bodyPost_ret (v := .tuple #[_, .int .i64 3]) (by simp [results, Try.results25, go_sem]) rfl ⟨⟨_, N, S, R, 3, rfl, hO3, .inr ⟨HG.out, rfl, k, hp.out, .inr ⟨.inr ⟨k, hk, rfl, ho⟩, rfl, fun _ _ => rfl⟩⟩⟩, bw3⟩
      | true =>
        rw [ho] at c2
        have f2 : w3.frozen? ⟨g, k * 7 + 2, none⟩ = false := HO3.out.row.frozenAt (k * 7 + 2)
        have HSX : Hid (xB ≠ g) := fun e => by have := HSEP.out; omega
        have hk4 : Kept w3 (w3.setCell ⟨g, k * 7 + 2, none⟩ (.bool false)) (fun x => x = g) := (Kept.refl w3 (fun x => x = g)).set (a := ⟨g, k * 7 + 2, none⟩) rfl _
        have bX4 := hk4.blk bX3 HSX.out
        have bw4 : Below w.heap.size w (w3.setCell ⟨g, k * 7 + 2, none⟩ (.bool false)) := bw3.setCell (p := ⟨g, k * 7 + 2, none⟩) (by show w.heap.size ≤ g; have := (hO3.row.lt g rfl).1; omega) _
        have HO4 : Hid (OwnClks (w3.setCell ⟨g, k * 7 + 2, none⟩ (.bool false)) w1.heap.size (.slice (some ⟨g, 0, none⟩) N cv) N (putC S k ((S k).shut false)) R) := HO3.out.put1 false
        go_upto_region 8 with fail
        generalize w3.setCell ⟨g, k * 7 + 2, none⟩ (.bool false) = W4 at bX4 bw4 HO4 hk4 ⊢
        clear c2 f2 bX3 hO3
        have x0 := blk_cell bX4 0 _ rfl
        have x1 := blk_cell bX4 1 _ rfl
        have x2 := blk_cell bX4 2 _ rfl
        have x3 := blk_cell bX4 3 _ rfl
        go_wp2_with fail
        refine (l10OwnAns_any a.code a.anam a.price arw a.rwn crw a.rw _ han HNL.out (HR.out.below bw4)).mono ?_
        rintro e W5 ⟨⟨a', c', rfl, ho5⟩, hb5⟩
        have HO5 : Hid (OwnClks W5 w1.heap.size (.slice (some ⟨g, 0, none⟩) N cv) N (putC S k ((S k).shut false)) R) := HO4.out.below hb5
        have bw5 := after bw4 hb5
        have y3 := own_cell HO5.out.row (k * 7 + 3) (by omega) rfl
        have y4 := own_cell HO5.out.row (k * 7 + 4) (by omega) rfl
        have y5 := own_cell HO5.out.row (k * 7 + 5) (by omega) rfl
        have y6 := own_cell HO5.out.row (k * 7 + 6) (by omega) rfl
        have f3 := HO5.out.row.frozenAt (k * 7 + 3)
        have f4 := HO5.out.row.frozenAt (k * 7 + 4)
        have f5 := HO5.out.row.frozenAt (k * 7 + 5)
        have f6 := HO5.out.row.frozenAt (k * 7 + 6)
        have hF := HO5.out.put4 (k := k) (rv := .slice a' a.rwn c') (lim := W4.heap.size) a (fun i hi b hb => ((HO4.out.rows i hi).lt b hb).2) ho5 (by have := (HO4.out.row.lt g rfl).1; have := (HO4.out.row.lt g rfl).2; omega)
        rw [putC_put, putC_at] at hF
        have HF : Hid _ := hF
        clear hF
        have hbF : Below w.heap.size w ((((W5.setCell ⟨g, k * 7 + 3, none⟩ (.int .i64 a.code)).setCell ⟨g, k * 7 + 4, none⟩ (.int .i64 a.anam)).setCell ⟨g, k * 7 + 5, none⟩ (.int .i64 a.price)).setCell ⟨g, k * 7 + 6, none⟩ (.slice a' a.rwn c')) :=
          Kept.below bw5 bw5.size (((((Kept.refl W5 (fun x => x = g)).set (a := ⟨g, k * 7 + 3, none⟩) rfl _).set (a := ⟨g, k * 7 + 4, none⟩) rfl _).set (a := ⟨g, k * 7 + 5, none⟩) rfl _).set (a := ⟨g, k * 7 + 6, none⟩) rfl _) (fun b e => by have e : b = g := e; have := HW1.out; omega)
        go_wp2
        exact bodyPost_ret (v := .tuple #[_, .int .i64 0]) (by simp [results, Try.results25, go_sem]) rfl ⟨⟨_, N, _, _, 0, rfl, HF.out.lower HW1.out, .inr ⟨HG.out, rfl, k, hp.out, .inl ⟨k, hk, rfl, ho, rfl, fun _ _ => rfl⟩⟩⟩, hbF⟩
    · go_wp2
      exact bodyPost_ret (v := .tuple #[_, .int .i64 3]) (by simp [results, Try.results25, go_sem]) rfl ⟨⟨_, N, S, R, 3, rfl, hO3, .inr ⟨HG.out, rfl, -1, hp.out, .inr ⟨.inl rfl, rfl, fun _ _ => rfl⟩⟩⟩, bw3⟩

end Go.Proofs.Ytogbaoggebghdaa

namespace Go.Proofs.Ytogbaoggebghdaa
open Go.RowKit

/-- A list of clerks that can be read, also behind what is written into the block cb. -/
def CkRead (w : World) (cb : Nat) (v : Value) : Prop := ∃ av N cv S, v = .slice av N cv ∧ N ≤ 1000 ∧ ClkDsShort N S 1048576 ∧ ∀ w', Kept w w' (fun b => b = cb) → ClkDsAt w' av N S
theorem CkRead.kept {w w' : World} {cb : Nat} {v : Value} (h : CkRead w cb v) (hk : Kept w w' (fun b => b = cb)) : CkRead w' cb v := by
  obtain ⟨av, N, cv, S, e, h1, h2, h3⟩ := h
  exact ⟨av, N, cv, S, e, h1, h2, fun w2 hk2 => h3 w2 (hk.trans hk2)⟩
theorem CkRead.below {w w' : World} {cb : Nat} {v : Value} (h : CkRead w cb v) (hb : Below w.heap.size w w') : CkRead w' cb v := h.kept (Kept.of_below hb)
/-- A list of at most B clerks in memory of its own. -/
def CkOwn (w : World) (base B : Nat) (v : Value) : Prop := ∃ N S R, OwnClks w base v N S R ∧ N ≤ B ∧ ClkDsShort N S 1048576
theorem CkOwn.form {w : World} {base B : Nat} {v : Value} (h : CkOwn w base B v) : ∃ av N cv, v = .slice av N cv ∧ N ≤ B := by
  obtain ⟨N, S, R, h1, h2, _⟩ := h
  obtain ⟨av, cv, rfl, _⟩ := own_form h1.row
  exact ⟨av, N, cv, rfl, h2⟩
theorem CkOwn.read {w : World} {base B : Nat} {v : Value} (h : CkOwn w base B v) (hB : B ≤ 1000) {cb : Nat} (hc : cb < base) : CkRead w cb v := by
  obtain ⟨N, S, R, h1, h2, h3⟩ := h
  obtain ⟨av, cv, rfl, _⟩ := own_form h1.row
  exact ⟨av, N, cv, S, rfl, by omega, h3, fun w' hk => OwnClks.at (h1.kept hk (fun b e1 e2 _ => by have e1 : b = cb := e1; omega))⟩
theorem CkOwn.below {w w' : World} {base B : Nat} {v : Value} (h : CkOwn w base B v) (hb : Below w.heap.size w w') : CkOwn w' base B v := by
  obtain ⟨N, S, R, h1, h2⟩ := h
  exact ⟨N, S, R, h1.below hb, h2⟩
theorem CkOwn.kept {w w' : World} {base B cb : Nat} {v : Value} (h : CkOwn w base B v) (hk : Kept w w' (fun b => b = cb)) (hc : cb < base) : CkOwn w' base B v := by
  obtain ⟨N, S, R, h1, h2⟩ := h
  exact ⟨N, S, R, h1.kept hk (fun b e1 e2 _ => by have e1 : b = cb := e1; omega), h2⟩
theorem ask_len {N N' : Nat} {S S' : Nat → ClkD} {nm : ByteArray} {num : Int} {a : AnsD} (h : AskIs N S nm num N' S' a 0) : N' ≤ 20 := by
  rcases h with ⟨_, _, _, e⟩ | ⟨ok, p, hp, h⟩
  · cases e
  rcases h with ⟨_, _, _, _, e⟩ | ⟨b, hneg, rfl, _⟩ | ⟨b, rfl, _⟩
  · cases e
  · have := ok.1
    have : N ≠ 20 := fun e => b (Or.inr (Or.inr ⟨hneg, Or.inl e⟩))
    omega
  · exact ok.1
theorem settle_len {N N' : Nat} {S S' : Nat → ClkD} {nm : ByteArray} {a : AnsD} (h : SettleIs N S nm a N' S' 0) : N' ≤ 20 := by
  rcases h with ⟨_, _, e⟩ | ⟨ok, rfl, _⟩
  · cases e
  · exact ok.1
theorem CkOwn.ask {w w' : World} {base : Nat} {v' rv : Value} {N N' : Nat} {S S' : Nat → ClkD} {R' : Nat → Value} {nm : ByteArray} {num : Int} {a : AnsD} (hN : N ≤ 20) (hs : ClkDsShort N S 1048576) (hnm : nm.size ≤ 3) (h : AskOut w' w.heap.size v' rv N' S' R' a) (hi : AskIs N S nm num N' S' a 0) (hb : base ≤ w.heap.size) : CkOwn w' base 20 v' :=
  ⟨N', S', R', h.own.lower hb, ask_len hi, (ask_short hi (by omega) hs (by omega)).2.2.1⟩

def addC (S : Nat → ClkD) (N : Nat) (x : ClkD) (i : Nat) : ClkD := if i < N then S i else x
theorem addC_lt {S : Nat → ClkD} {N i : Nat} {x : ClkD} (h : i < N) : addC S N x i = S i := if_pos h
theorem addC_ge {S : Nat → ClkD} {N i : Nat} {x : ClkD} (h : ¬ i < N) : addC S N x i = x := if_neg h
theorem CkOwn.app {w w' : World} {base B N : Nat} {v v' : Value} {S : Nat → ClkD} {R : Nat → Value} (h : OwnClks w base v N S R) (hN : N ≤ B) (hs : ClkDsShort N S 1048576) (x : ClkD) (hx : x.rwn = 0) (hn : x.nam.size ≤ 1048576) (hb : base ≤ w.heap.size) (hg : w.grownBy w' v.ownBlock)
    (ho : w'.ownsRow base 68 7 v' (N + 1) ((List.range (N * 7)).map (clkCell S R) ++ [.string x.nam, .int .i64 x.num, .bool x.opn, .int .i64 x.code, .int .i64 x.anam, .int .i64 x.price, .slice none 0 0])) : CkOwn w' base (B + 1) v' := by
  have h2 := h.congr (S' := addC S N x) (fun i hi => (addC_lt hi).symm)
  have ex : addC S N x N = x := addC_ge (Nat.lt_irrefl N)
  refine ⟨N + 1, _, _, OwnClks.snoc (rv := .slice none 0 0) (lim := w.heap.size) h2 (fun i hi b hb => ((h.rows i hi).lt b hb).2) ?_ hb hg ?_, by omega, fun i hi => ?_⟩
  · rw [ex, hx]; exact World.ownsRow_nil _ _ _ _
  · rw [ex]
    have e3 : (List.range (N * 7)).map (clkCell (addC S N x) R) = (List.range (N * 7)).map (clkCell S R) := by
      refine List.map_congr_left fun j hj => ?_
      have hj' : j < N * 7 := by simpa using hj
      unfold clkCell
      rw [addC_lt (show j / 7 < N by omega)]
    rw [e3]
    exact ho
  · by_cases f : i < N
    · rw [addC_lt f]; exact hs i f
    · rw [addC_ge f]; exact ⟨hn, by rw [hx]; omega, fun k hk => by rw [hx] at hk; exact absurd hk (Nat.not_lt_zero k)⟩
theorem ClkDsAt.from {w : World} {g N d : Nat} {S : Nat → ClkD} (h : ClkDsAt w (some ⟨g, 0, none⟩) N S) (hd : d ≤ N) : ClkDsAt w (some ⟨g, d * 7, none⟩) (N - d) (fun i => S (i + d)) := by
  obtain ⟨C, h1, h2⟩ := h
  refine ⟨fun i => C (i + d), fun k hk => ?_, fun k hk => h2 (k + d) (by omega)⟩
  obtain ⟨b, off, e, hc⟩ := h1 (k + d) (by omega)
  cases e
  refine ⟨g, d * 7, rfl, fun j hj => ?_⟩
  have := hc j hj
  rw [show 0 + (k + d) * 7 + j = d * 7 + k * 7 + j by omega] at this
  exact this

set_option maxHeartbeats 12800000 in
set_option maxRecDepth 100000 in
theorem clerks_any (cb : Nat) (ao : Option Addr) (n c a : Nat) (w : World) (ha : a ≤ 700000000000000000) (h : CurIs w cb ao n c a) :
    Calls Try.prog 32 #[.pointer (some ⟨cb, 0, none⟩)] w fun e w' => (∃ v, e = .returned v ∧ CkRead w' cb v) ∧ CurIs w' cb ao n c (a + 400) ∧ Kept w w' (fun b => b = cb) := by
  have hcb := h.lt
  have HCW0 := h.code_lt
  obtain ⟨ik0, iki, ikz0, ikz1, ikz2⟩ := info_parts Try.infoClerk
  go_enter Try.func32, Try.ntmps32
  go_wp2_with fail
  refine (pick_any cb ao n c a 12 _ (by omega) (by omega) (by omega) h).mono ?_
  rintro e w0 ⟨⟨m0, rfl, hm0⟩, hc0, hk0⟩
  go_wp2
  go_loopw [3, 4] (fun l nn wr => ∃ m : Nat, nn = .int .i64 m ∧ m ≤ 11 ∧ CkOwn wr w.heap.size 20 l ∧ CurIs wr cb ao n c (a + 2 + 20 * (11 - m)) ∧ Kept w wr (fun b => b = cb)) (fun _ nn _ => (intOf nn).toNat)
  case atStart => exact ⟨m0, rfl, by omega, ⟨0, fun _ => ⟨⟨#[]⟩, 0, false, 0, 0, 0, 0, fun _ => MRow.zero⟩, fun _ => .slice none 0 0, OwnClks.nil _ _ _ _, by omega, fun i hi => absurd hi (Nat.not_lt_zero _)⟩, hc0.more (by omega), hk0⟩
  case round =>
    obtain ⟨m, rfl, hm, hO, hc, hk⟩ := hrel
    obtain ⟨av, N, cv, rfl, hN⟩ := hO.form
    have HO : Hid (CkOwn wr w.heap.size 20 (.slice av N cv)) := hO
    have hsw : w.heap.size ≤ wr.heap.size := hk.size
    clear hO
    by_cases hm1 : 0 < m
    · have dm : decide ((0 : Int) < (m : Int)) = true := by simp; omega
      go_wp2_with fail
      refine (clerkName_any cb ao n c _ _ (by omega) hc).mono ?_
      rintro e w1 ⟨⟨s, rfl, hs⟩, hc1, hk1⟩
      replace HO : Hid (CkOwn w1 w.heap.size 20 (.slice av N cv)) := HO.out.kept hk1 hcb
      replace hk := hk.trans hk1
      clear hk1 hc
      go_wp2_with fail
      refine (one_any cb ao n c _ 2 _ (by omega) (by omega) (by omega) hc1).mono ?_
      rintro e w2 ⟨⟨b, rfl⟩, hc2, hk2⟩
      replace HO : Hid (CkOwn w2 w.heap.size 20 (.slice av N cv)) := HO.out.kept hk2 hcb
      replace hk := hk.trans hk2
      clear hk2 hc1
      cases b with
      | true =>
        go_wp2_with fail
        refine (answer_any cb ao n c _ _ (by omega) hc2).mono ?_
        rintro e w3 ⟨⟨x, _, ra, rc, rfl, rfl, hrw, hr1, hr2, hr3, _⟩, hc3, hk3⟩
        replace HO : Hid (CkOwn w3 w.heap.size 20 (.slice av N cv)) := HO.out.kept hk3 hcb
        replace hk := hk.trans hk3
        have hs3 : w.heap.size ≤ w3.heap.size := hk.size
        have HR : Hid (MRowsAt w3 ra x.rwn x.rw ∧ (∀ j, j < x.rwn → (x.rw j).own.size ≤ 3) ∧ (ra = none → x.rwn = 0 ∧ rc = 0)) := ⟨hrw, hr2, hr3⟩
        clear hk3 hc2 hrw hr2 hr3
        obtain ⟨N1, S, R, h1, h2, h3⟩ := HO.out
        obtain rfl : N = N1 := by obtain ⟨_, _, e9, _⟩ := own_form h1.row; cases e9; rfl
        have HS : Hid (OwnClks w3 w.heap.size (.slice av N cv) N S R ∧ ClkDsShort N S 1048576) := ⟨h1, h3⟩
        clear h1 h2 h3
        go_wp2_with fail
        refine (specSettle_any av N cv S s x ra rc _ (by omega) HS.out.2 HS.out.1.at (by omega) HR.out.1 HR.out.2.2).mono ?_
        rintro e w4 ⟨⟨v', N', S', R', z, rfl, hO4, hz⟩, hb4⟩
        replace HO : Hid (CkOwn w4 w.heap.size 20 (.slice av N cv)) := HO.out.below hb4
        have hc4 := hc3.below hb4
        replace hk := hk.trans (Kept.of_below hb4)
        obtain ⟨av', cv', rfl, _⟩ := own_form hO4.row
        by_cases hz0 : z = 0
        · subst hz0
          have HNEW : Hid (CkOwn w4 w.heap.size 20 (.slice av' N' cv')) := ⟨N', S', R', hO4.lower hs3, settle_len hz.out, (settle_short hz.out (by omega) HS.out.2 ⟨by omega, fun j hj => by have := HR.out.2.1 j hj; omega⟩).2⟩
          clear hO4 hz hb4 HO HS HR hc3
          go_wp2
          go_roundw
          case rel => exact ⟨m - 1, by go_num, by omega, HNEW.out, hc4.more (by omega), hk⟩
          case measure => simp [intOf]; omega
        · have dz : (z == 0) = false := by simpa using hz0
          clear hO4 hz hb4 HS HR hc3 hz0
          go_wp2
          go_roundw
          case rel => exact ⟨m - 1, by go_num, by omega, HO.out, hc4.more (by omega), hk⟩
          case measure => simp [intOf]; omega
      | false =>
        go_wp2_with fail
        refine (pick_any cb ao n c _ 4 _ (by omega) (by omega) (by omega) hc2).mono ?_
        rintro e w3 ⟨⟨r, rfl, hr⟩, hc3, hk3⟩
        replace HO : Hid (CkOwn w3 w.heap.size 20 (.slice av N cv)) := HO.out.kept hk3 hcb
        replace hk := hk.trans hk3
        have hs3 : w.heap.size ≤ w3.heap.size := hk.size
        clear hk3 hc2
        obtain ⟨N1, S, R, h1, h2, h3⟩ := HO.out
        obtain rfl : N = N1 := by obtain ⟨_, _, e9, _⟩ := own_form h1.row; cases e9; rfl
        have HS : Hid (OwnClks w3 w.heap.size (.slice av N cv) N S R ∧ ClkDsShort N S 1048576) := ⟨h1, h3⟩
        clear h1 h2 h3
        go_wp2_with fail
        refine (specAsk_any av N cv S s _ _ (by omega) HS.out.2 HS.out.1.at (by omega)).mono ?_
        rintro e w4 ⟨⟨v', rv', N', S', R', a', z, rfl, hO4, hz⟩, hb4⟩
        obtain ⟨av', cv', rfl, _⟩ := own_form hO4.own.row
        obtain ⟨ra', rc', rfl, _⟩ := own_form hO4.ans
        have hb5 : Below w4.heap.size w4 (w4.alloc (.cells #[.int .i64 a'.code, .int .i64 a'.anam, .int .i64 a'.price, .slice ra' a'.rwn rc'] 28)) := push (Below.refl _ _) _
        replace HO : Hid (CkOwn (w4.alloc (.cells #[.int .i64 a'.code, .int .i64 a'.anam, .int .i64 a'.price, .slice ra' a'.rwn rc'] 28)) w.heap.size 20 (.slice av N cv)) := (HO.out.below hb4).below hb5
        have hc4 := (hc3.below hb4).below hb5
        replace hk := (hk.trans (Kept.of_below hb4)).trans (Kept.of_below hb5)
        by_cases hz0 : z = 0
        · subst hz0
          have HNEW : Hid (CkOwn (w4.alloc (.cells #[.int .i64 a'.code, .int .i64 a'.anam, .int .i64 a'.price, .slice ra' a'.rwn rc'] 28)) w.heap.size 20 (.slice av' N' cv')) := (CkOwn.ask (w := w3) hN HS.out.2 hs hO4 hz.out hs3).below hb5
          clear hO4 hz hb4 HO HS hc3 hb5
          go_wp2
          go_roundw
          case rel => exact ⟨m - 1, by go_num, by omega, HNEW.out, hc4.more (by omega), hk⟩
          case measure => simp [intOf]; omega
        · have dz : (z == 0) = false := by simpa using hz0
          clear hO4 hz hb4 HS hc3 hz0 hb5
          go_wp2
          go_roundw
          case rel => exact ⟨m - 1, by go_num, by omega, HO.out, hc4.more (by omega), hk⟩
          case measure => simp [intOf]; omega
    · obtain rfl : m = 0 := by omega
      go_wp2_with fail
      refine (pick_any cb ao n c _ 30 _ (by omega) (by omega) (by omega) hc).mono ?_
      rintro e w1 ⟨⟨r, rfl, hr⟩, hc1, hk1⟩
      replace HO : Hid (CkOwn w1 w.heap.size 20 (.slice av N cv)) := HO.out.kept hk1 hcb
      replace hk := hk.trans hk1
      clear hk1 hc
      have HCW : Hid (∀ k, k < n → ∀ b off, ao = some ⟨b, off, none⟩ → b < w.heap.size) := HCW0
      by_cases hr0 : r = 0
      · subst hr0
        have hbS : Below w1.heap.size w1 (w1.alloc (.cells #[.string ⟨#[]⟩, .string ⟨#[65, 110, 110]⟩, .string ⟨#[90, 101, 100]⟩] 9)) := push (Below.refl _ _) _
        have bN : (w1.alloc (.cells #[.string ⟨#[]⟩, .string ⟨#[65, 110, 110]⟩, .string ⟨#[90, 101, 100]⟩] 9)).heap[w1.heap.size]? = some (.cells #[.string ⟨#[]⟩, .string ⟨#[65, 110, 110]⟩, .string ⟨#[90, 101, 100]⟩] 9 (0, 0)) := heap_alloc_new _ _
        have hc2 := hc1.below hbS
        have hcl := hc1.lt
        go_wp2_with fail
        refine (ofL cb ao n c _ 3 [⟨#[]⟩, ⟨#[65, 110, 110]⟩, ⟨#[90, 101, 100]⟩] _ rfl (by omega) (by omega) (by omega) hc2 w1.heap.size bN (by omega)).mono ?_
        rintro e w3 ⟨⟨s, rfl, hs⟩, hc3, hk3⟩
        have hsz : s.size ≤ 3 := by
          have h1 := hs.out
          simp only [List.mem_cons, List.not_mem_nil, or_false] at h1
          rcases h1 with rfl | rfl | rfl <;> decide
        replace HO : Hid (CkOwn w3 w.heap.size 20 (.slice av N cv)) := (HO.out.below hbS).kept hk3 hcb
        replace hk := (hk.trans (Kept.of_below hbS)).trans hk3
        clear hs hc2 hc1 hbS bN hk3 hcl
        have hbI : Below w3.heap.size w3 (w3.alloc (.cells #[.int .i64 0, .int .i64 1, .int .i64 1000000, .int .i64 1000001] 3)) := push (Below.refl _ _) _
        have bI : (w3.alloc (.cells #[.int .i64 0, .int .i64 1, .int .i64 1000000, .int .i64 1000001] 3)).heap[w3.heap.size]? = some (.cells #[.int .i64 0, .int .i64 1, .int .i64 1000000, .int .i64 1000001] 3 (0, 0)) := heap_alloc_new _ _
        have hc4 := hc3.below hbI
        have hcl := hc3.lt
        go_wp2_with fail
        refine (amongL cb ao n c _ 4 [0, 1, 1000000, 1000001] _ rfl (by omega) (by omega) (by omega) hc4 w3.heap.size bI (by omega)).mono ?_
        rintro e w4 ⟨⟨x, rfl⟩, hc5, hk5⟩
        replace HO : Hid (CkOwn w4 w.heap.size 20 (.slice av N cv)) := (HO.out.below hbI).kept hk5 hcb
        replace hk := (hk.trans (Kept.of_below hbI)).trans hk5
        clear hc4 hc3 hbI bI hk5 hcl
        obtain ⟨N1, S, R, h1, h2, h3⟩ := HO.out
        obtain rfl : N = N1 := by obtain ⟨_, _, e9, _⟩ := own_form h1.row; cases e9; rfl
        have hsw4 : w.heap.size ≤ w4.heap.size := hk.size
        have hbX : Below w4.heap.size w4 (w4.alloc (.cells #[.string s, .int .i64 x, .bool false, .int .i64 0, .int .i64 0, .int .i64 0, .slice none 0 0] 68)) := push (Below.refl _ _) _
        have H1 : Hid (OwnClks (w4.alloc (.cells #[.string s, .int .i64 x, .bool false, .int .i64 0, .int .i64 0, .int .i64 0, .slice none 0 0] 68)) w.heap.size (.slice av N cv) N S R) := h1.below hbX
        have H3 : Hid (ClkDsShort N S 1048576) := h3
        clear h1 h3 HO
        go_wp2_with (first | (at_builtin; refine wpList_append_any _ (by rfl) (.tmp 50) (.tmp 58) 23 (by rfl) w.heap.size 68 ik0 (.agg #[.string ⟨#[]⟩, .int .i64 0, .bool false, .int .i64 0, .int .i64 0, .int .i64 0, .slice none 0 0]) 7 80 Try.underlying23 iki ikz0 ikz1 ikz2 rfl (by decide) _ N ((List.range (N * 7)).map (clkCell S R)) (by rfl) H1.out.row (some ⟨w4.heap.size, 0, none⟩) 1 1 [.string s, .int .i64 x, .bool false, .int .i64 0, .int .i64 0, .int .i64 0, .slice none 0 0] (by rfl) (fun h => by cases h) (by rfl) (fun ad h => by cases h; exact World.news_of_block (heap_alloc_new w4 _)) (by intro u hu; simp only [List.mem_cons, List.not_mem_nil, or_false] at hu; rcases hu with rfl | rfl | rfl | rfl | rfl | rfl | rfl <;> rfl) (by unfold maxLen; omega) (by omega) (by have := hbX.size; omega) ?_; intro v6 w6 ho6 hg6; obtain ⟨a6, c6, rfl, _⟩ := own_form ho6))
        have HF := CkOwn.app H1.out (B := 20) hN H3.out ⟨s, x, false, 0, 0, 0, 0, fun _ => MRow.zero⟩ rfl (show s.size ≤ 1048576 by omega) (by have := hbX.size; omega) hg6 ho6
        have hk6 := kept_row hg6
        have hcF : CurIs w6 cb ao n c (a + 400) := (cur_far (hc5.below hbX) hk6 (fun e => by have := (H1.out.row.lt _ e).1; omega) (fun k hk' b off e1 e2 => by have := (H1.out.row.lt _ e2).1; have := HCW.out k hk' b off e1; omega)).more (by omega)
        have hkF : Kept w w6 (fun b => b = cb) := kept_away (hk.trans (Kept.of_below hbX)) hk6 (fun b e => (H1.out.row.lt _ e).1)
        go_ret
        exact ⟨⟨_, rfl, HF.read (by omega) hcb⟩, hcF, hkF⟩
      have dr0 : ((r : Int) == 0) = false := by simp; omega
      by_cases hr1 : r = 1
      · subst hr1
        go_wp2
        go_loopw [3, 11] (fun l i wr2 => ∃ k : Nat, k ≤ 20 ∧ i = .int .i64 k ∧ CkOwn wr2 w.heap.size (20 + k) l ∧ CurIs wr2 cb ao n c (a + 2 + 20 * 11 + 2) ∧ Kept w wr2 (fun b => b = cb)) (fun _ i _ => 20 - (intOf i).toNat)
        case atStart => exact ⟨0, by omega, rfl, HO.out, hc1.more (by omega), hk⟩
        case round =>
          obtain ⟨k, hk20, rfl, hO2, hc2, hk2⟩ := hrel
          obtain ⟨av2, N2, cv2, rfl, hN2⟩ := hO2.form
          have hsw2 : w.heap.size ≤ wr.heap.size := hk2.size
          by_cases hlt : k < 20
          · have dk : decide ((k : Int) < 20) = true := by simp; omega
            obtain ⟨N1, S, R, h1, h2, h3⟩ := hO2
            obtain rfl : N2 = N1 := by obtain ⟨_, _, e9, _⟩ := own_form h1.row; cases e9; rfl
            have H1 : Hid (OwnClks wr w.heap.size (.slice av2 N2 cv2) N2 S R) := h1
            have H3 : Hid (ClkDsShort N2 S 1048576) := h3
            clear h1 h3
            obtain ⟨q, hq⟩ : ∃ q, q = strOfNums [97 + (k : Int)] := ⟨_, rfl⟩
            have hq1 : q.size = 1 := by rw [hq]; rfl
            have hcv : (convert 22 9 (.slice (some ⟨wr.heap.size, 0, none⟩) 1 1)).run Try.prog (wr.alloc (.cells #[.int .u8 (97 + (k : Int))] 5)) = .ok (.string q) (wr.alloc (.cells #[.int .u8 (97 + (k : Int))] 5)) := by
              rw [hq]
              exact run_convert_bytes_arg _ 22 5 Try.underlying22 Try.underlying5 wr.heap.size 0 1 1 [97 + (k : Int)] rfl (fun i hi => by have h0 : i = 0 := (by omega); subst h0; exact blk_cell (heap_alloc_new wr _) 0 _ rfl) 9 Try.underlying9
            clear hq
            have hbX : Below wr.heap.size wr ((wr.alloc (.cells #[.int .u8 (97 + (k : Int))] 5)).alloc (.cells #[.string (⟨#[90]⟩ ++ q), .int .i64 1, .bool false, .int .i64 0, .int .i64 0, .int .i64 0, .slice none 0 0] 68)) := push (push (Below.refl _ _) _) _
            have HXC : Hid (OwnClks ((wr.alloc (.cells #[.int .u8 (97 + (k : Int))] 5)).alloc (.cells #[.string (⟨#[90]⟩ ++ q), .int .i64 1, .bool false, .int .i64 0, .int .i64 0, .int .i64 0, .slice none 0 0] 68)) w.heap.size (.slice av2 N2 cv2) N2 S R) := H1.out.below hbX
            have bXC : ((wr.alloc (.cells #[.int .u8 (97 + (k : Int))] 5)).alloc (.cells #[.string (⟨#[90]⟩ ++ q), .int .i64 1, .bool false, .int .i64 0, .int .i64 0, .int .i64 0, .slice none 0 0] 68)).heap[wr.heap.size + 1]? = some (.cells #[.string (⟨#[90]⟩ ++ q), .int .i64 1, .bool false, .int .i64 0, .int .i64 0, .int .i64 0, .slice none 0 0] 68 (0, 0)) := by simpa using heap_alloc_new (wr.alloc (.cells #[.int .u8 (97 + (k : Int))] 5)) (.cells #[.string (⟨#[90]⟩ ++ q), .int .i64 1, .bool false, .int .i64 0, .int .i64 0, .int .i64 0, .slice none 0 0] 68)
            have HBX : Hid (((wr.alloc (.cells #[.int .u8 (97 + (k : Int))] 5)).alloc (.cells #[.string (⟨#[90]⟩ ++ q), .int .i64 1, .bool false, .int .i64 0, .int .i64 0, .int .i64 0, .slice none 0 0] 68)).heap[wr.heap.size + 1]? = some (.cells #[.string (⟨#[90]⟩ ++ q), .int .i64 1, .bool false, .int .i64 0, .int .i64 0, .int .i64 0, .slice none 0 0] 68 (0, 0))) := bXC
            clear bXC
            go_wp2_with (first | (at_builtin; refine wpList_append_any _ (by rfl) (.tmp 66) (.tmp 74) 23 (by rfl) w.heap.size 68 ik0 (.agg #[.string ⟨#[]⟩, .int .i64 0, .bool false, .int .i64 0, .int .i64 0, .int .i64 0, .slice none 0 0]) 7 80 Try.underlying23 iki ikz0 ikz1 ikz2 rfl (by decide) _ N2 ((List.range (N2 * 7)).map (clkCell S R)) (by rfl) HXC.out.row (some ⟨wr.heap.size + 1, 0, none⟩) 1 1 [.string (⟨#[90]⟩ ++ q), .int .i64 1, .bool false, .int .i64 0, .int .i64 0, .int .i64 0, .slice none 0 0] (by rfl) (fun h => by cases h) (by rfl) (fun ad h => by cases h; exact World.news_of_block HBX.out) (by intro u hu; simp only [List.mem_cons, List.not_mem_nil, or_false] at hu; rcases hu with rfl | rfl | rfl | rfl | rfl | rfl | rfl <;> rfl) (by unfold maxLen; omega) (by omega) (by have := hbX.size; omega) ?_; intro v6 w6 ho6 hg6; obtain ⟨a6, c6, rfl, _⟩ := own_form ho6))
            have HF : CkOwn w6 w.heap.size (20 + (k + 1)) (.slice a6 (N2 + 1) c6) := CkOwn.app HXC.out (B := 20 + k) hN2 H3.out ⟨⟨#[90]⟩ ++ q, 1, false, 0, 0, 0, 0, fun _ => MRow.zero⟩ rfl (show (⟨#[90]⟩ ++ q : ByteArray).size ≤ 1048576 by rw [ByteArray.size_append, hq1]; decide) (by have := hbX.size; omega) hg6 ho6
            have hk6 := kept_row hg6
            have hcF : CurIs w6 cb ao n c (a + 2 + 20 * 11 + 2) := cur_far (hc2.below hbX) hk6 (fun e => by have := (HXC.out.row.lt _ e).1; omega) (fun k hk' b off e1 e2 => by have := (HXC.out.row.lt _ e2).1; have := HCW.out k hk' b off e1; omega)
            have hkF : Kept w w6 (fun b => b = cb) := kept_away (hk2.trans (Kept.of_below hbX)) hk6 (fun b e => (HXC.out.row.lt _ e).1)
            clear hk6 hg6 ho6 HBX HXC hbX hcv
            go_roundw
            case rel => exact ⟨k + 1, by omega, by go_num, HF, hcF, hkF⟩
            case measure => simp [intOf]; omega
          · obtain rfl : k = 20 := by omega
            have HO2 : Hid (CkOwn wr w.heap.size (20 + 20) (.slice av2 N2 cv2)) := hO2
            clear hO2
            by_cases hbig : 20 < N2
            · have db : decide ((20 : Int) < (N2 : Int)) = true := by simp; omega
              go_wp2_with fail
              refine (one_any cb ao n c _ 3 _ (by omega) (by omega) (by omega) hc2).mono ?_
              rintro e w3 ⟨⟨b3, rfl⟩, hc3, hk3⟩
              replace HO2 : Hid (CkOwn w3 w.heap.size (20 + 20) (.slice av2 N2 cv2)) := HO2.out.kept hk3 hcb
              replace hk2 := hk2.trans hk3
              clear hk3 hc2
              cases b3 with
              | true =>
                go_wp2
                go_ret
                exact ⟨⟨_, rfl, HO2.out.read (by omega) hcb⟩, hc3.more (by omega), hk2⟩
              | false =>
                obtain ⟨N1, S, R, h1, h2, h3⟩ := HO2.out
                obtain rfl : N2 = N1 := by obtain ⟨_, _, e9, _⟩ := own_form h1.row; cases e9; rfl
                obtain ⟨g, rfl, hg1, hg2⟩ := own_addr h1.row (by omega)
                have hcv : N2 ≤ cv2 := by obtain ⟨_, _, e9, l1, _⟩ := own_form h1.row; cases e9; exact l1
                have hcm : cv2 ≤ 9223372036854775807 := by obtain ⟨_, _, e9, _, l2, _⟩ := own_form h1.row; cases e9; unfold maxLen at l2; omega
                have HRD : Hid (CkRead w3 cb (.slice (some ⟨g, (N2 - 20) * 7, none⟩) (N2 - (N2 - 20)) (cv2 - (N2 - 20)))) := ⟨_, N2 - (N2 - 20), _, _, rfl, by omega, fun i hi => h3 (i + (N2 - 20)) (by omega), fun w' hk' => ClkDsAt.from (OwnClks.at (h1.kept hk' (fun b e1 e2 _ => by have e1 : b = cb := e1; omega))) (by omega)⟩
                have p0 : (0 : Int) ≤ (N2 : Int) - 20 := by omega
                have p1 : (N2 : Int) - 20 ≤ (N2 : Int) := by omega
                have p2 : ((N2 : Int) - 20).toNat = N2 - 20 := by omega
                have p3 : ¬ (cv2 = N2 - 20) := by omega
                clear h1 h2 h3 HO2
                go_wp2
                go_ret
                exact ⟨⟨_, rfl, HRD.out⟩, hc3.more (by omega), hk2⟩
            · have db : decide ((20 : Int) < (N2 : Int)) = false := by simp; omega
              go_wp2
              go_ret
              exact ⟨⟨_, rfl, HO2.out.read (by omega) hcb⟩, hc2.more (by omega), hk2⟩
      have dr1 : ((r : Int) == 1) = false := by simp; omega
      go_wp2
      go_ret
      exact ⟨⟨_, rfl, HO.out.read (by omega) hcb⟩, hc1.more (by omega), hk⟩

end Go.Proofs.Ytogbaoggebghdaa
