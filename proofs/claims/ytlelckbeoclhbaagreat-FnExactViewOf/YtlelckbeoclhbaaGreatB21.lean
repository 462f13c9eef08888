/-
  OWN TEXT: CarW, WishI, PartyI, ImplV.
-/
import Derived.Deep.DeepCutAuto
import Derived.Test.YtlelckbeoclhbaaGreatB17
import Derived.Test.YtlelckbeoclhbaaGreatB18
import Derived.Test.YtlelckbeoclhbaaGreatB07
import Derived.Test.YtlelckbeoclhbaaGreatB20
set_option maxHeartbeats 12800000
set_option maxRecDepth 100000
namespace Go.Proofs.YtlelckbeoclhbaaGreat
open Go.RowKit
theorem isCar_is (x y : Int) (w : World) :
    Calls Tryz.prog 174 #[.int .i64 x, .int .i64 y] w fun e w' => e = .returned (.bool (decide (In x 1 2000 ∧ In y 1 500))) ∧ w' = w := by
  obtain ⟨c, hc⟩ : ∃ c, c = decide (In x 1 2000 ∧ In y 1 500) := ⟨_, rfl⟩
  rw [← hc]
  have HC : Hid (c = decide (In x 1 2000 ∧ In y 1 500)) := hc
  clear hc
  by_cases h1 : In x 1 2000
  · have e1 : decide (In x 1 2000) = true := decide_eq_true h1
    have H1 : Hid (In x 1 2000) := h1
    clear h1
    by_cases h2 : In y 1 500
    · have e2 : decide (In y 1 500) = true := decide_eq_true h2
      have H2 : Hid (In y 1 500) := h2
      clear h2
      go_enter Tryz.func174, Tryz.ntmps174
      go_wp2_with (first | (go_at_call 143; refine (within_is _ _ _ _).mono ?_; rintro e w' ⟨rfl, hw'⟩; have hw' := hw'.symm; subst hw'))
      go_ret
      exact ⟨by rw [HC.out, decide_eq_true ⟨H1.out, H2.out⟩]; rfl, rfl⟩
    · have e2 : decide (In y 1 500) = false := decide_eq_false h2
      have H2 : Hid (¬ In y 1 500) := h2
      clear h2
      go_enter Tryz.func174, Tryz.ntmps174
      go_wp2_with (first | (go_at_call 143; refine (within_is _ _ _ _).mono ?_; rintro e w' ⟨rfl, hw'⟩; have hw' := hw'.symm; subst hw'))
      go_ret
      exact ⟨by rw [HC.out, decide_eq_false (fun h => H2.out h.2)]; rfl, rfl⟩
  · have e1 : decide (In x 1 2000) = false := decide_eq_false h1
    have H1 : Hid (¬ In x 1 2000) := h1
    clear h1
    go_enter Tryz.func174, Tryz.ntmps174
    go_wp2_with (first | (go_at_call 143; refine (within_is _ _ _ _).mono ?_; rintro e w' ⟨rfl, hw'⟩; have hw' := hw'.symm; subst hw'))
    go_ret
    exact ⟨by rw [HC.out, decide_eq_false (fun h => H1.out h.1)]; rfl, rfl⟩
end Go.Proofs.YtlelckbeoclhbaaGreat

namespace Go.Proofs.YtlelckbeoclhbaaGreat
open Go.RowKit
theorem wish_is (cl : Int) (all : Bool) (be : Int) (w : World) :
    Calls Tryz.prog 175 #[.int .i64 cl, .bool all, .int .i64 be] w fun e w' => e = .returned (.bool (decide (CabOk cl all be))) ∧ w' = w := by
  obtain ⟨c, hc⟩ : ∃ c, c = decide (CabOk cl all be) := ⟨_, rfl⟩
  rw [← hc]
  have HC : Hid (c = decide (CabOk cl all be)) := hc
  clear hc
  by_cases h1 : In cl 1 3
  · have e1 : decide (In cl 1 3) = true := decide_eq_true h1
    have H1 : Hid (In cl 1 3) := h1
    clear h1
    cases all with
    | true =>
      by_cases h2 : be = 0
      · subst h2
        go_enter Tryz.func175, Tryz.ntmps175
        go_wp2_with (first | (go_at_call 165; refine (class_is _ _).mono ?_; rintro e w' ⟨rfl, hw'⟩; have hw' := hw'.symm; subst hw'))
        go_ret
        exact ⟨by rw [HC.out, decide_eq_true ⟨H1.out, .inl ⟨rfl, rfl⟩⟩]; rfl, rfl⟩
      · have e2 : (be == 0) = false := by simpa using h2
        have H2 : Hid (¬ be = 0) := h2
        clear h2
        go_enter Tryz.func175, Tryz.ntmps175
        go_wp2_with (first | (go_at_call 165; refine (class_is _ _).mono ?_; rintro e w' ⟨rfl, hw'⟩; have hw' := hw'.symm; subst hw'))
        go_ret
        exact ⟨by rw [HC.out, decide_eq_false (fun h => by rcases h.2 with h | h; exact H2.out h.2; cases h.1)]; rfl, rfl⟩
    | false =>
      by_cases h2 : In be 1 4
      · have e2 : decide (In be 1 4) = true := decide_eq_true h2
        have H2 : Hid (In be 1 4) := h2
        clear h2
        go_enter Tryz.func175, Tryz.ntmps175
        go_wp2_with (first | (go_at_call 165; refine (class_is _ _).mono ?_; rintro e w' ⟨rfl, hw'⟩; have hw' := hw'.symm; subst hw') | (go_at_call 166; refine (berths_is _ _).mono ?_; rintro e w' ⟨rfl, hw'⟩; have hw' := hw'.symm; subst hw'))
        go_ret
        exact ⟨by rw [HC.out, decide_eq_true ⟨H1.out, .inr ⟨rfl, H2.out⟩⟩]; rfl, rfl⟩
      · have e2 : decide (In be 1 4) = false := decide_eq_false h2
        have H2 : Hid (¬ In be 1 4) := h2
        clear h2
        go_enter Tryz.func175, Tryz.ntmps175
        go_wp2_with (first | (go_at_call 165; refine (class_is _ _).mono ?_; rintro e w' ⟨rfl, hw'⟩; have hw' := hw'.symm; subst hw') | (go_at_call 166; refine (berths_is _ _).mono ?_; rintro e w' ⟨rfl, hw'⟩; have hw' := hw'.symm; subst hw'))
        go_ret
        exact ⟨by rw [HC.out, decide_eq_false (fun h => by rcases h.2 with h | h; cases h.1; exact H2.out h.2)]; rfl, rfl⟩
  · have e1 : decide (In cl 1 3) = false := decide_eq_false h1
    have H1 : Hid (¬ In cl 1 3) := h1
    clear h1
    cases all with
    | true =>
      go_enter Tryz.func175, Tryz.ntmps175
      go_wp2_with (first | (go_at_call 165; refine (class_is _ _).mono ?_; rintro e w' ⟨rfl, hw'⟩; have hw' := hw'.symm; subst hw'))
      go_ret
      exact ⟨by rw [HC.out, decide_eq_false (fun h => H1.out h.1)]; rfl, rfl⟩
    | false =>
      go_enter Tryz.func175, Tryz.ntmps175
      go_wp2_with (first | (go_at_call 165; refine (class_is _ _).mono ?_; rintro e w' ⟨rfl, hw'⟩; have hw' := hw'.symm; subst hw'))
      go_ret
      exact ⟨by rw [HC.out, decide_eq_false (fun h => H1.out h.1)]; rfl, rfl⟩
end Go.Proofs.YtlelckbeoclhbaaGreat

namespace Go.Proofs.YtlelckbeoclhbaaGreat
open Go.RowKit
theorem implParty_any (pe len hei cl : Int) (all : Bool) (be : Int) (w : World) :
    Calls Tryz.prog 151 #[.agg #[.int .i64 pe, .int .i64 len, .int .i64 hei, .int .i64 cl, .bool all, .int .i64 be]] w fun e w' => SaysIf (PartyOk ⟨pe, len, hei, cl, all, be⟩) e ∧ Below w.heap.size w w' := by
  obtain ⟨c1, hc1⟩ : ∃ c, c = decide (In pe 1 20) := ⟨_, rfl⟩
  obtain ⟨c2, hc2⟩ : ∃ c, c = decide (¬ (len = 0 ∧ hei = 0)) := ⟨_, rfl⟩
  obtain ⟨c3, hc3⟩ : ∃ c, c = decide (In len 1 2000 ∧ In hei 1 500) := ⟨_, rfl⟩
  obtain ⟨c4, hc4⟩ : ∃ c, c = decide (¬ (cl = 0 ∧ all = false ∧ be = 0)) := ⟨_, rfl⟩
  obtain ⟨c5, hc5⟩ : ∃ c, c = decide (CabOk cl all be) := ⟨_, rfl⟩
  have H1 : Hid (c1 = decide (In pe 1 20)) := hc1
  have H2 : Hid (c2 = decide (¬ (len = 0 ∧ hei = 0))) := hc2
  have H3 : Hid (c3 = decide (In len 1 2000 ∧ In hei 1 500)) := hc3
  have H4 : Hid (c4 = decide (¬ (cl = 0 ∧ all = false ∧ be = 0))) := hc4
  have H5 : Hid (c5 = decide (CabOk cl all be)) := hc5
  have HP : Hid (PartyOk ⟨pe, len, hei, cl, all, be⟩ ↔ c1 = true ∧ (c2 = false ∨ c3 = true) ∧ (c4 = false ∨ c5 = true)) := by
    show PartyOk ⟨pe, len, hei, cl, all, be⟩ ↔ c1 = true ∧ (c2 = false ∨ c3 = true) ∧ (c4 = false ∨ c5 = true)
    rw [hc1, hc2, hc3, hc4, hc5]
    unfold PartyOk CarOk
    simp only [decide_eq_true_eq, decide_eq_false_iff_not, Classical.not_not]
  clear hc1 hc2 hc3 hc4 hc5
  go_enter Tryz.func151, Tryz.ntmps151
  go_wp2_with fail
  have hb0 : Below w.heap.size w (w.alloc (.cells #[.int .i64 pe, .int .i64 len, .int .i64 hei, .int .i64 cl, .bool all, .int .i64 be] 70)) := push (Below.refl _ _) _
  have b0 := heap_alloc_new w (.cells #[.int .i64 pe, .int .i64 len, .int .i64 hei, .int .i64 cl, .bool all, .int .i64 be] 70)
  generalize w.alloc (.cells #[.int .i64 pe, .int .i64 len, .int .i64 hei, .int .i64 cl, .bool all, .int .i64 be] 70) = W at hb0 b0 ⊢
  have y0 := blk_cell b0 0 _ rfl
  have y1 := blk_cell b0 1 _ rfl
  have y2 := blk_cell b0 2 _ rfl
  have y3 := blk_cell b0 3 _ rfl
  have y4 := blk_cell b0 4 _ rfl
  have y5 := blk_cell b0 5 _ rfl
  refine (within_is _ _ _ _).mono ?_
  rw [← H1.out]
  rintro e w' ⟨rfl, hw'⟩
  have hw' := hw'.symm
  subst hw'
  cases c1 with
  | false =>
    have HN : Hid (¬ PartyOk ⟨pe, len, hei, cl, all, be⟩) := fun h => by have := (HP.out.1 h).1; cases this
    clear HP
    go_wp2
    go_ret
    exact ⟨says_no HN.out, hb0⟩
  | true =>
    go_wp2_with fail
    refine (asksCar_any pe len hei cl all be _).mono ?_
    rw [← H2.out]
    rintro e w1 ⟨rfl, hb1⟩
    have b1 := blk_below b0 hb1
    have bw1 := after hb0 hb1
    clear y0 y1 y2 y3 y4 y5 hb0 b0 hb1
    have y1 := blk_cell b1 1 _ rfl
    have y2 := blk_cell b1 2 _ rfl
    cases c2 with
    | false =>
      have y0 := blk_cell b1 0 _ rfl
      have y3 := blk_cell b1 3 _ rfl
      have y4 := blk_cell b1 4 _ rfl
      have y5 := blk_cell b1 5 _ rfl
      go_wp2_with fail
      refine (asksCabin_any pe len hei cl all be _).mono ?_
      rw [← H4.out]
      rintro e w2 ⟨rfl, hb2⟩
      have b2 := blk_below b1 hb2
      have bw2 := after bw1 hb2
      clear y0 y1 y2 y3 y4 y5 bw1 b1 hb2
      have y3 := blk_cell b2 3 _ rfl
      have y4 := blk_cell b2 4 _ rfl
      have y5 := blk_cell b2 5 _ rfl
      cases c4 with
      | false =>
        go_wp2
        go_ret
        exact ⟨says_yes (HP.out.2 (by simp)), bw2⟩
      | true =>
        go_wp2_with fail
        refine (wish_is _ _ _ _).mono ?_
        rw [← H5.out]
        rintro e w' ⟨rfl, hw'⟩
        have hw' := hw'.symm
        subst hw'
        cases c5 with
        | true =>
          go_wp2
          go_ret
          exact ⟨says_yes (HP.out.2 (by simp)), bw2⟩
        | false =>
          have HN : Hid (¬ PartyOk ⟨pe, len, hei, cl, all, be⟩) := fun h => by have h := HP.out.1 h; simp at h
          clear HP
          go_wp2
          go_ret
          exact ⟨says_no HN.out, bw2⟩
    | true =>
      go_wp2_with fail
      refine (isCar_is _ _ _).mono ?_
      rw [← H3.out]
      rintro e w' ⟨rfl, hw'⟩
      have hw' := hw'.symm
      subst hw'
      cases c3 with
      | false =>
        have HN : Hid (¬ PartyOk ⟨pe, len, hei, cl, all, be⟩) := fun h => by have h := HP.out.1 h; simp at h
        clear HP
        go_wp2
        go_ret
        exact ⟨says_no HN.out, bw1⟩
      | true =>
        have y0 := blk_cell b1 0 _ rfl
        have y3 := blk_cell b1 3 _ rfl
        have y4 := blk_cell b1 4 _ rfl
        have y5 := blk_cell b1 5 _ rfl
        go_wp2_with fail
        refine (asksCabin_any pe len hei cl all be _).mono ?_
        rw [← H4.out]
        rintro e w2 ⟨rfl, hb2⟩
        have b2 := blk_below b1 hb2
        have bw2 := after bw1 hb2
        clear y0 y1 y2 y3 y4 y5 bw1 b1 hb2
        have y3 := blk_cell b2 3 _ rfl
        have y4 := blk_cell b2 4 _ rfl
        have y5 := blk_cell b2 5 _ rfl
        cases c4 with
        | false =>
          go_wp2
          go_ret
          exact ⟨says_yes (HP.out.2 (by simp)), bw2⟩
        | true =>
          go_wp2_with fail
          refine (wish_is _ _ _ _).mono ?_
          rw [← H5.out]
          rintro e w' ⟨rfl, hw'⟩
          have hw' := hw'.symm
          subst hw'
          cases c5 with
          | true =>
            go_wp2
            go_ret
            exact ⟨says_yes (HP.out.2 (by simp)), bw2⟩
          | false =>
            have HN : Hid (¬ PartyOk ⟨pe, len, hei, cl, all, be⟩) := fun h => by have h := HP.out.1 h; simp at h
            clear HP
            go_wp2
            go_ret
            exact ⟨says_no HN.out, bw2⟩
end Go.Proofs.YtlelckbeoclhbaaGreat

namespace Go.Proofs.YtlelckbeoclhbaaGreat
open Go.RowKit
theorem isBy_is (x : Int) (w : World) :
    Calls Tryz.prog 146 #[.int .i64 x] w fun e w' => e = .returned (.bool (decide (In x 1 9999))) ∧ w' = w := by
  go_enter Tryz.func146, Tryz.ntmps146
  go_wp2_with (first | (go_at_call 143; refine (within_is _ _ _ _).mono ?_; rintro e w' ⟨rfl, rfl⟩))
  go_ret
  exact ⟨rfl, rfl⟩
end Go.Proofs.YtlelckbeoclhbaaGreat
