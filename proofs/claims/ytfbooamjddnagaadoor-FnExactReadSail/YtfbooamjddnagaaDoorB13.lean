/-
  OWN TEXT: SpecOa, SpecOb.
-/
import Derived.Deep.DeepCutAuto
import Derived.Test.YtfbooamjddnagaaDoorB12
namespace Go.Proofs.YtfbooamjddnagaaDoor
open Go.RowKit

set_option maxHeartbeats 3200000 in
set_option maxRecDepth 100000 in
theorem specOp_1 (own : ByteArray) (name : Int) (alg : Option Addr) (lgn clg : Nat) (lg : Nat → Int) (pe len hei cl : Int) (all : Bool) (be unt now : Int) (w : World) (_ : own.size ≤ 1000000000000000) :
    Calls Tryd.prog 26 #[.agg #[.int .i64 1, .string own, .int .i64 name, .slice alg lgn clg, .int .i64 pe, .int .i64 len, .int .i64 hei, .int .i64 cl, .bool all, .int .i64 be, .int .i64 unt, .int .i64 now]] w fun e w' => e = .returned (.bool (decide (OpOk ⟨1, own, name, lgn, lg, pe, len, hei, cl, all, be, unt, now⟩))) ∧ Below w.heap.size w w' := by
  obtain ⟨R, hR⟩ : ∃ R, R = decide (OpOk ⟨1, own, name, lgn, lg, pe, len, hei, cl, all, be, unt, now⟩) := ⟨_, rfl⟩
  rw [← hR]
  obtain ⟨bo, hbo⟩ : ∃ b, b = decide (OwnerOk 1 own) := ⟨_, rfl⟩
  obtain ⟨bn, hbn⟩ : ∃ b, b = decide (NameOk 1 name) := ⟨_, rfl⟩
  obtain ⟨bl, hbl⟩ : ∃ b, b = decide (LegsOkFor 1 lgn) := ⟨_, rfl⟩
  obtain ⟨bp, hbp⟩ : ∃ b, b = decide (PartyOkFor 1 ⟨pe, len, hei, cl, all, be⟩) := ⟨_, rfl⟩
  obtain ⟨bu, hbu⟩ : ∃ b, b = decide (UntilOk 1 unt) := ⟨_, rfl⟩
  obtain ⟨bw, hbw⟩ : ∃ b, b = decide (NowOk 1 now) := ⟨_, rfl⟩
  have HR : Hid (R = (bo && bn && bl && bp && bu && bw)) := by
    show R = (bo && bn && bl && bp && bu && bw)
    rw [hR, hbo, hbn, hbl, hbp, hbu, hbw]
    exact opOk_split (k := 1) (by unfold In; omega)
  clear hR
  have eo : own.toList.isEmpty = bo := by rw [hbo, owner_empty own (k := 1) (by omega)]
  have en : (name == 0) = bn := by rw [hbn, name_zero name (k := 1) (by unfold In; omega)]
  have el : decide (In (lgn : Int) 1 3) = bl := by rw [hbl]; exact decide_eq_decide.2 (by unfold LegsOkFor HasLegs In; simp; omega)
  have HO : Hid (bp = decide (PartyOkFor 1 ⟨pe, len, hei, cl, all, be⟩)) := hbp
  have HU : Hid (bu = decide (UntilOk 1 unt)) := hbu
  have HW : Hid (bw = decide (NowOk 1 now)) := hbw
  clear hbo hbn hbl hbp hbu hbw
  have d9 : decide (In 1 1 9) = true := by decide
  have dn : decide (In 1 4 8) = false := by decide
  have dl : decide (HasLegs 1) = true := by decide
  have hb0 : Below w.heap.size w (w.alloc (.cells #[.int .i64 1, .string own, .int .i64 name, .slice alg lgn clg, .int .i64 pe, .int .i64 len, .int .i64 hei, .int .i64 cl, .bool all, .int .i64 be, .int .i64 unt, .int .i64 now] 32)) := push (Below.refl _ _) _
  have b0 := heap_alloc_new w (.cells #[.int .i64 1, .string own, .int .i64 name, .slice alg lgn clg, .int .i64 pe, .int .i64 len, .int .i64 hei, .int .i64 cl, .bool all, .int .i64 be, .int .i64 unt, .int .i64 now] 32)
  go_enter Tryd.func26, Tryd.ntmps26
  go_upto_region 11 with (first | (go_at_call 27; refine (l1In_is _ _ _ _).mono ?_; rintro e w' ⟨rfl, hw'⟩; have hw' := hw'.symm; subst hw') | (go_at_call 39; refine (l7Named_is _ _).mono ?_; rintro e w' ⟨rfl, hw'⟩; have hw' := hw'.symm; subst hw') | (go_at_call 41; refine (l7Legs_is _ _).mono ?_; rintro e w' ⟨rfl, hw'⟩; have hw' := hw'.symm; subst hw'))
  generalize w.alloc (.cells #[.int .i64 1, .string own, .int .i64 name, .slice alg lgn clg, .int .i64 pe, .int .i64 len, .int .i64 hei, .int .i64 cl, .bool all, .int .i64 be, .int .i64 unt, .int .i64 now] 32) = W at hb0 b0 ⊢
  have y0 := blk_cell b0 0 _ rfl
  have y1 := blk_cell b0 1 _ rfl
  have y2 := blk_cell b0 2 _ rfl
  have y3 := blk_cell b0 3 _ rfl
  have y4 := blk_cell b0 4 _ rfl
  have y5 := blk_cell b0 5 _ rfl
  have y6 := blk_cell b0 6 _ rfl
  have y7 := blk_cell b0 7 _ rfl
  have y8 := blk_cell b0 8 _ rfl
  have y9 := blk_cell b0 9 _ rfl
  have y10 := blk_cell b0 10 _ rfl
  have y11 := blk_cell b0 11 _ rfl
  go_cut [7] (fun c wx => c = .bool (PZ pe len hei cl all be) ∧ wx = W)
  case first =>
    by_cases gpe : pe = 0
    · subst gpe
      by_cases glen : len = 0
      · subst glen
        by_cases ghei : hei = 0
        · subst ghei
          by_cases gcl : cl = 0
          · subst gcl
            cases all with
            | true =>
              have hz : PZ 0 0 0 0 true be = false := pz_no (fun h => by cases h.2.2.2.2.1)
              go_wp2
              go_meet
              exact ⟨by rw [hz], rfl⟩
            | false =>
              by_cases gbe : be = 0
              · subst gbe
                go_wp2
                go_meet
                exact ⟨rfl, rfl⟩
              · have ebe : (be == 0) = false := by simpa using gbe
                have hz : PZ 0 0 0 0 false be = false := pz_no (fun h => gbe h.2.2.2.2.2)
                go_wp2
                go_meet
                exact ⟨by rw [hz], rfl⟩
          · have ecl : (cl == 0) = false := by simpa using gcl
            have hz : PZ 0 0 0 cl all be = false := pz_no (fun h => gcl h.2.2.2.1)
            go_wp2
            go_meet
            exact ⟨by rw [hz], rfl⟩
        · have ehei : (hei == 0) = false := by simpa using ghei
          have hz : PZ 0 0 hei cl all be = false := pz_no (fun h => ghei h.2.2.1)
          go_wp2
          go_meet
          exact ⟨by rw [hz], rfl⟩
      · have elen : (len == 0) = false := by simpa using glen
        have hz : PZ 0 len hei cl all be = false := pz_no (fun h => glen h.2.1)
        go_wp2
        go_meet
        exact ⟨by rw [hz], rfl⟩
    · have epe : (pe == 0) = false := by simpa using gpe
      have hz : PZ pe len hei cl all be = false := pz_no (fun h => gpe h.1)
      go_wp2
      go_meet
      exact ⟨by rw [hz], rfl⟩
  case rest =>
    obtain ⟨rfl, hwc⟩ := hcut
    have hwc := hwc.symm
    subst hwc
    generalize PZ pe len hei cl all be = pz at *
    go_wp2_with (first | (go_at_call 27; refine (l1In_is _ _ _ _).mono ?_; rintro e w' ⟨rfl, hw'⟩; have hw' := hw'.symm; subst hw') | (go_at_call 39; refine (l7Named_is _ _).mono ?_; rintro e w' ⟨rfl, hw'⟩; have hw' := hw'.symm; subst hw') | (go_at_call 41; refine (l7Legs_is _ _).mono ?_; rintro e w' ⟨rfl, hw'⟩; have hw' := hw'.symm; subst hw'))
    refine (specParty_any pe len hei cl all be _).mono ?_
    rintro e W' ⟨⟨q, rfl, hq⟩, hb1⟩
    obtain rfl : bp = q := by rw [HO.out]; exact party_says (k := 1) (.inl rfl) hq
    have b1 := blk_below b0 hb1
    have hb2 := after hb0 hb1
    clear hb0 b0 hb1 hq y0 y1 y2 y3 y4 y5 y6 y7 y8 y9 y10 y11
    have y0 := blk_cell b1 0 _ rfl
    have y3 := blk_cell b1 3 _ rfl
    have y10 := blk_cell b1 10 _ rfl
    have y11 := blk_cell b1 11 _ rfl
    go_upto_region 17 with (first | (go_at_call 27; refine (l1In_is _ _ _ _).mono ?_; rintro e w' ⟨rfl, hw'⟩; have hw' := hw'.symm; subst hw') | (go_at_call 39; refine (l7Named_is _ _).mono ?_; rintro e w' ⟨rfl, hw'⟩; have hw' := hw'.symm; subst hw') | (go_at_call 41; refine (l7Legs_is _ _).mono ?_; rintro e w' ⟨rfl, hw'⟩; have hw' := hw'.symm; subst hw'))
    go_cut [8] (fun c wx => c = .bool bu ∧ wx = W')
    case first =>
      by_cases u0 : unt = 0
      · subst u0
        go_wp2
        go_meet
        exact ⟨by rw [HU.out, decide_eq_true (.inl rfl)], rfl⟩
      · have e0 : (unt == 0) = false := by simpa using u0
        have eu : bu = false := by rw [HU.out]; exact decide_eq_false (fun h => by rcases h with h | h; exact u0 h; exact absurd h.1 (by decide))
        go_wp2
        go_meet
        exact ⟨by rw [eu], rfl⟩
    case rest =>
      obtain ⟨rfl, hwc2⟩ := hcut
      have hwc2 := hwc2.symm
      subst hwc2
      go_upto_region 18 with (first | (go_at_call 27; refine (l1In_is _ _ _ _).mono ?_; rintro e w' ⟨rfl, hw'⟩; have hw' := hw'.symm; subst hw') | (go_at_call 39; refine (l7Named_is _ _).mono ?_; rintro e w' ⟨rfl, hw'⟩; have hw' := hw'.symm; subst hw') | (go_at_call 41; refine (l7Legs_is _ _).mono ?_; rintro e w' ⟨rfl, hw'⟩; have hw' := hw'.symm; subst hw'))
      go_cut [9] (fun c wx => c = .bool bw ∧ wx = W')
      case first =>
        by_cases u0 : now = 0
        · subst u0
          go_wp2
          go_meet
          exact ⟨by rw [HW.out, decide_eq_true (.inl rfl)], rfl⟩
        · have e0 : (now == 0) = false := by simpa using u0
          have eu : bw = false := by rw [HW.out]; exact decide_eq_false (fun h => by rcases h with h | h; exact u0 h; exact absurd h.1 (by decide))
          go_wp2
          go_meet
          exact ⟨by rw [eu], rfl⟩
      case rest =>
        obtain ⟨rfl, hwc3⟩ := hcut
        have hwc3 := hwc3.symm
        subst hwc3
        clear eo en el y0 y3 y10 y11
        cases bo with
        | false =>
          go_wp2
          go_ret
          exact ⟨by rw [HR.out]; simp, hb2⟩
        | true =>
          cases bn with
          | false =>
            go_wp2
            go_ret
            exact ⟨by rw [HR.out]; simp, hb2⟩
          | true =>
            cases bl with
            | false =>
              go_wp2
              go_ret
              exact ⟨by rw [HR.out]; simp, hb2⟩
            | true =>
              cases bp with
              | false =>
                go_wp2
                go_ret
                exact ⟨by rw [HR.out]; simp, hb2⟩
              | true =>
                cases bu with
                | false =>
                  go_wp2
                  go_ret
                  exact ⟨by rw [HR.out]; simp, hb2⟩
                | true =>
                  cases bw with
                  | false =>
                    go_wp2
                    go_ret
                    exact ⟨by rw [HR.out]; simp, hb2⟩
                  | true =>
                    go_wp2
                    go_ret
                    exact ⟨by rw [HR.out]; rfl, hb2⟩

set_option maxHeartbeats 3200000 in
set_option maxRecDepth 100000 in
theorem specOp_2 (own : ByteArray) (name : Int) (alg : Option Addr) (lgn clg : Nat) (lg : Nat → Int) (pe len hei cl : Int) (all : Bool) (be unt now : Int) (w : World) (hown : own.size ≤ 1000000000000000) :
    Calls Tryd.prog 26 #[.agg #[.int .i64 2, .string own, .int .i64 name, .slice alg lgn clg, .int .i64 pe, .int .i64 len, .int .i64 hei, .int .i64 cl, .bool all, .int .i64 be, .int .i64 unt, .int .i64 now]] w fun e w' => e = .returned (.bool (decide (OpOk ⟨2, own, name, lgn, lg, pe, len, hei, cl, all, be, unt, now⟩))) ∧ Below w.heap.size w w' := by
  obtain ⟨R, hR⟩ : ∃ R, R = decide (OpOk ⟨2, own, name, lgn, lg, pe, len, hei, cl, all, be, unt, now⟩) := ⟨_, rfl⟩
  rw [← hR]
  obtain ⟨bo, hbo⟩ : ∃ b, b = decide (OwnerOk 2 own) := ⟨_, rfl⟩
  obtain ⟨bn, hbn⟩ : ∃ b, b = decide (NameOk 2 name) := ⟨_, rfl⟩
  obtain ⟨bl, hbl⟩ : ∃ b, b = decide (LegsOkFor 2 lgn) := ⟨_, rfl⟩
  obtain ⟨bp, hbp⟩ : ∃ b, b = decide (PartyOkFor 2 ⟨pe, len, hei, cl, all, be⟩) := ⟨_, rfl⟩
  obtain ⟨bu, hbu⟩ : ∃ b, b = decide (UntilOk 2 unt) := ⟨_, rfl⟩
  obtain ⟨bw, hbw⟩ : ∃ b, b = decide (NowOk 2 now) := ⟨_, rfl⟩
  have HR : Hid (R = (bo && bn && bl && bp && bu && bw)) := by
    show R = (bo && bn && bl && bp && bu && bw)
    rw [hR, hbo, hbn, hbl, hbp, hbu, hbw]
    exact opOk_split (k := 2) (by unfold In; omega)
  clear hR
  have eo : decide (IsName own) = bo := by rw [hbo]; exact decide_eq_decide.2 (by unfold OwnerOk; simp)
  have en : (name == 0) = bn := by rw [hbn, name_zero name (k := 2) (by unfold In; omega)]
  have el : decide (In (lgn : Int) 1 3) = bl := by rw [hbl]; exact decide_eq_decide.2 (by unfold LegsOkFor HasLegs In; simp; omega)
  have HO : Hid (bp = decide (PartyOkFor 2 ⟨pe, len, hei, cl, all, be⟩)) := hbp
  have HU : Hid (bu = decide (UntilOk 2 unt)) := hbu
  have HW : Hid (bw = decide (NowOk 2 now)) := hbw
  clear hbo hbn hbl hbp hbu hbw
  have d9 : decide (In 2 1 9) = true := by decide
  have dn : decide (In 2 4 8) = false := by decide
  have dl : decide (HasLegs 2) = true := by decide
  have hb0 : Below w.heap.size w (w.alloc (.cells #[.int .i64 2, .string own, .int .i64 name, .slice alg lgn clg, .int .i64 pe, .int .i64 len, .int .i64 hei, .int .i64 cl, .bool all, .int .i64 be, .int .i64 unt, .int .i64 now] 32)) := push (Below.refl _ _) _
  have b0 := heap_alloc_new w (.cells #[.int .i64 2, .string own, .int .i64 name, .slice alg lgn clg, .int .i64 pe, .int .i64 len, .int .i64 hei, .int .i64 cl, .bool all, .int .i64 be, .int .i64 unt, .int .i64 now] 32)
  go_enter Tryd.func26, Tryd.ntmps26
  go_upto_region 11 with (first | (go_at_call 27; refine (l1In_is _ _ _ _).mono ?_; rintro e w' ⟨rfl, hw'⟩; have hw' := hw'.symm; subst hw') | (go_at_call 39; refine (l7Named_is _ _).mono ?_; rintro e w' ⟨rfl, hw'⟩; have hw' := hw'.symm; subst hw') | (go_at_call 41; refine (l7Legs_is _ _).mono ?_; rintro e w' ⟨rfl, hw'⟩; have hw' := hw'.symm; subst hw') | (go_at_call 64; refine (l1Name_is _ _ hown).mono ?_; rintro e w' ⟨rfl, hw'⟩; have hw' := hw'.symm; subst hw'))
  generalize w.alloc (.cells #[.int .i64 2, .string own, .int .i64 name, .slice alg lgn clg, .int .i64 pe, .int .i64 len, .int .i64 hei, .int .i64 cl, .bool all, .int .i64 be, .int .i64 unt, .int .i64 now] 32) = W at hb0 b0 ⊢
  have y0 := blk_cell b0 0 _ rfl
  have y1 := blk_cell b0 1 _ rfl
  have y2 := blk_cell b0 2 _ rfl
  have y3 := blk_cell b0 3 _ rfl
  have y4 := blk_cell b0 4 _ rfl
  have y5 := blk_cell b0 5 _ rfl
  have y6 := blk_cell b0 6 _ rfl
  have y7 := blk_cell b0 7 _ rfl
  have y8 := blk_cell b0 8 _ rfl
  have y9 := blk_cell b0 9 _ rfl
  have y10 := blk_cell b0 10 _ rfl
  have y11 := blk_cell b0 11 _ rfl
  go_cut [7] (fun c wx => c = .bool (PZ pe len hei cl all be) ∧ wx = W)
  case first =>
    by_cases gpe : pe = 0
    · subst gpe
      by_cases glen : len = 0
      · subst glen
        by_cases ghei : hei = 0
        · subst ghei
          by_cases gcl : cl = 0
          · subst gcl
            cases all with
            | true =>
              have hz : PZ 0 0 0 0 true be = false := pz_no (fun h => by cases h.2.2.2.2.1)
              go_wp2
              go_meet
              exact ⟨by rw [hz], rfl⟩
            | false =>
              by_cases gbe : be = 0
              · subst gbe
                go_wp2
                go_meet
                exact ⟨rfl, rfl⟩
              · have ebe : (be == 0) = false := by simpa using gbe
                have hz : PZ 0 0 0 0 false be = false := pz_no (fun h => gbe h.2.2.2.2.2)
                go_wp2
                go_meet
                exact ⟨by rw [hz], rfl⟩
          · have ecl : (cl == 0) = false := by simpa using gcl
            have hz : PZ 0 0 0 cl all be = false := pz_no (fun h => gcl h.2.2.2.1)
            go_wp2
            go_meet
            exact ⟨by rw [hz], rfl⟩
        · have ehei : (hei == 0) = false := by simpa using ghei
          have hz : PZ 0 0 hei cl all be = false := pz_no (fun h => ghei h.2.2.1)
          go_wp2
          go_meet
          exact ⟨by rw [hz], rfl⟩
      · have elen : (len == 0) = false := by simpa using glen
        have hz : PZ 0 len hei cl all be = false := pz_no (fun h => glen h.2.1)
        go_wp2
        go_meet
        exact ⟨by rw [hz], rfl⟩
    · have epe : (pe == 0) = false := by simpa using gpe
      have hz : PZ pe len hei cl all be = false := pz_no (fun h => gpe h.1)
      go_wp2
      go_meet
      exact ⟨by rw [hz], rfl⟩
  case rest =>
    obtain ⟨rfl, hwc⟩ := hcut
    have hwc := hwc.symm
    subst hwc
    generalize PZ pe len hei cl all be = pz at *
    go_wp2_with (first | (go_at_call 27; refine (l1In_is _ _ _ _).mono ?_; rintro e w' ⟨rfl, hw'⟩; have hw' := hw'.symm; subst hw') | (go_at_call 39; refine (l7Named_is _ _).mono ?_; rintro e w' ⟨rfl, hw'⟩; have hw' := hw'.symm; subst hw') | (go_at_call 41; refine (l7Legs_is _ _).mono ?_; rintro e w' ⟨rfl, hw'⟩; have hw' := hw'.symm; subst hw') | (go_at_call 64; refine (l1Name_is _ _ hown).mono ?_; rintro e w' ⟨rfl, hw'⟩; have hw' := hw'.symm; subst hw'))
    refine (specParty_any pe len hei cl all be _).mono ?_
    rintro e W' ⟨⟨q, rfl, hq⟩, hb1⟩
    obtain rfl : bp = q := by rw [HO.out]; exact party_says (k := 2) (.inr (.inl rfl)) hq
    have b1 := blk_below b0 hb1
    have hb2 := after hb0 hb1
    clear hb0 b0 hb1 hq y0 y1 y2 y3 y4 y5 y6 y7 y8 y9 y10 y11
    have y0 := blk_cell b1 0 _ rfl
    have y3 := blk_cell b1 3 _ rfl
    have y10 := blk_cell b1 10 _ rfl
    have y11 := blk_cell b1 11 _ rfl
    go_upto_region 17 with (first | (go_at_call 27; refine (l1In_is _ _ _ _).mono ?_; rintro e w' ⟨rfl, hw'⟩; have hw' := hw'.symm; subst hw') | (go_at_call 39; refine (l7Named_is _ _).mono ?_; rintro e w' ⟨rfl, hw'⟩; have hw' := hw'.symm; subst hw') | (go_at_call 41; refine (l7Legs_is _ _).mono ?_; rintro e w' ⟨rfl, hw'⟩; have hw' := hw'.symm; subst hw') | (go_at_call 64; refine (l1Name_is _ _ hown).mono ?_; rintro e w' ⟨rfl, hw'⟩; have hw' := hw'.symm; subst hw'))
    go_cut [8] (fun c wx => c = .bool bu ∧ wx = W')
    case first =>
      by_cases u0 : unt = 0
      · subst u0
        go_wp2
        go_meet
        exact ⟨by rw [HU.out, decide_eq_true (.inl rfl)], rfl⟩
      · have e0 : (unt == 0) = false := by simpa using u0
        have eu : decide (In unt 0 10000) = bu := by rw [HU.out]; exact decide_eq_decide.2 ⟨fun h => .inr ⟨rfl, h⟩, fun h => by rcases h with h | h; exact absurd h u0; exact h.2⟩
        go_wp2_with (first | (go_at_call 27; refine (l1In_is _ _ _ _).mono ?_; rintro e w' ⟨rfl, hw'⟩; have hw' := hw'.symm; subst hw') | (go_at_call 39; refine (l7Named_is _ _).mono ?_; rintro e w' ⟨rfl, hw'⟩; have hw' := hw'.symm; subst hw') | (go_at_call 41; refine (l7Legs_is _ _).mono ?_; rintro e w' ⟨rfl, hw'⟩; have hw' := hw'.symm; subst hw') | (go_at_call 64; refine (l1Name_is _ _ hown).mono ?_; rintro e w' ⟨rfl, hw'⟩; have hw' := hw'.symm; subst hw'))
        go_meet
        exact ⟨rfl, rfl⟩
    case rest =>
      obtain ⟨rfl, hwc2⟩ := hcut
      have hwc2 := hwc2.symm
      subst hwc2
      go_upto_region 18 with (first | (go_at_call 27; refine (l1In_is _ _ _ _).mono ?_; rintro e w' ⟨rfl, hw'⟩; have hw' := hw'.symm; subst hw') | (go_at_call 39; refine (l7Named_is _ _).mono ?_; rintro e w' ⟨rfl, hw'⟩; have hw' := hw'.symm; subst hw') | (go_at_call 41; refine (l7Legs_is _ _).mono ?_; rintro e w' ⟨rfl, hw'⟩; have hw' := hw'.symm; subst hw') | (go_at_call 64; refine (l1Name_is _ _ hown).mono ?_; rintro e w' ⟨rfl, hw'⟩; have hw' := hw'.symm; subst hw'))
      go_cut [9] (fun c wx => c = .bool bw ∧ wx = W')
      case first =>
        by_cases u0 : now = 0
        · subst u0
          go_wp2
          go_meet
          exact ⟨by rw [HW.out, decide_eq_true (.inl rfl)], rfl⟩
        · have e0 : (now == 0) = false := by simpa using u0
          have eu : bw = false := by rw [HW.out]; exact decide_eq_false (fun h => by rcases h with h | h; exact u0 h; exact absurd h.1 (by decide))
          go_wp2
          go_meet
          exact ⟨by rw [eu], rfl⟩
      case rest =>
        obtain ⟨rfl, hwc3⟩ := hcut
        have hwc3 := hwc3.symm
        subst hwc3
        clear eo en el y0 y3 y10 y11
        cases bo with
        | false =>
          go_wp2
          go_ret
          exact ⟨by rw [HR.out]; simp, hb2⟩
        | true =>
          cases bn with
          | false =>
            go_wp2
            go_ret
            exact ⟨by rw [HR.out]; simp, hb2⟩
          | true =>
            cases bl with
            | false =>
              go_wp2
              go_ret
              exact ⟨by rw [HR.out]; simp, hb2⟩
            | true =>
              cases bp with
              | false =>
                go_wp2
                go_ret
                exact ⟨by rw [HR.out]; simp, hb2⟩
              | true =>
                cases bu with
                | false =>
                  go_wp2
                  go_ret
                  exact ⟨by rw [HR.out]; simp, hb2⟩
                | true =>
                  cases bw with
                  | false =>
                    go_wp2
                    go_ret
                    exact ⟨by rw [HR.out]; simp, hb2⟩
                  | true =>
                    go_wp2
                    go_ret
                    exact ⟨by rw [HR.out]; rfl, hb2⟩

set_option maxHeartbeats 3200000 in
set_option maxRecDepth 100000 in
theorem specOp_3 (own : ByteArray) (name : Int) (alg : Option Addr) (lgn clg : Nat) (lg : Nat → Int) (pe len hei cl : Int) (all : Bool) (be unt now : Int) (w : World) (hown : own.size ≤ 1000000000000000) :
    Calls Tryd.prog 26 #[.agg #[.int .i64 3, .string own, .int .i64 name, .slice alg lgn clg, .int .i64 pe, .int .i64 len, .int .i64 hei, .int .i64 cl, .bool all, .int .i64 be, .int .i64 unt, .int .i64 now]] w fun e w' => e = .returned (.bool (decide (OpOk ⟨3, own, name, lgn, lg, pe, len, hei, cl, all, be, unt, now⟩))) ∧ Below w.heap.size w w' := by
  obtain ⟨R, hR⟩ : ∃ R, R = decide (OpOk ⟨3, own, name, lgn, lg, pe, len, hei, cl, all, be, unt, now⟩) := ⟨_, rfl⟩
  rw [← hR]
  obtain ⟨bo, hbo⟩ : ∃ b, b = decide (OwnerOk 3 own) := ⟨_, rfl⟩
  obtain ⟨bn, hbn⟩ : ∃ b, b = decide (NameOk 3 name) := ⟨_, rfl⟩
  obtain ⟨bl, hbl⟩ : ∃ b, b = decide (LegsOkFor 3 lgn) := ⟨_, rfl⟩
  obtain ⟨bp, hbp⟩ : ∃ b, b = decide (PartyOkFor 3 ⟨pe, len, hei, cl, all, be⟩) := ⟨_, rfl⟩
  obtain ⟨bu, hbu⟩ : ∃ b, b = decide (UntilOk 3 unt) := ⟨_, rfl⟩
  obtain ⟨bw, hbw⟩ : ∃ b, b = decide (NowOk 3 now) := ⟨_, rfl⟩
  have HR : Hid (R = (bo && bn && bl && bp && bu && bw)) := by
    show R = (bo && bn && bl && bp && bu && bw)
    rw [hR, hbo, hbn, hbl, hbp, hbu, hbw]
    exact opOk_split (k := 3) (by unfold In; omega)
  clear hR
  have eo : decide (IsName own) = bo := by rw [hbo]; exact decide_eq_decide.2 (by unfold OwnerOk; simp)
  have en : (name == 0) = bn := by rw [hbn, name_zero name (k := 3) (by unfold In; omega)]
  have el : decide (In (lgn : Int) 1 3) = bl := by rw [hbl]; exact decide_eq_decide.2 (by unfold LegsOkFor HasLegs In; simp; omega)
  have HO : Hid (bp = decide (PartyOkFor 3 ⟨pe, len, hei, cl, all, be⟩)) := hbp
  have HU : Hid (bu = decide (UntilOk 3 unt)) := hbu
  have HW : Hid (bw = decide (NowOk 3 now)) := hbw
  clear hbo hbn hbl hbp hbu hbw
  have d9 : decide (In 3 1 9) = true := by decide
  have dn : decide (In 3 4 8) = false := by decide
  have dl : decide (HasLegs 3) = true := by decide
  have hb0 : Below w.heap.size w (w.alloc (.cells #[.int .i64 3, .string own, .int .i64 name, .slice alg lgn clg, .int .i64 pe, .int .i64 len, .int .i64 hei, .int .i64 cl, .bool all, .int .i64 be, .int .i64 unt, .int .i64 now] 32)) := push (Below.refl _ _) _
  have b0 := heap_alloc_new w (.cells #[.int .i64 3, .string own, .int .i64 name, .slice alg lgn clg, .int .i64 pe, .int .i64 len, .int .i64 hei, .int .i64 cl, .bool all, .int .i64 be, .int .i64 unt, .int .i64 now] 32)
  go_enter Tryd.func26, Tryd.ntmps26
  go_upto_region 11 with (first | (go_at_call 27; refine (l1In_is _ _ _ _).mono ?_; rintro e w' ⟨rfl, hw'⟩; have hw' := hw'.symm; subst hw') | (go_at_call 39; refine (l7Named_is _ _).mono ?_; rintro e w' ⟨rfl, hw'⟩; have hw' := hw'.symm; subst hw') | (go_at_call 41; refine (l7Legs_is _ _).mono ?_; rintro e w' ⟨rfl, hw'⟩; have hw' := hw'.symm; subst hw') | (go_at_call 64; refine (l1Name_is _ _ hown).mono ?_; rintro e w' ⟨rfl, hw'⟩; have hw' := hw'.symm; subst hw'))
  generalize w.alloc (.cells #[.int .i64 3, .string own, .int .i64 name, .slice alg lgn clg, .int .i64 pe, .int .i64 len, .int .i64 hei, .int .i64 cl, .bool all, .int .i64 be, .int .i64 unt, .int .i64 now] 32) = W at hb0 b0 ⊢
  have y0 := blk_cell b0 0 _ rfl
  have y1 := blk_cell b0 1 _ rfl
  have y2 := blk_cell b0 2 _ rfl
  have y3 := blk_cell b0 3 _ rfl
  have y4 := blk_cell b0 4 _ rfl
  have y5 := blk_cell b0 5 _ rfl
  have y6 := blk_cell b0 6 _ rfl
  have y7 := blk_cell b0 7 _ rfl
  have y8 := blk_cell b0 8 _ rfl
  have y9 := blk_cell b0 9 _ rfl
  have y10 := blk_cell b0 10 _ rfl
  have y11 := blk_cell b0 11 _ rfl
  go_cut [7] (fun c wx => c = .bool (PZ pe len hei cl all be) ∧ wx = W)
  case first =>
    by_cases gpe : pe = 0
    · subst gpe
      by_cases glen : len = 0
      · subst glen
        by_cases ghei : hei = 0
        · subst ghei
          by_cases gcl : cl = 0
          · subst gcl
            cases all with
            | true =>
              have hz : PZ 0 0 0 0 true be = false := pz_no (fun h => by cases h.2.2.2.2.1)
              go_wp2
              go_meet
              exact ⟨by rw [hz], rfl⟩
            | false =>
              by_cases gbe : be = 0
              · subst gbe
                go_wp2
                go_meet
                exact ⟨rfl, rfl⟩
              · have ebe : (be == 0) = false := by simpa using gbe
                have hz : PZ 0 0 0 0 false be = false := pz_no (fun h => gbe h.2.2.2.2.2)
                go_wp2
                go_meet
                exact ⟨by rw [hz], rfl⟩
          · have ecl : (cl == 0) = false := by simpa using gcl
            have hz : PZ 0 0 0 cl all be = false := pz_no (fun h => gcl h.2.2.2.1)
            go_wp2
            go_meet
            exact ⟨by rw [hz], rfl⟩
        · have ehei : (hei == 0) = false := by simpa using ghei
          have hz : PZ 0 0 hei cl all be = false := pz_no (fun h => ghei h.2.2.1)
          go_wp2
          go_meet
          exact ⟨by rw [hz], rfl⟩
      · have elen : (len == 0) = false := by simpa using glen
        have hz : PZ 0 len hei cl all be = false := pz_no (fun h => glen h.2.1)
        go_wp2
        go_meet
        exact ⟨by rw [hz], rfl⟩
    · have epe : (pe == 0) = false := by simpa using gpe
      have hz : PZ pe len hei cl all be = false := pz_no (fun h => gpe h.1)
      go_wp2
      go_meet
      exact ⟨by rw [hz], rfl⟩
  case rest =>
    obtain ⟨rfl, hwc⟩ := hcut
    have hwc := hwc.symm
    subst hwc
    generalize PZ pe len hei cl all be = pz at *
    go_wp2_with (first | (go_at_call 27; refine (l1In_is _ _ _ _).mono ?_; rintro e w' ⟨rfl, hw'⟩; have hw' := hw'.symm; subst hw') | (go_at_call 39; refine (l7Named_is _ _).mono ?_; rintro e w' ⟨rfl, hw'⟩; have hw' := hw'.symm; subst hw') | (go_at_call 41; refine (l7Legs_is _ _).mono ?_; rintro e w' ⟨rfl, hw'⟩; have hw' := hw'.symm; subst hw') | (go_at_call 64; refine (l1Name_is _ _ hown).mono ?_; rintro e w' ⟨rfl, hw'⟩; have hw' := hw'.symm; subst hw'))
    refine (specParty_any pe len hei cl all be _).mono ?_
    rintro e W' ⟨⟨q, rfl, hq⟩, hb1⟩
    obtain rfl : bp = q := by rw [HO.out]; exact party_says (k := 3) (.inr (.inr (.inl rfl))) hq
    have b1 := blk_below b0 hb1
    have hb2 := after hb0 hb1
    clear hb0 b0 hb1 hq y0 y1 y2 y3 y4 y5 y6 y7 y8 y9 y10 y11
    have y0 := blk_cell b1 0 _ rfl
    have y3 := blk_cell b1 3 _ rfl
    have y10 := blk_cell b1 10 _ rfl
    have y11 := blk_cell b1 11 _ rfl
    go_upto_region 17 with (first | (go_at_call 27; refine (l1In_is _ _ _ _).mono ?_; rintro e w' ⟨rfl, hw'⟩; have hw' := hw'.symm; subst hw') | (go_at_call 39; refine (l7Named_is _ _).mono ?_; rintro e w' ⟨rfl, hw'⟩; have hw' := hw'.symm; subst hw') | (go_at_call 41; refine (l7Legs_is _ _).mono ?_; rintro e w' ⟨rfl, hw'⟩; have hw' := hw'.symm; subst hw') | (go_at_call 64; refine (l1Name_is _ _ hown).mono ?_; rintro e w' ⟨rfl, hw'⟩; have hw' := hw'.symm; subst hw'))
    go_cut [8] (fun c wx => c = .bool bu ∧ wx = W')
    case first =>
      by_cases u0 : unt = 0
      · subst u0
        go_wp2
        go_meet
        exact ⟨by rw [HU.out, decide_eq_true (.inl rfl)], rfl⟩
      · have e0 : (unt == 0) = false := by simpa using u0
        have eu : bu = false := by rw [HU.out]; exact decide_eq_false (fun h => by rcases h with h | h; exact u0 h; exact absurd h.1 (by decide))
        go_wp2
        go_meet
        exact ⟨by rw [eu], rfl⟩
    case rest =>
      obtain ⟨rfl, hwc2⟩ := hcut
      have hwc2 := hwc2.symm
      subst hwc2
      go_upto_region 18 with (first | (go_at_call 27; refine (l1In_is _ _ _ _).mono ?_; rintro e w' ⟨rfl, hw'⟩; have hw' := hw'.symm; subst hw') | (go_at_call 39; refine (l7Named_is _ _).mono ?_; rintro e w' ⟨rfl, hw'⟩; have hw' := hw'.symm; subst hw') | (go_at_call 41; refine (l7Legs_is _ _).mono ?_; rintro e w' ⟨rfl, hw'⟩; have hw' := hw'.symm; subst hw') | (go_at_call 64; refine (l1Name_is _ _ hown).mono ?_; rintro e w' ⟨rfl, hw'⟩; have hw' := hw'.symm; subst hw'))
      go_cut [9] (fun c wx => c = .bool bw ∧ wx = W')
      case first =>
        by_cases u0 : now = 0
        · subst u0
          go_wp2
          go_meet
          exact ⟨by rw [HW.out, decide_eq_true (.inl rfl)], rfl⟩
        · have e0 : (now == 0) = false := by simpa using u0
          have eu : bw = false := by rw [HW.out]; exact decide_eq_false (fun h => by rcases h with h | h; exact u0 h; exact absurd h.1 (by decide))
          go_wp2
          go_meet
          exact ⟨by rw [eu], rfl⟩
      case rest =>
        obtain ⟨rfl, hwc3⟩ := hcut
        have hwc3 := hwc3.symm
        subst hwc3
        clear eo en el y0 y3 y10 y11
        cases bo with
        | false =>
          go_wp2
          go_ret
          exact ⟨by rw [HR.out]; simp, hb2⟩
        | true =>
          cases bn with
          | false =>
            go_wp2
            go_ret
            exact ⟨by rw [HR.out]; simp, hb2⟩
          | true =>
            cases bl with
            | false =>
              go_wp2
              go_ret
              exact ⟨by rw [HR.out]; simp, hb2⟩
            | true =>
              cases bp with
              | false =>
                go_wp2
                go_ret
                exact ⟨by rw [HR.out]; simp, hb2⟩
              | true =>
                cases bu with
                | false =>
                  go_wp2
                  go_ret
                  exact ⟨by rw [HR.out]; simp, hb2⟩
                | true =>
                  cases bw with
                  | false =>
                    go_wp2
                    go_ret
                    exact ⟨by rw [HR.out]; simp, hb2⟩
                  | true =>
                    go_wp2
                    go_ret
                    exact ⟨by rw [HR.out]; rfl, hb2⟩

end Go.Proofs.YtfbooamjddnagaaDoor

namespace Go.Proofs.YtfbooamjddnagaaDoor
open Go.RowKit

set_option maxHeartbeats 3200000 in
set_option maxRecDepth 100000 in
theorem specOp_4 (own : ByteArray) (name : Int) (alg : Option Addr) (lgn clg : Nat) (lg : Nat → Int) (pe len hei cl : Int) (all : Bool) (be unt now : Int) (w : World) (_ : own.size ≤ 1000000000000000) :
    Calls Tryd.prog 26 #[.agg #[.int .i64 4, .string own, .int .i64 name, .slice alg lgn clg, .int .i64 pe, .int .i64 len, .int .i64 hei, .int .i64 cl, .bool all, .int .i64 be, .int .i64 unt, .int .i64 now]] w fun e w' => e = .returned (.bool (decide (OpOk ⟨4, own, name, lgn, lg, pe, len, hei, cl, all, be, unt, now⟩))) ∧ Below w.heap.size w w' := by
  obtain ⟨R, hR⟩ : ∃ R, R = decide (OpOk ⟨4, own, name, lgn, lg, pe, len, hei, cl, all, be, unt, now⟩) := ⟨_, rfl⟩
  rw [← hR]
  obtain ⟨bo, hbo⟩ : ∃ b, b = decide (OwnerOk 4 own) := ⟨_, rfl⟩
  obtain ⟨bn, hbn⟩ : ∃ b, b = decide (NameOk 4 name) := ⟨_, rfl⟩
  obtain ⟨bl, hbl⟩ : ∃ b, b = decide (LegsOkFor 4 lgn) := ⟨_, rfl⟩
  obtain ⟨bp, hbp⟩ : ∃ b, b = decide (PartyOkFor 4 ⟨pe, len, hei, cl, all, be⟩) := ⟨_, rfl⟩
  obtain ⟨bu, hbu⟩ : ∃ b, b = decide (UntilOk 4 unt) := ⟨_, rfl⟩
  obtain ⟨bw, hbw⟩ : ∃ b, b = decide (NowOk 4 now) := ⟨_, rfl⟩
  have HR : Hid (R = (bo && bn && bl && bp && bu && bw)) := by
    show R = (bo && bn && bl && bp && bu && bw)
    rw [hR, hbo, hbn, hbl, hbp, hbu, hbw]
    exact opOk_split (k := 4) (by unfold In; omega)
  clear hR
  have eo : own.toList.isEmpty = bo := by rw [hbo, owner_empty own (k := 4) (by omega)]
  have en : decide (In name 1 30) = bn := by rw [hbn]; exact decide_eq_decide.2 (by unfold NameOk In; simp)
  have el : ((lgn : Int) == 0) = bl := by rw [hbl, int_zero]; exact decide_eq_decide.2 (by unfold LegsOkFor HasLegs; simp)
  have HO : Hid (bp = decide (PartyOkFor 4 ⟨pe, len, hei, cl, all, be⟩)) := hbp
  have HU : Hid (bu = decide (UntilOk 4 unt)) := hbu
  have HW : Hid (bw = decide (NowOk 4 now)) := hbw
  clear hbo hbn hbl hbp hbu hbw
  have d9 : decide (In 4 1 9) = true := by decide
  have dn : decide (In 4 4 8) = true := by decide
  have dl : decide (HasLegs 4) = false := by decide
  have hb0 : Below w.heap.size w (w.alloc (.cells #[.int .i64 4, .string own, .int .i64 name, .slice alg lgn clg, .int .i64 pe, .int .i64 len, .int .i64 hei, .int .i64 cl, .bool all, .int .i64 be, .int .i64 unt, .int .i64 now] 32)) := push (Below.refl _ _) _
  have b0 := heap_alloc_new w (.cells #[.int .i64 4, .string own, .int .i64 name, .slice alg lgn clg, .int .i64 pe, .int .i64 len, .int .i64 hei, .int .i64 cl, .bool all, .int .i64 be, .int .i64 unt, .int .i64 now] 32)
  go_enter Tryd.func26, Tryd.ntmps26
  go_upto_region 11 with (first | (go_at_call 27; refine (l1In_is _ _ _ _).mono ?_; rintro e w' ⟨rfl, hw'⟩; have hw' := hw'.symm; subst hw') | (go_at_call 39; refine (l7Named_is _ _).mono ?_; rintro e w' ⟨rfl, hw'⟩; have hw' := hw'.symm; subst hw') | (go_at_call 41; refine (l7Legs_is _ _).mono ?_; rintro e w' ⟨rfl, hw'⟩; have hw' := hw'.symm; subst hw'))
  generalize w.alloc (.cells #[.int .i64 4, .string own, .int .i64 name, .slice alg lgn clg, .int .i64 pe, .int .i64 len, .int .i64 hei, .int .i64 cl, .bool all, .int .i64 be, .int .i64 unt, .int .i64 now] 32) = W at hb0 b0 ⊢
  have y0 := blk_cell b0 0 _ rfl
  have y1 := blk_cell b0 1 _ rfl
  have y2 := blk_cell b0 2 _ rfl
  have y3 := blk_cell b0 3 _ rfl
  have y4 := blk_cell b0 4 _ rfl
  have y5 := blk_cell b0 5 _ rfl
  have y6 := blk_cell b0 6 _ rfl
  have y7 := blk_cell b0 7 _ rfl
  have y8 := blk_cell b0 8 _ rfl
  have y9 := blk_cell b0 9 _ rfl
  have y10 := blk_cell b0 10 _ rfl
  have y11 := blk_cell b0 11 _ rfl
  go_cut [7] (fun c wx => c = .bool (PZ pe len hei cl all be) ∧ wx = W)
  case first =>
    by_cases gpe : pe = 0
    · subst gpe
      by_cases glen : len = 0
      · subst glen
        by_cases ghei : hei = 0
        · subst ghei
          by_cases gcl : cl = 0
          · subst gcl
            cases all with
            | true =>
              have hz : PZ 0 0 0 0 true be = false := pz_no (fun h => by cases h.2.2.2.2.1)
              go_wp2
              go_meet
              exact ⟨by rw [hz], rfl⟩
            | false =>
              by_cases gbe : be = 0
              · subst gbe
                go_wp2
                go_meet
                exact ⟨rfl, rfl⟩
              · have ebe : (be == 0) = false := by simpa using gbe
                have hz : PZ 0 0 0 0 false be = false := pz_no (fun h => gbe h.2.2.2.2.2)
                go_wp2
                go_meet
                exact ⟨by rw [hz], rfl⟩
          · have ecl : (cl == 0) = false := by simpa using gcl
            have hz : PZ 0 0 0 cl all be = false := pz_no (fun h => gcl h.2.2.2.1)
            go_wp2
            go_meet
            exact ⟨by rw [hz], rfl⟩
        · have ehei : (hei == 0) = false := by simpa using ghei
          have hz : PZ 0 0 hei cl all be = false := pz_no (fun h => ghei h.2.2.1)
          go_wp2
          go_meet
          exact ⟨by rw [hz], rfl⟩
      · have elen : (len == 0) = false := by simpa using glen
        have hz : PZ 0 len hei cl all be = false := pz_no (fun h => glen h.2.1)
        go_wp2
        go_meet
        exact ⟨by rw [hz], rfl⟩
    · have epe : (pe == 0) = false := by simpa using gpe
      have hz : PZ pe len hei cl all be = false := pz_no (fun h => gpe h.1)
      go_wp2
      go_meet
      exact ⟨by rw [hz], rfl⟩
  case rest =>
    obtain ⟨rfl, hwc⟩ := hcut
    have hwc := hwc.symm
    subst hwc
    obtain rfl : PZ pe len hei cl all be = bp := by rw [HO.out]; exact party_none (k := 4) (by unfold HasLegs; omega)
    generalize PZ pe len hei cl all be = bp at *
    have hb2 := hb0
    clear hb0 b0
    go_upto_region 17 with (first | (go_at_call 27; refine (l1In_is _ _ _ _).mono ?_; rintro e w' ⟨rfl, hw'⟩; have hw' := hw'.symm; subst hw') | (go_at_call 39; refine (l7Named_is _ _).mono ?_; rintro e w' ⟨rfl, hw'⟩; have hw' := hw'.symm; subst hw') | (go_at_call 41; refine (l7Legs_is _ _).mono ?_; rintro e w' ⟨rfl, hw'⟩; have hw' := hw'.symm; subst hw'))
    go_cut [8] (fun c wx => c = .bool bu ∧ wx = W)
    case first =>
      by_cases u0 : unt = 0
      · subst u0
        go_wp2
        go_meet
        exact ⟨by rw [HU.out, decide_eq_true (.inl rfl)], rfl⟩
      · have e0 : (unt == 0) = false := by simpa using u0
        have eu : bu = false := by rw [HU.out]; exact decide_eq_false (fun h => by rcases h with h | h; exact u0 h; exact absurd h.1 (by decide))
        go_wp2
        go_meet
        exact ⟨by rw [eu], rfl⟩
    case rest =>
      obtain ⟨rfl, hwc2⟩ := hcut
      have hwc2 := hwc2.symm
      subst hwc2
      go_upto_region 18 with (first | (go_at_call 27; refine (l1In_is _ _ _ _).mono ?_; rintro e w' ⟨rfl, hw'⟩; have hw' := hw'.symm; subst hw') | (go_at_call 39; refine (l7Named_is _ _).mono ?_; rintro e w' ⟨rfl, hw'⟩; have hw' := hw'.symm; subst hw') | (go_at_call 41; refine (l7Legs_is _ _).mono ?_; rintro e w' ⟨rfl, hw'⟩; have hw' := hw'.symm; subst hw'))
      go_cut [9] (fun c wx => c = .bool bw ∧ wx = W)
      case first =>
        by_cases u0 : now = 0
        · subst u0
          go_wp2
          go_meet
          exact ⟨by rw [HW.out, decide_eq_true (.inl rfl)], rfl⟩
        · have e0 : (now == 0) = false := by simpa using u0
          have eu : bw = false := by rw [HW.out]; exact decide_eq_false (fun h => by rcases h with h | h; exact u0 h; exact absurd h.1 (by decide))
          go_wp2
          go_meet
          exact ⟨by rw [eu], rfl⟩
      case rest =>
        obtain ⟨rfl, hwc3⟩ := hcut
        have hwc3 := hwc3.symm
        subst hwc3
        clear eo en el y0 y1 y2 y3 y4 y5 y6 y7 y8 y9 y10 y11
        cases bo with
        | false =>
          go_wp2
          go_ret
          exact ⟨by rw [HR.out]; simp, hb2⟩
        | true =>
          cases bn with
          | false =>
            go_wp2
            go_ret
            exact ⟨by rw [HR.out]; simp, hb2⟩
          | true =>
            cases bl with
            | false =>
              go_wp2
              go_ret
              exact ⟨by rw [HR.out]; simp, hb2⟩
            | true =>
              cases bp with
              | false =>
                go_wp2
                go_ret
                exact ⟨by rw [HR.out]; simp, hb2⟩
              | true =>
                cases bu with
                | false =>
                  go_wp2
                  go_ret
                  exact ⟨by rw [HR.out]; simp, hb2⟩
                | true =>
                  cases bw with
                  | false =>
                    go_wp2
                    go_ret
                    exact ⟨by rw [HR.out]; simp, hb2⟩
                  | true =>
                    go_wp2
                    go_ret
                    exact ⟨by rw [HR.out]; rfl, hb2⟩

set_option maxHeartbeats 3200000 in
set_option maxRecDepth 100000 in
theorem specOp_5 (own : ByteArray) (name : Int) (alg : Option Addr) (lgn clg : Nat) (lg : Nat → Int) (pe len hei cl : Int) (all : Bool) (be unt now : Int) (w : World) (_ : own.size ≤ 1000000000000000) :
    Calls Tryd.prog 26 #[.agg #[.int .i64 5, .string own, .int .i64 name, .slice alg lgn clg, .int .i64 pe, .int .i64 len, .int .i64 hei, .int .i64 cl, .bool all, .int .i64 be, .int .i64 unt, .int .i64 now]] w fun e w' => e = .returned (.bool (decide (OpOk ⟨5, own, name, lgn, lg, pe, len, hei, cl, all, be, unt, now⟩))) ∧ Below w.heap.size w w' := by
  obtain ⟨R, hR⟩ : ∃ R, R = decide (OpOk ⟨5, own, name, lgn, lg, pe, len, hei, cl, all, be, unt, now⟩) := ⟨_, rfl⟩
  rw [← hR]
  obtain ⟨bo, hbo⟩ : ∃ b, b = decide (OwnerOk 5 own) := ⟨_, rfl⟩
  obtain ⟨bn, hbn⟩ : ∃ b, b = decide (NameOk 5 name) := ⟨_, rfl⟩
  obtain ⟨bl, hbl⟩ : ∃ b, b = decide (LegsOkFor 5 lgn) := ⟨_, rfl⟩
  obtain ⟨bp, hbp⟩ : ∃ b, b = decide (PartyOkFor 5 ⟨pe, len, hei, cl, all, be⟩) := ⟨_, rfl⟩
  obtain ⟨bu, hbu⟩ : ∃ b, b = decide (UntilOk 5 unt) := ⟨_, rfl⟩
  obtain ⟨bw, hbw⟩ : ∃ b, b = decide (NowOk 5 now) := ⟨_, rfl⟩
  have HR : Hid (R = (bo && bn && bl && bp && bu && bw)) := by
    show R = (bo && bn && bl && bp && bu && bw)
    rw [hR, hbo, hbn, hbl, hbp, hbu, hbw]
    exact opOk_split (k := 5) (by unfold In; omega)
  clear hR
  have eo : own.toList.isEmpty = bo := by rw [hbo, owner_empty own (k := 5) (by omega)]
  have en : decide (In name 1 30) = bn := by rw [hbn]; exact decide_eq_decide.2 (by unfold NameOk In; simp)
  have el : decide (In (lgn : Int) 1 3) = bl := by rw [hbl]; exact decide_eq_decide.2 (by unfold LegsOkFor HasLegs In; simp; omega)
  have HO : Hid (bp = decide (PartyOkFor 5 ⟨pe, len, hei, cl, all, be⟩)) := hbp
  have HU : Hid (bu = decide (UntilOk 5 unt)) := hbu
  have HW : Hid (bw = decide (NowOk 5 now)) := hbw
  clear hbo hbn hbl hbp hbu hbw
  have d9 : decide (In 5 1 9) = true := by decide
  have dn : decide (In 5 4 8) = true := by decide
  have dl : decide (HasLegs 5) = true := by decide
  have hb0 : Below w.heap.size w (w.alloc (.cells #[.int .i64 5, .string own, .int .i64 name, .slice alg lgn clg, .int .i64 pe, .int .i64 len, .int .i64 hei, .int .i64 cl, .bool all, .int .i64 be, .int .i64 unt, .int .i64 now] 32)) := push (Below.refl _ _) _
  have b0 := heap_alloc_new w (.cells #[.int .i64 5, .string own, .int .i64 name, .slice alg lgn clg, .int .i64 pe, .int .i64 len, .int .i64 hei, .int .i64 cl, .bool all, .int .i64 be, .int .i64 unt, .int .i64 now] 32)
  go_enter Tryd.func26, Tryd.ntmps26
  go_upto_region 11 with (first | (go_at_call 27; refine (l1In_is _ _ _ _).mono ?_; rintro e w' ⟨rfl, hw'⟩; have hw' := hw'.symm; subst hw') | (go_at_call 39; refine (l7Named_is _ _).mono ?_; rintro e w' ⟨rfl, hw'⟩; have hw' := hw'.symm; subst hw') | (go_at_call 41; refine (l7Legs_is _ _).mono ?_; rintro e w' ⟨rfl, hw'⟩; have hw' := hw'.symm; subst hw'))
  generalize w.alloc (.cells #[.int .i64 5, .string own, .int .i64 name, .slice alg lgn clg, .int .i64 pe, .int .i64 len, .int .i64 hei, .int .i64 cl, .bool all, .int .i64 be, .int .i64 unt, .int .i64 now] 32) = W at hb0 b0 ⊢
  have y0 := blk_cell b0 0 _ rfl
  have y1 := blk_cell b0 1 _ rfl
  have y2 := blk_cell b0 2 _ rfl
  have y3 := blk_cell b0 3 _ rfl
  have y4 := blk_cell b0 4 _ rfl
  have y5 := blk_cell b0 5 _ rfl
  have y6 := blk_cell b0 6 _ rfl
  have y7 := blk_cell b0 7 _ rfl
  have y8 := blk_cell b0 8 _ rfl
  have y9 := blk_cell b0 9 _ rfl
  have y10 := blk_cell b0 10 _ rfl
  have y11 := blk_cell b0 11 _ rfl
  go_cut [7] (fun c wx => c = .bool (PZ pe len hei cl all be) ∧ wx = W)
  case first =>
    by_cases gpe : pe = 0
    · subst gpe
      by_cases glen : len = 0
      · subst glen
        by_cases ghei : hei = 0
        · subst ghei
          by_cases gcl : cl = 0
          · subst gcl
            cases all with
            | true =>
              have hz : PZ 0 0 0 0 true be = false := pz_no (fun h => by cases h.2.2.2.2.1)
              go_wp2
              go_meet
              exact ⟨by rw [hz], rfl⟩
            | false =>
              by_cases gbe : be = 0
              · subst gbe
                go_wp2
                go_meet
                exact ⟨rfl, rfl⟩
              · have ebe : (be == 0) = false := by simpa using gbe
                have hz : PZ 0 0 0 0 false be = false := pz_no (fun h => gbe h.2.2.2.2.2)
                go_wp2
                go_meet
                exact ⟨by rw [hz], rfl⟩
          · have ecl : (cl == 0) = false := by simpa using gcl
            have hz : PZ 0 0 0 cl all be = false := pz_no (fun h => gcl h.2.2.2.1)
            go_wp2
            go_meet
            exact ⟨by rw [hz], rfl⟩
        · have ehei : (hei == 0) = false := by simpa using ghei
          have hz : PZ 0 0 hei cl all be = false := pz_no (fun h => ghei h.2.2.1)
          go_wp2
          go_meet
          exact ⟨by rw [hz], rfl⟩
      · have elen : (len == 0) = false := by simpa using glen
        have hz : PZ 0 len hei cl all be = false := pz_no (fun h => glen h.2.1)
        go_wp2
        go_meet
        exact ⟨by rw [hz], rfl⟩
    · have epe : (pe == 0) = false := by simpa using gpe
      have hz : PZ pe len hei cl all be = false := pz_no (fun h => gpe h.1)
      go_wp2
      go_meet
      exact ⟨by rw [hz], rfl⟩
  case rest =>
    obtain ⟨rfl, hwc⟩ := hcut
    have hwc := hwc.symm
    subst hwc
    generalize PZ pe len hei cl all be = pz at *
    go_wp2_with (first | (go_at_call 27; refine (l1In_is _ _ _ _).mono ?_; rintro e w' ⟨rfl, hw'⟩; have hw' := hw'.symm; subst hw') | (go_at_call 39; refine (l7Named_is _ _).mono ?_; rintro e w' ⟨rfl, hw'⟩; have hw' := hw'.symm; subst hw') | (go_at_call 41; refine (l7Legs_is _ _).mono ?_; rintro e w' ⟨rfl, hw'⟩; have hw' := hw'.symm; subst hw'))
    refine (specParty_any pe len hei cl all be _).mono ?_
    rintro e W' ⟨⟨q, rfl, hq⟩, hb1⟩
    obtain rfl : bp = q := by rw [HO.out]; exact party_says (k := 5) (.inr (.inr (.inr rfl))) hq
    have b1 := blk_below b0 hb1
    have hb2 := after hb0 hb1
    clear hb0 b0 hb1 hq y0 y1 y2 y3 y4 y5 y6 y7 y8 y9 y10 y11
    have y0 := blk_cell b1 0 _ rfl
    have y3 := blk_cell b1 3 _ rfl
    have y10 := blk_cell b1 10 _ rfl
    have y11 := blk_cell b1 11 _ rfl
    go_upto_region 17 with (first | (go_at_call 27; refine (l1In_is _ _ _ _).mono ?_; rintro e w' ⟨rfl, hw'⟩; have hw' := hw'.symm; subst hw') | (go_at_call 39; refine (l7Named_is _ _).mono ?_; rintro e w' ⟨rfl, hw'⟩; have hw' := hw'.symm; subst hw') | (go_at_call 41; refine (l7Legs_is _ _).mono ?_; rintro e w' ⟨rfl, hw'⟩; have hw' := hw'.symm; subst hw'))
    go_cut [8] (fun c wx => c = .bool bu ∧ wx = W')
    case first =>
      by_cases u0 : unt = 0
      · subst u0
        go_wp2
        go_meet
        exact ⟨by rw [HU.out, decide_eq_true (.inl rfl)], rfl⟩
      · have e0 : (unt == 0) = false := by simpa using u0
        have eu : bu = false := by rw [HU.out]; exact decide_eq_false (fun h => by rcases h with h | h; exact u0 h; exact absurd h.1 (by decide))
        go_wp2
        go_meet
        exact ⟨by rw [eu], rfl⟩
    case rest =>
      obtain ⟨rfl, hwc2⟩ := hcut
      have hwc2 := hwc2.symm
      subst hwc2
      go_upto_region 18 with (first | (go_at_call 27; refine (l1In_is _ _ _ _).mono ?_; rintro e w' ⟨rfl, hw'⟩; have hw' := hw'.symm; subst hw') | (go_at_call 39; refine (l7Named_is _ _).mono ?_; rintro e w' ⟨rfl, hw'⟩; have hw' := hw'.symm; subst hw') | (go_at_call 41; refine (l7Legs_is _ _).mono ?_; rintro e w' ⟨rfl, hw'⟩; have hw' := hw'.symm; subst hw'))
      go_cut [9] (fun c wx => c = .bool bw ∧ wx = W')
      case first =>
        by_cases u0 : now = 0
        · subst u0
          go_wp2
          go_meet
          exact ⟨by rw [HW.out, decide_eq_true (.inl rfl)], rfl⟩
        · have e0 : (now == 0) = false := by simpa using u0
          have eu : bw = false := by rw [HW.out]; exact decide_eq_false (fun h => by rcases h with h | h; exact u0 h; exact absurd h.1 (by decide))
          go_wp2
          go_meet
          exact ⟨by rw [eu], rfl⟩
      case rest =>
        obtain ⟨rfl, hwc3⟩ := hcut
        have hwc3 := hwc3.symm
        subst hwc3
        clear eo en el y0 y3 y10 y11
        cases bo with
        | false =>
          go_wp2
          go_ret
          exact ⟨by rw [HR.out]; simp, hb2⟩
        | true =>
          cases bn with
          | false =>
            go_wp2
            go_ret
            exact ⟨by rw [HR.out]; simp, hb2⟩
          | true =>
            cases bl with
            | false =>
              go_wp2
              go_ret
              exact ⟨by rw [HR.out]; simp, hb2⟩
            | true =>
              cases bp with
              | false =>
                go_wp2
                go_ret
                exact ⟨by rw [HR.out]; simp, hb2⟩
              | true =>
                cases bu with
                | false =>
                  go_wp2
                  go_ret
                  exact ⟨by rw [HR.out]; simp, hb2⟩
                | true =>
                  cases bw with
                  | false =>
                    go_wp2
                    go_ret
                    exact ⟨by rw [HR.out]; simp, hb2⟩
                  | true =>
                    go_wp2
                    go_ret
                    exact ⟨by rw [HR.out]; rfl, hb2⟩

set_option maxHeartbeats 3200000 in
set_option maxRecDepth 100000 in
theorem specOp_6 (own : ByteArray) (name : Int) (alg : Option Addr) (lgn clg : Nat) (lg : Nat → Int) (pe len hei cl : Int) (all : Bool) (be unt now : Int) (w : World) (_ : own.size ≤ 1000000000000000) :
    Calls Tryd.prog 26 #[.agg #[.int .i64 6, .string own, .int .i64 name, .slice alg lgn clg, .int .i64 pe, .int .i64 len, .int .i64 hei, .int .i64 cl, .bool all, .int .i64 be, .int .i64 unt, .int .i64 now]] w fun e w' => e = .returned (.bool (decide (OpOk ⟨6, own, name, lgn, lg, pe, len, hei, cl, all, be, unt, now⟩))) ∧ Below w.heap.size w w' := by
  obtain ⟨R, hR⟩ : ∃ R, R = decide (OpOk ⟨6, own, name, lgn, lg, pe, len, hei, cl, all, be, unt, now⟩) := ⟨_, rfl⟩
  rw [← hR]
  obtain ⟨bo, hbo⟩ : ∃ b, b = decide (OwnerOk 6 own) := ⟨_, rfl⟩
  obtain ⟨bn, hbn⟩ : ∃ b, b = decide (NameOk 6 name) := ⟨_, rfl⟩
  obtain ⟨bl, hbl⟩ : ∃ b, b = decide (LegsOkFor 6 lgn) := ⟨_, rfl⟩
  obtain ⟨bp, hbp⟩ : ∃ b, b = decide (PartyOkFor 6 ⟨pe, len, hei, cl, all, be⟩) := ⟨_, rfl⟩
  obtain ⟨bu, hbu⟩ : ∃ b, b = decide (UntilOk 6 unt) := ⟨_, rfl⟩
  obtain ⟨bw, hbw⟩ : ∃ b, b = decide (NowOk 6 now) := ⟨_, rfl⟩
  have HR : Hid (R = (bo && bn && bl && bp && bu && bw)) := by
    show R = (bo && bn && bl && bp && bu && bw)
    rw [hR, hbo, hbn, hbl, hbp, hbu, hbw]
    exact opOk_split (k := 6) (by unfold In; omega)
  clear hR
  have eo : own.toList.isEmpty = bo := by rw [hbo, owner_empty own (k := 6) (by omega)]
  have en : decide (In name 1 30) = bn := by rw [hbn]; exact decide_eq_decide.2 (by unfold NameOk In; simp)
  have el : ((lgn : Int) == 0) = bl := by rw [hbl, int_zero]; exact decide_eq_decide.2 (by unfold LegsOkFor HasLegs; simp)
  have HO : Hid (bp = decide (PartyOkFor 6 ⟨pe, len, hei, cl, all, be⟩)) := hbp
  have HU : Hid (bu = decide (UntilOk 6 unt)) := hbu
  have HW : Hid (bw = decide (NowOk 6 now)) := hbw
  clear hbo hbn hbl hbp hbu hbw
  have d9 : decide (In 6 1 9) = true := by decide
  have dn : decide (In 6 4 8) = true := by decide
  have dl : decide (HasLegs 6) = false := by decide
  have hb0 : Below w.heap.size w (w.alloc (.cells #[.int .i64 6, .string own, .int .i64 name, .slice alg lgn clg, .int .i64 pe, .int .i64 len, .int .i64 hei, .int .i64 cl, .bool all, .int .i64 be, .int .i64 unt, .int .i64 now] 32)) := push (Below.refl _ _) _
  have b0 := heap_alloc_new w (.cells #[.int .i64 6, .string own, .int .i64 name, .slice alg lgn clg, .int .i64 pe, .int .i64 len, .int .i64 hei, .int .i64 cl, .bool all, .int .i64 be, .int .i64 unt, .int .i64 now] 32)
  go_enter Tryd.func26, Tryd.ntmps26
  go_upto_region 11 with (first | (go_at_call 27; refine (l1In_is _ _ _ _).mono ?_; rintro e w' ⟨rfl, hw'⟩; have hw' := hw'.symm; subst hw') | (go_at_call 39; refine (l7Named_is _ _).mono ?_; rintro e w' ⟨rfl, hw'⟩; have hw' := hw'.symm; subst hw') | (go_at_call 41; refine (l7Legs_is _ _).mono ?_; rintro e w' ⟨rfl, hw'⟩; have hw' := hw'.symm; subst hw'))
  generalize w.alloc (.cells #[.int .i64 6, .string own, .int .i64 name, .slice alg lgn clg, .int .i64 pe, .int .i64 len, .int .i64 hei, .int .i64 cl, .bool all, .int .i64 be, .int .i64 unt, .int .i64 now] 32) = W at hb0 b0 ⊢
  have y0 := blk_cell b0 0 _ rfl
  have y1 := blk_cell b0 1 _ rfl
  have y2 := blk_cell b0 2 _ rfl
  have y3 := blk_cell b0 3 _ rfl
  have y4 := blk_cell b0 4 _ rfl
  have y5 := blk_cell b0 5 _ rfl
  have y6 := blk_cell b0 6 _ rfl
  have y7 := blk_cell b0 7 _ rfl
  have y8 := blk_cell b0 8 _ rfl
  have y9 := blk_cell b0 9 _ rfl
  have y10 := blk_cell b0 10 _ rfl
  have y11 := blk_cell b0 11 _ rfl
  go_cut [7] (fun c wx => c = .bool (PZ pe len hei cl all be) ∧ wx = W)
  case first =>
    by_cases gpe : pe = 0
    · subst gpe
      by_cases glen : len = 0
      · subst glen
        by_cases ghei : hei = 0
        · subst ghei
          by_cases gcl : cl = 0
          · subst gcl
            cases all with
            | true =>
              have hz : PZ 0 0 0 0 true be = false := pz_no (fun h => by cases h.2.2.2.2.1)
              go_wp2
              go_meet
              exact ⟨by rw [hz], rfl⟩
            | false =>
              by_cases gbe : be = 0
              · subst gbe
                go_wp2
                go_meet
                exact ⟨rfl, rfl⟩
              · have ebe : (be == 0) = false := by simpa using gbe
                have hz : PZ 0 0 0 0 false be = false := pz_no (fun h => gbe h.2.2.2.2.2)
                go_wp2
                go_meet
                exact ⟨by rw [hz], rfl⟩
          · have ecl : (cl == 0) = false := by simpa using gcl
            have hz : PZ 0 0 0 cl all be = false := pz_no (fun h => gcl h.2.2.2.1)
            go_wp2
            go_meet
            exact ⟨by rw [hz], rfl⟩
        · have ehei : (hei == 0) = false := by simpa using ghei
          have hz : PZ 0 0 hei cl all be = false := pz_no (fun h => ghei h.2.2.1)
          go_wp2
          go_meet
          exact ⟨by rw [hz], rfl⟩
      · have elen : (len == 0) = false := by simpa using glen
        have hz : PZ 0 len hei cl all be = false := pz_no (fun h => glen h.2.1)
        go_wp2
        go_meet
        exact ⟨by rw [hz], rfl⟩
    · have epe : (pe == 0) = false := by simpa using gpe
      have hz : PZ pe len hei cl all be = false := pz_no (fun h => gpe h.1)
      go_wp2
      go_meet
      exact ⟨by rw [hz], rfl⟩
  case rest =>
    obtain ⟨rfl, hwc⟩ := hcut
    have hwc := hwc.symm
    subst hwc
    obtain rfl : PZ pe len hei cl all be = bp := by rw [HO.out]; exact party_none (k := 6) (by unfold HasLegs; omega)
    generalize PZ pe len hei cl all be = bp at *
    have hb2 := hb0
    clear hb0 b0
    go_upto_region 17 with (first | (go_at_call 27; refine (l1In_is _ _ _ _).mono ?_; rintro e w' ⟨rfl, hw'⟩; have hw' := hw'.symm; subst hw') | (go_at_call 39; refine (l7Named_is _ _).mono ?_; rintro e w' ⟨rfl, hw'⟩; have hw' := hw'.symm; subst hw') | (go_at_call 41; refine (l7Legs_is _ _).mono ?_; rintro e w' ⟨rfl, hw'⟩; have hw' := hw'.symm; subst hw'))
    go_cut [8] (fun c wx => c = .bool bu ∧ wx = W)
    case first =>
      by_cases u0 : unt = 0
      · subst u0
        go_wp2
        go_meet
        exact ⟨by rw [HU.out, decide_eq_true (.inl rfl)], rfl⟩
      · have e0 : (unt == 0) = false := by simpa using u0
        have eu : bu = false := by rw [HU.out]; exact decide_eq_false (fun h => by rcases h with h | h; exact u0 h; exact absurd h.1 (by decide))
        go_wp2
        go_meet
        exact ⟨by rw [eu], rfl⟩
    case rest =>
      obtain ⟨rfl, hwc2⟩ := hcut
      have hwc2 := hwc2.symm
      subst hwc2
      go_upto_region 18 with (first | (go_at_call 27; refine (l1In_is _ _ _ _).mono ?_; rintro e w' ⟨rfl, hw'⟩; have hw' := hw'.symm; subst hw') | (go_at_call 39; refine (l7Named_is _ _).mono ?_; rintro e w' ⟨rfl, hw'⟩; have hw' := hw'.symm; subst hw') | (go_at_call 41; refine (l7Legs_is _ _).mono ?_; rintro e w' ⟨rfl, hw'⟩; have hw' := hw'.symm; subst hw'))
      go_cut [9] (fun c wx => c = .bool bw ∧ wx = W)
      case first =>
        by_cases u0 : now = 0
        · subst u0
          go_wp2
          go_meet
          exact ⟨by rw [HW.out, decide_eq_true (.inl rfl)], rfl⟩
        · have e0 : (now == 0) = false := by simpa using u0
          have eu : decide (In now 0 10000) = bw := by rw [HW.out]; exact decide_eq_decide.2 ⟨fun h => .inr ⟨.inr rfl, h⟩, fun h => by rcases h with h | h; exact absurd h u0; exact h.2⟩
          go_wp2_with (first | (go_at_call 27; refine (l1In_is _ _ _ _).mono ?_; rintro e w' ⟨rfl, hw'⟩; have hw' := hw'.symm; subst hw') | (go_at_call 39; refine (l7Named_is _ _).mono ?_; rintro e w' ⟨rfl, hw'⟩; have hw' := hw'.symm; subst hw') | (go_at_call 41; refine (l7Legs_is _ _).mono ?_; rintro e w' ⟨rfl, hw'⟩; have hw' := hw'.symm; subst hw'))
          go_meet
          exact ⟨rfl, rfl⟩
      case rest =>
        obtain ⟨rfl, hwc3⟩ := hcut
        have hwc3 := hwc3.symm
        subst hwc3
        clear eo en el y0 y1 y2 y3 y4 y5 y6 y7 y8 y9 y10 y11
        cases bo with
        | false =>
          go_wp2
          go_ret
          exact ⟨by rw [HR.out]; simp, hb2⟩
        | true =>
          cases bn with
          | false =>
            go_wp2
            go_ret
            exact ⟨by rw [HR.out]; simp, hb2⟩
          | true =>
            cases bl with
            | false =>
              go_wp2
              go_ret
              exact ⟨by rw [HR.out]; simp, hb2⟩
            | true =>
              cases bp with
              | false =>
                go_wp2
                go_ret
                exact ⟨by rw [HR.out]; simp, hb2⟩
              | true =>
                cases bu with
                | false =>
                  go_wp2
                  go_ret
                  exact ⟨by rw [HR.out]; simp, hb2⟩
                | true =>
                  cases bw with
                  | false =>
                    go_wp2
                    go_ret
                    exact ⟨by rw [HR.out]; simp, hb2⟩
                  | true =>
                    go_wp2
                    go_ret
                    exact ⟨by rw [HR.out]; rfl, hb2⟩

end Go.Proofs.YtfbooamjddnagaaDoor
