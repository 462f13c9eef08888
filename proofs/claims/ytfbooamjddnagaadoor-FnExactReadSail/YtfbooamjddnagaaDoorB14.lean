/-
  OWN TEXT: SpecOd, SpecO2.
-/
import Derived.Deep.DeepCutAuto
import Derived.Test.YtfbooamjddnagaaDoorB12
import Derived.Test.YtfbooamjddnagaaDoorB13
namespace Go.Proofs.YtfbooamjddnagaaDoor
open Go.RowKit

set_option maxHeartbeats 3200000 in
set_option maxRecDepth 100000 in
theorem specOp_7 (own : ByteArray) (name : Int) (alg : Option Addr) (lgn clg : Nat) (lg : Nat → Int) (pe len hei cl : Int) (all : Bool) (be unt now : Int) (w : World) (hown : own.size ≤ 1000000000000000) :
    Calls Tryd.prog 26 #[.agg #[.int .i64 7, .string own, .int .i64 name, .slice alg lgn clg, .int .i64 pe, .int .i64 len, .int .i64 hei, .int .i64 cl, .bool all, .int .i64 be, .int .i64 unt, .int .i64 now]] w fun e w' => e = .returned (.bool (decide (OpOk ⟨7, own, name, lgn, lg, pe, len, hei, cl, all, be, unt, now⟩))) ∧ Below w.heap.size w w' := by
  obtain ⟨R, hR⟩ : ∃ R, R = decide (OpOk ⟨7, own, name, lgn, lg, pe, len, hei, cl, all, be, unt, now⟩) := ⟨_, rfl⟩
  rw [← hR]
  obtain ⟨bo, hbo⟩ : ∃ b, b = decide (OwnerOk 7 own) := ⟨_, rfl⟩
  obtain ⟨bn, hbn⟩ : ∃ b, b = decide (NameOk 7 name) := ⟨_, rfl⟩
  obtain ⟨bl, hbl⟩ : ∃ b, b = decide (LegsOkFor 7 lgn) := ⟨_, rfl⟩
  obtain ⟨bp, hbp⟩ : ∃ b, b = decide (PartyOkFor 7 ⟨pe, len, hei, cl, all, be⟩) := ⟨_, rfl⟩
  obtain ⟨bu, hbu⟩ : ∃ b, b = decide (UntilOk 7 unt) := ⟨_, rfl⟩
  obtain ⟨bw, hbw⟩ : ∃ b, b = decide (NowOk 7 now) := ⟨_, rfl⟩
  have HR : Hid (R = (bo && bn && bl && bp && bu && bw)) := by
    show R = (bo && bn && bl && bp && bu && bw)
    rw [hR, hbo, hbn, hbl, hbp, hbu, hbw]
    exact opOk_split (k := 7) (by unfold In; omega)
  clear hR
  have eo : decide (IsName own) = bo := by rw [hbo]; exact decide_eq_decide.2 (by unfold OwnerOk; simp)
  have en : decide (In name 1 30) = bn := by rw [hbn]; exact decide_eq_decide.2 (by unfold NameOk In; simp)
  have el : ((lgn : Int) == 0) = bl := by rw [hbl, int_zero]; exact decide_eq_decide.2 (by unfold LegsOkFor HasLegs; simp)
  have HO : Hid (bp = decide (PartyOkFor 7 ⟨pe, len, hei, cl, all, be⟩)) := hbp
  have HU : Hid (bu = decide (UntilOk 7 unt)) := hbu
  have HW : Hid (bw = decide (NowOk 7 now)) := hbw
  clear hbo hbn hbl hbp hbu hbw
  have d9 : decide (In 7 1 9) = true := by decide
  have dn : decide (In 7 4 8) = true := by decide
  have dl : decide (HasLegs 7) = false := by decide
  have hb0 : Below w.heap.size w (w.alloc (.cells #[.int .i64 7, .string own, .int .i64 name, .slice alg lgn clg, .int .i64 pe, .int .i64 len, .int .i64 hei, .int .i64 cl, .bool all, .int .i64 be, .int .i64 unt, .int .i64 now] 32)) := push (Below.refl _ _) _
  have b0 := heap_alloc_new w (.cells #[.int .i64 7, .string own, .int .i64 name, .slice alg lgn clg, .int .i64 pe, .int .i64 len, .int .i64 hei, .int .i64 cl, .bool all, .int .i64 be, .int .i64 unt, .int .i64 now] 32)
  go_enter Tryd.func26, Tryd.ntmps26
  go_upto_region 11 with (first | (go_at_call 27; refine (l1In_is _ _ _ _).mono ?_; rintro e w' ⟨rfl, hw'⟩; have hw' := hw'.symm; subst hw') | (go_at_call 39; refine (l7Named_is _ _).mono ?_; rintro e w' ⟨rfl, hw'⟩; have hw' := hw'.symm; subst hw') | (go_at_call 41; refine (l7Legs_is _ _).mono ?_; rintro e w' ⟨rfl, hw'⟩; have hw' := hw'.symm; subst hw') | (go_at_call 64; refine (l1Name_is _ _ hown).mono ?_; rintro e w' ⟨rfl, hw'⟩; have hw' := hw'.symm; subst hw'))
  generalize w.alloc (.cells #[.int .i64 7, .string own, .int .i64 name, .slice alg lgn clg, .int .i64 pe, .int .i64 len, .int .i64 hei, .int .i64 cl, .bool all, .int .i64 be, .int .i64 unt, .int .i64 now] 32) = W at hb0 b0 ⊢
  have y0 := blk_cell b0 0 _ rfl
  have y1 := blk_cell b0 1 _ rfl
  have y2 := blk_cell b0 2 _ rfl
  have y3 := blk_cell b0 3 _ rfl
  have y4 := blk_cell b0 4 _ rfl
  have y5 := blk_cell b0 5 _ rfl
  have y6 := blk_cell b0 6 _ rfl
  have y7 := blk_cell b0 7 _ rfl
  have y8 := blk_cell b0 8 _ rfl
  have y9 := blk_cell b0 9 _ rfl
  have y10 := blk_cell b0 10 _ rfl
  have y11 := blk_cell b0 11 _ rfl
  go_cut [7] (fun c wx => c = .bool (PZ pe len hei cl all be) ∧ wx = W)
  case first =>
    by_cases gpe : pe = 0
    · subst gpe
      by_cases glen : len = 0
      · subst glen
        by_cases ghei : hei = 0
        · subst ghei
          by_cases gcl : cl = 0
          · subst gcl
            cases all with
            | true =>
              have hz : PZ 0 0 0 0 true be = false := pz_no (fun h => by cases h.2.2.2.2.1)
              go_wp2
              go_meet
              exact ⟨by rw [hz], rfl⟩
            | false =>
              by_cases gbe : be = 0
              · subst gbe
                go_wp2
                go_meet
                exact ⟨rfl, rfl⟩
              · have ebe : (be == 0) = false := by simpa using gbe
                have hz : PZ 0 0 0 0 false be = false := pz_no (fun h => gbe h.2.2.2.2.2)
                go_wp2
                go_meet
                exact ⟨by rw [hz], rfl⟩
          · have ecl : (cl == 0) = false := by simpa using gcl
            have hz : PZ 0 0 0 cl all be = false := pz_no (fun h => gcl h.2.2.2.1)
            go_wp2
            go_meet
            exact ⟨by rw [hz], rfl⟩
        · have ehei : (hei == 0) = false := by simpa using ghei
          have hz : PZ 0 0 hei cl all be = false := pz_no (fun h => ghei h.2.2.1)
          go_wp2
          go_meet
          exact ⟨by rw [hz], rfl⟩
      · have elen : (len == 0) = false := by simpa using glen
        have hz : PZ 0 len hei cl all be = false := pz_no (fun h => glen h.2.1)
        go_wp2
        go_meet
        exact ⟨by rw [hz], rfl⟩
    · have epe : (pe == 0) = false := by simpa using gpe
      have hz : PZ pe len hei cl all be = false := pz_no (fun h => gpe h.1)
      go_wp2
      go_meet
      exact ⟨by rw [hz], rfl⟩
  case rest =>
    obtain ⟨rfl, hwc⟩ := hcut
    have hwc := hwc.symm
    subst hwc
    obtain rfl : PZ pe len hei cl all be = bp := by rw [HO.out]; exact party_none (k := 7) (by unfold HasLegs; omega)
    generalize PZ pe len hei cl all be = bp at *
    have hb2 := hb0
    clear hb0 b0
    go_upto_region 17 with (first | (go_at_call 27; refine (l1In_is _ _ _ _).mono ?_; rintro e w' ⟨rfl, hw'⟩; have hw' := hw'.symm; subst hw') | (go_at_call 39; refine (l7Named_is _ _).mono ?_; rintro e w' ⟨rfl, hw'⟩; have hw' := hw'.symm; subst hw') | (go_at_call 41; refine (l7Legs_is _ _).mono ?_; rintro e w' ⟨rfl, hw'⟩; have hw' := hw'.symm; subst hw') | (go_at_call 64; refine (l1Name_is _ _ hown).mono ?_; rintro e w' ⟨rfl, hw'⟩; have hw' := hw'.symm; subst hw'))
    go_cut [8] (fun c wx => c = .bool bu ∧ wx = W)
    case first =>
      by_cases u0 : unt = 0
      · subst u0
        go_wp2
        go_meet
        exact ⟨by rw [HU.out, decide_eq_true (.inl rfl)], rfl⟩
      · have e0 : (unt == 0) = false := by simpa using u0
        have eu : bu = false := by rw [HU.out]; exact decide_eq_false (fun h => by rcases h with h | h; exact u0 h; exact absurd h.1 (by decide))
        go_wp2
        go_meet
        exact ⟨by rw [eu], rfl⟩
    case rest =>
      obtain ⟨rfl, hwc2⟩ := hcut
      have hwc2 := hwc2.symm
      subst hwc2
      go_upto_region 18 with (first | (go_at_call 27; refine (l1In_is _ _ _ _).mono ?_; rintro e w' ⟨rfl, hw'⟩; have hw' := hw'.symm; subst hw') | (go_at_call 39; refine (l7Named_is _ _).mono ?_; rintro e w' ⟨rfl, hw'⟩; have hw' := hw'.symm; subst hw') | (go_at_call 41; refine (l7Legs_is _ _).mono ?_; rintro e w' ⟨rfl, hw'⟩; have hw' := hw'.symm; subst hw') | (go_at_call 64; refine (l1Name_is _ _ hown).mono ?_; rintro e w' ⟨rfl, hw'⟩; have hw' := hw'.symm; subst hw'))
      go_cut [9] (fun c wx => c = .bool bw ∧ wx = W)
      case first =>
        by_cases u0 : now = 0
        · subst u0
          go_wp2
          go_meet
          exact ⟨by rw [HW.out, decide_eq_true (.inl rfl)], rfl⟩
        · have e0 : (now == 0) = false := by simpa using u0
          have eu : bw = false := by rw [HW.out]; exact decide_eq_false (fun h => by rcases h with h | h; exact u0 h; exact absurd h.1 (by decide))
          go_wp2
          go_meet
          exact ⟨by rw [eu], rfl⟩
      case rest =>
        obtain ⟨rfl, hwc3⟩ := hcut
        have hwc3 := hwc3.symm
        subst hwc3
        clear eo en el y0 y1 y2 y3 y4 y5 y6 y7 y8 y9 y10 y11
        cases bo with
        | false =>
          go_wp2
          go_ret
          exact ⟨by rw [HR.out]; simp, hb2⟩
        | true =>
          cases bn with
          | false =>
            go_wp2
            go_ret
            exact ⟨by rw [HR.out]; simp, hb2⟩
          | true =>
            cases bl with
            | false =>
              go_wp2
              go_ret
              exact ⟨by rw [HR.out]; simp, hb2⟩
            | true =>
              cases bp with
              | false =>
                go_wp2
                go_ret
                exact ⟨by rw [HR.out]; simp, hb2⟩
              | true =>
                cases bu with
                | false =>
                  go_wp2
                  go_ret
                  exact ⟨by rw [HR.out]; simp, hb2⟩
                | true =>
                  cases bw with
                  | false =>
                    go_wp2
                    go_ret
                    exact ⟨by rw [HR.out]; simp, hb2⟩
                  | true =>
                    go_wp2
                    go_ret
                    exact ⟨by rw [HR.out]; rfl, hb2⟩

set_option maxHeartbeats 3200000 in
set_option maxRecDepth 100000 in
theorem specOp_8 (own : ByteArray) (name : Int) (alg : Option Addr) (lgn clg : Nat) (lg : Nat → Int) (pe len hei cl : Int) (all : Bool) (be unt now : Int) (w : World) (_ : own.size ≤ 1000000000000000) :
    Calls Tryd.prog 26 #[.agg #[.int .i64 8, .string own, .int .i64 name, .slice alg lgn clg, .int .i64 pe, .int .i64 len, .int .i64 hei, .int .i64 cl, .bool all, .int .i64 be, .int .i64 unt, .int .i64 now]] w fun e w' => e = .returned (.bool (decide (OpOk ⟨8, own, name, lgn, lg, pe, len, hei, cl, all, be, unt, now⟩))) ∧ Below w.heap.size w w' := by
  obtain ⟨R, hR⟩ : ∃ R, R = decide (OpOk ⟨8, own, name, lgn, lg, pe, len, hei, cl, all, be, unt, now⟩) := ⟨_, rfl⟩
  rw [← hR]
  obtain ⟨bo, hbo⟩ : ∃ b, b = decide (OwnerOk 8 own) := ⟨_, rfl⟩
  obtain ⟨bn, hbn⟩ : ∃ b, b = decide (NameOk 8 name) := ⟨_, rfl⟩
  obtain ⟨bl, hbl⟩ : ∃ b, b = decide (LegsOkFor 8 lgn) := ⟨_, rfl⟩
  obtain ⟨bp, hbp⟩ : ∃ b, b = decide (PartyOkFor 8 ⟨pe, len, hei, cl, all, be⟩) := ⟨_, rfl⟩
  obtain ⟨bu, hbu⟩ : ∃ b, b = decide (UntilOk 8 unt) := ⟨_, rfl⟩
  obtain ⟨bw, hbw⟩ : ∃ b, b = decide (NowOk 8 now) := ⟨_, rfl⟩
  have HR : Hid (R = (bo && bn && bl && bp && bu && bw)) := by
    show R = (bo && bn && bl && bp && bu && bw)
    rw [hR, hbo, hbn, hbl, hbp, hbu, hbw]
    exact opOk_split (k := 8) (by unfold In; omega)
  clear hR
  have eo : own.toList.isEmpty = bo := by rw [hbo, owner_empty own (k := 8) (by omega)]
  have en : decide (In name 1 30) = bn := by rw [hbn]; exact decide_eq_decide.2 (by unfold NameOk In; simp)
  have el : ((lgn : Int) == 0) = bl := by rw [hbl, int_zero]; exact decide_eq_decide.2 (by unfold LegsOkFor HasLegs; simp)
  have HO : Hid (bp = decide (PartyOkFor 8 ⟨pe, len, hei, cl, all, be⟩)) := hbp
  have HU : Hid (bu = decide (UntilOk 8 unt)) := hbu
  have HW : Hid (bw = decide (NowOk 8 now)) := hbw
  clear hbo hbn hbl hbp hbu hbw
  have d9 : decide (In 8 1 9) = true := by decide
  have dn : decide (In 8 4 8) = true := by decide
  have dl : decide (HasLegs 8) = false := by decide
  have hb0 : Below w.heap.size w (w.alloc (.cells #[.int .i64 8, .string own, .int .i64 name, .slice alg lgn clg, .int .i64 pe, .int .i64 len, .int .i64 hei, .int .i64 cl, .bool all, .int .i64 be, .int .i64 unt, .int .i64 now] 32)) := push (Below.refl _ _) _
  have b0 := heap_alloc_new w (.cells #[.int .i64 8, .string own, .int .i64 name, .slice alg lgn clg, .int .i64 pe, .int .i64 len, .int .i64 hei, .int .i64 cl, .bool all, .int .i64 be, .int .i64 unt, .int .i64 now] 32)
  go_enter Tryd.func26, Tryd.ntmps26
  go_upto_region 11 with (first | (go_at_call 27; refine (l1In_is _ _ _ _).mono ?_; rintro e w' ⟨rfl, hw'⟩; have hw' := hw'.symm; subst hw') | (go_at_call 39; refine (l7Named_is _ _).mono ?_; rintro e w' ⟨rfl, hw'⟩; have hw' := hw'.symm; subst hw') | (go_at_call 41; refine (l7Legs_is _ _).mono ?_; rintro e w' ⟨rfl, hw'⟩; have hw' := hw'.symm; subst hw'))
  generalize w.alloc (.cells #[.int .i64 8, .string own, .int .i64 name, .slice alg lgn clg, .int .i64 pe, .int .i64 len, .int .i64 hei, .int .i64 cl, .bool all, .int .i64 be, .int .i64 unt, .int .i64 now] 32) = W at hb0 b0 ⊢
  have y0 := blk_cell b0 0 _ rfl
  have y1 := blk_cell b0 1 _ rfl
  have y2 := blk_cell b0 2 _ rfl
  have y3 := blk_cell b0 3 _ rfl
  have y4 := blk_cell b0 4 _ rfl
  have y5 := blk_cell b0 5 _ rfl
  have y6 := blk_cell b0 6 _ rfl
  have y7 := blk_cell b0 7 _ rfl
  have y8 := blk_cell b0 8 _ rfl
  have y9 := blk_cell b0 9 _ rfl
  have y10 := blk_cell b0 10 _ rfl
  have y11 := blk_cell b0 11 _ rfl
  go_cut [7] (fun c wx => c = .bool (PZ pe len hei cl all be) ∧ wx = W)
  case first =>
    by_cases gpe : pe = 0
    · subst gpe
      by_cases glen : len = 0
      · subst glen
        by_cases ghei : hei = 0
        · subst ghei
          by_cases gcl : cl = 0
          · subst gcl
            cases all with
            | true =>
              have hz : PZ 0 0 0 0 true be = false := pz_no (fun h => by cases h.2.2.2.2.1)
              go_wp2
              go_meet
              exact ⟨by rw [hz], rfl⟩
            | false =>
              by_cases gbe : be = 0
              · subst gbe
                go_wp2
                go_meet
                exact ⟨rfl, rfl⟩
              · have ebe : (be == 0) = false := by simpa using gbe
                have hz : PZ 0 0 0 0 false be = false := pz_no (fun h => gbe h.2.2.2.2.2)
                go_wp2
                go_meet
                exact ⟨by rw [hz], rfl⟩
          · have ecl : (cl == 0) = false := by simpa using gcl
            have hz : PZ 0 0 0 cl all be = false := pz_no (fun h => gcl h.2.2.2.1)
            go_wp2
            go_meet
            exact ⟨by rw [hz], rfl⟩
        · have ehei : (hei == 0) = false := by simpa using ghei
          have hz : PZ 0 0 hei cl all be = false := pz_no (fun h => ghei h.2.2.1)
          go_wp2
          go_meet
          exact ⟨by rw [hz], rfl⟩
      · have elen : (len == 0) = false := by simpa using glen
        have hz : PZ 0 len hei cl all be = false := pz_no (fun h => glen h.2.1)
        go_wp2
        go_meet
        exact ⟨by rw [hz], rfl⟩
    · have epe : (pe == 0) = false := by simpa using gpe
      have hz : PZ pe len hei cl all be = false := pz_no (fun h => gpe h.1)
      go_wp2
      go_meet
      exact ⟨by rw [hz], rfl⟩
  case rest =>
    obtain ⟨rfl, hwc⟩ := hcut
    have hwc := hwc.symm
    subst hwc
    obtain rfl : PZ pe len hei cl all be = bp := by rw [HO.out]; exact party_none (k := 8) (by unfold HasLegs; omega)
    generalize PZ pe len hei cl all be = bp at *
    have hb2 := hb0
    clear hb0 b0
    go_upto_region 17 with (first | (go_at_call 27; refine (l1In_is _ _ _ _).mono ?_; rintro e w' ⟨rfl, hw'⟩; have hw' := hw'.symm; subst hw') | (go_at_call 39; refine (l7Named_is _ _).mono ?_; rintro e w' ⟨rfl, hw'⟩; have hw' := hw'.symm; subst hw') | (go_at_call 41; refine (l7Legs_is _ _).mono ?_; rintro e w' ⟨rfl, hw'⟩; have hw' := hw'.symm; subst hw'))
    go_cut [8] (fun c wx => c = .bool bu ∧ wx = W)
    case first =>
      by_cases u0 : unt = 0
      · subst u0
        go_wp2
        go_meet
        exact ⟨by rw [HU.out, decide_eq_true (.inl rfl)], rfl⟩
      · have e0 : (unt == 0) = false := by simpa using u0
        have eu : bu = false := by rw [HU.out]; exact decide_eq_false (fun h => by rcases h with h | h; exact u0 h; exact absurd h.1 (by decide))
        go_wp2
        go_meet
        exact ⟨by rw [eu], rfl⟩
    case rest =>
      obtain ⟨rfl, hwc2⟩ := hcut
      have hwc2 := hwc2.symm
      subst hwc2
      go_upto_region 18 with (first | (go_at_call 27; refine (l1In_is _ _ _ _).mono ?_; rintro e w' ⟨rfl, hw'⟩; have hw' := hw'.symm; subst hw') | (go_at_call 39; refine (l7Named_is _ _).mono ?_; rintro e w' ⟨rfl, hw'⟩; have hw' := hw'.symm; subst hw') | (go_at_call 41; refine (l7Legs_is _ _).mono ?_; rintro e w' ⟨rfl, hw'⟩; have hw' := hw'.symm; subst hw'))
      go_cut [9] (fun c wx => c = .bool bw ∧ wx = W)
      case first =>
        by_cases u0 : now = 0
        · subst u0
          go_wp2
          go_meet
          exact ⟨by rw [HW.out, decide_eq_true (.inl rfl)], rfl⟩
        · have e0 : (now == 0) = false := by simpa using u0
          have eu : decide (In now 0 10000) = bw := by rw [HW.out]; exact decide_eq_decide.2 ⟨fun h => .inr ⟨.inl rfl, h⟩, fun h => by rcases h with h | h; exact absurd h u0; exact h.2⟩
          go_wp2_with (first | (go_at_call 27; refine (l1In_is _ _ _ _).mono ?_; rintro e w' ⟨rfl, hw'⟩; have hw' := hw'.symm; subst hw') | (go_at_call 39; refine (l7Named_is _ _).mono ?_; rintro e w' ⟨rfl, hw'⟩; have hw' := hw'.symm; subst hw') | (go_at_call 41; refine (l7Legs_is _ _).mono ?_; rintro e w' ⟨rfl, hw'⟩; have hw' := hw'.symm; subst hw'))
          go_meet
          exact ⟨rfl, rfl⟩
      case rest =>
        obtain ⟨rfl, hwc3⟩ := hcut
        have hwc3 := hwc3.symm
        subst hwc3
        clear eo en el y0 y1 y2 y3 y4 y5 y6 y7 y8 y9 y10 y11
        cases bo with
        | false =>
          go_wp2
          go_ret
          exact ⟨by rw [HR.out]; simp, hb2⟩
        | true =>
          cases bn with
          | false =>
            go_wp2
            go_ret
            exact ⟨by rw [HR.out]; simp, hb2⟩
          | true =>
            cases bl with
            | false =>
              go_wp2
              go_ret
              exact ⟨by rw [HR.out]; simp, hb2⟩
            | true =>
              cases bp with
              | false =>
                go_wp2
                go_ret
                exact ⟨by rw [HR.out]; simp, hb2⟩
              | true =>
                cases bu with
                | false =>
                  go_wp2
                  go_ret
                  exact ⟨by rw [HR.out]; simp, hb2⟩
                | true =>
                  cases bw with
                  | false =>
                    go_wp2
                    go_ret
                    exact ⟨by rw [HR.out]; simp, hb2⟩
                  | true =>
                    go_wp2
                    go_ret
                    exact ⟨by rw [HR.out]; rfl, hb2⟩

set_option maxHeartbeats 3200000 in
set_option maxRecDepth 100000 in
theorem specOp_9 (own : ByteArray) (name : Int) (alg : Option Addr) (lgn clg : Nat) (lg : Nat → Int) (pe len hei cl : Int) (all : Bool) (be unt now : Int) (w : World) (_ : own.size ≤ 1000000000000000) :
    Calls Tryd.prog 26 #[.agg #[.int .i64 9, .string own, .int .i64 name, .slice alg lgn clg, .int .i64 pe, .int .i64 len, .int .i64 hei, .int .i64 cl, .bool all, .int .i64 be, .int .i64 unt, .int .i64 now]] w fun e w' => e = .returned (.bool (decide (OpOk ⟨9, own, name, lgn, lg, pe, len, hei, cl, all, be, unt, now⟩))) ∧ Below w.heap.size w w' := by
  obtain ⟨R, hR⟩ : ∃ R, R = decide (OpOk ⟨9, own, name, lgn, lg, pe, len, hei, cl, all, be, unt, now⟩) := ⟨_, rfl⟩
  rw [← hR]
  obtain ⟨bo, hbo⟩ : ∃ b, b = decide (OwnerOk 9 own) := ⟨_, rfl⟩
  obtain ⟨bn, hbn⟩ : ∃ b, b = decide (NameOk 9 name) := ⟨_, rfl⟩
  obtain ⟨bl, hbl⟩ : ∃ b, b = decide (LegsOkFor 9 lgn) := ⟨_, rfl⟩
  obtain ⟨bp, hbp⟩ : ∃ b, b = decide (PartyOkFor 9 ⟨pe, len, hei, cl, all, be⟩) := ⟨_, rfl⟩
  obtain ⟨bu, hbu⟩ : ∃ b, b = decide (UntilOk 9 unt) := ⟨_, rfl⟩
  obtain ⟨bw, hbw⟩ : ∃ b, b = decide (NowOk 9 now) := ⟨_, rfl⟩
  have HR : Hid (R = (bo && bn && bl && bp && bu && bw)) := by
    show R = (bo && bn && bl && bp && bu && bw)
    rw [hR, hbo, hbn, hbl, hbp, hbu, hbw]
    exact opOk_split (k := 9) (by unfold In; omega)
  clear hR
  have eo : own.toList.isEmpty = bo := by rw [hbo, owner_empty own (k := 9) (by omega)]
  have en : (name == 0) = bn := by rw [hbn, name_zero name (k := 9) (by unfold In; omega)]
  have el : ((lgn : Int) == 1) = bl := by rw [hbl, int_one]; exact decide_eq_decide.2 (by unfold LegsOkFor HasLegs; simp)
  have HO : Hid (bp = decide (PartyOkFor 9 ⟨pe, len, hei, cl, all, be⟩)) := hbp
  have HU : Hid (bu = decide (UntilOk 9 unt)) := hbu
  have HW : Hid (bw = decide (NowOk 9 now)) := hbw
  clear hbo hbn hbl hbp hbu hbw
  have d9 : decide (In 9 1 9) = true := by decide
  have dn : decide (In 9 4 8) = false := by decide
  have dl : decide (HasLegs 9) = false := by decide
  have hb0 : Below w.heap.size w (w.alloc (.cells #[.int .i64 9, .string own, .int .i64 name, .slice alg lgn clg, .int .i64 pe, .int .i64 len, .int .i64 hei, .int .i64 cl, .bool all, .int .i64 be, .int .i64 unt, .int .i64 now] 32)) := push (Below.refl _ _) _
  have b0 := heap_alloc_new w (.cells #[.int .i64 9, .string own, .int .i64 name, .slice alg lgn clg, .int .i64 pe, .int .i64 len, .int .i64 hei, .int .i64 cl, .bool all, .int .i64 be, .int .i64 unt, .int .i64 now] 32)
  go_enter Tryd.func26, Tryd.ntmps26
  go_upto_region 11 with (first | (go_at_call 27; refine (l1In_is _ _ _ _).mono ?_; rintro e w' ⟨rfl, hw'⟩; have hw' := hw'.symm; subst hw') | (go_at_call 39; refine (l7Named_is _ _).mono ?_; rintro e w' ⟨rfl, hw'⟩; have hw' := hw'.symm; subst hw') | (go_at_call 41; refine (l7Legs_is _ _).mono ?_; rintro e w' ⟨rfl, hw'⟩; have hw' := hw'.symm; subst hw'))
  generalize w.alloc (.cells #[.int .i64 9, .string own, .int .i64 name, .slice alg lgn clg, .int .i64 pe, .int .i64 len, .int .i64 hei, .int .i64 cl, .bool all, .int .i64 be, .int .i64 unt, .int .i64 now] 32) = W at hb0 b0 ⊢
  have y0 := blk_cell b0 0 _ rfl
  have y1 := blk_cell b0 1 _ rfl
  have y2 := blk_cell b0 2 _ rfl
  have y3 := blk_cell b0 3 _ rfl
  have y4 := blk_cell b0 4 _ rfl
  have y5 := blk_cell b0 5 _ rfl
  have y6 := blk_cell b0 6 _ rfl
  have y7 := blk_cell b0 7 _ rfl
  have y8 := blk_cell b0 8 _ rfl
  have y9 := blk_cell b0 9 _ rfl
  have y10 := blk_cell b0 10 _ rfl
  have y11 := blk_cell b0 11 _ rfl
  go_cut [7] (fun c wx => c = .bool (PZ pe len hei cl all be) ∧ wx = W)
  case first =>
    by_cases gpe : pe = 0
    · subst gpe
      by_cases glen : len = 0
      · subst glen
        by_cases ghei : hei = 0
        · subst ghei
          by_cases gcl : cl = 0
          · subst gcl
            cases all with
            | true =>
              have hz : PZ 0 0 0 0 true be = false := pz_no (fun h => by cases h.2.2.2.2.1)
              go_wp2
              go_meet
              exact ⟨by rw [hz], rfl⟩
            | false =>
              by_cases gbe : be = 0
              · subst gbe
                go_wp2
                go_meet
                exact ⟨rfl, rfl⟩
              · have ebe : (be == 0) = false := by simpa using gbe
                have hz : PZ 0 0 0 0 false be = false := pz_no (fun h => gbe h.2.2.2.2.2)
                go_wp2
                go_meet
                exact ⟨by rw [hz], rfl⟩
          · have ecl : (cl == 0) = false := by simpa using gcl
            have hz : PZ 0 0 0 cl all be = false := pz_no (fun h => gcl h.2.2.2.1)
            go_wp2
            go_meet
            exact ⟨by rw [hz], rfl⟩
        · have ehei : (hei == 0) = false := by simpa using ghei
          have hz : PZ 0 0 hei cl all be = false := pz_no (fun h => ghei h.2.2.1)
          go_wp2
          go_meet
          exact ⟨by rw [hz], rfl⟩
      · have elen : (len == 0) = false := by simpa using glen
        have hz : PZ 0 len hei cl all be = false := pz_no (fun h => glen h.2.1)
        go_wp2
        go_meet
        exact ⟨by rw [hz], rfl⟩
    · have epe : (pe == 0) = false := by simpa using gpe
      have hz : PZ pe len hei cl all be = false := pz_no (fun h => gpe h.1)
      go_wp2
      go_meet
      exact ⟨by rw [hz], rfl⟩
  case rest =>
    obtain ⟨rfl, hwc⟩ := hcut
    have hwc := hwc.symm
    subst hwc
    obtain rfl : PZ pe len hei cl all be = bp := by rw [HO.out]; exact party_none (k := 9) (by unfold HasLegs; omega)
    generalize PZ pe len hei cl all be = bp at *
    have hb2 := hb0
    clear hb0 b0
    go_upto_region 17 with (first | (go_at_call 27; refine (l1In_is _ _ _ _).mono ?_; rintro e w' ⟨rfl, hw'⟩; have hw' := hw'.symm; subst hw') | (go_at_call 39; refine (l7Named_is _ _).mono ?_; rintro e w' ⟨rfl, hw'⟩; have hw' := hw'.symm; subst hw') | (go_at_call 41; refine (l7Legs_is _ _).mono ?_; rintro e w' ⟨rfl, hw'⟩; have hw' := hw'.symm; subst hw'))
    go_cut [8] (fun c wx => c = .bool bu ∧ wx = W)
    case first =>
      by_cases u0 : unt = 0
      · subst u0
        go_wp2
        go_meet
        exact ⟨by rw [HU.out, decide_eq_true (.inl rfl)], rfl⟩
      · have e0 : (unt == 0) = false := by simpa using u0
        have eu : bu = false := by rw [HU.out]; exact decide_eq_false (fun h => by rcases h with h | h; exact u0 h; exact absurd h.1 (by decide))
        go_wp2
        go_meet
        exact ⟨by rw [eu], rfl⟩
    case rest =>
      obtain ⟨rfl, hwc2⟩ := hcut
      have hwc2 := hwc2.symm
      subst hwc2
      go_upto_region 18 with (first | (go_at_call 27; refine (l1In_is _ _ _ _).mono ?_; rintro e w' ⟨rfl, hw'⟩; have hw' := hw'.symm; subst hw') | (go_at_call 39; refine (l7Named_is _ _).mono ?_; rintro e w' ⟨rfl, hw'⟩; have hw' := hw'.symm; subst hw') | (go_at_call 41; refine (l7Legs_is _ _).mono ?_; rintro e w' ⟨rfl, hw'⟩; have hw' := hw'.symm; subst hw'))
      go_cut [9] (fun c wx => c = .bool bw ∧ wx = W)
      case first =>
        by_cases u0 : now = 0
        · subst u0
          go_wp2
          go_meet
          exact ⟨by rw [HW.out, decide_eq_true (.inl rfl)], rfl⟩
        · have e0 : (now == 0) = false := by simpa using u0
          have eu : bw = false := by rw [HW.out]; exact decide_eq_false (fun h => by rcases h with h | h; exact u0 h; exact absurd h.1 (by decide))
          go_wp2
          go_meet
          exact ⟨by rw [eu], rfl⟩
      case rest =>
        obtain ⟨rfl, hwc3⟩ := hcut
        have hwc3 := hwc3.symm
        subst hwc3
        clear eo en el y0 y1 y2 y3 y4 y5 y6 y7 y8 y9 y10 y11
        cases bo with
        | false =>
          go_wp2
          go_ret
          exact ⟨by rw [HR.out]; simp, hb2⟩
        | true =>
          cases bn with
          | false =>
            go_wp2
            go_ret
            exact ⟨by rw [HR.out]; simp, hb2⟩
          | true =>
            cases bl with
            | false =>
              go_wp2
              go_ret
              exact ⟨by rw [HR.out]; simp, hb2⟩
            | true =>
              cases bp with
              | false =>
                go_wp2
                go_ret
                exact ⟨by rw [HR.out]; simp, hb2⟩
              | true =>
                cases bu with
                | false =>
                  go_wp2
                  go_ret
                  exact ⟨by rw [HR.out]; simp, hb2⟩
                | true =>
                  cases bw with
                  | false =>
                    go_wp2
                    go_ret
                    exact ⟨by rw [HR.out]; simp, hb2⟩
                  | true =>
                    go_wp2
                    go_ret
                    exact ⟨by rw [HR.out]; rfl, hb2⟩

end Go.Proofs.YtfbooamjddnagaaDoor

namespace Go.Proofs.YtfbooamjddnagaaDoor
open Go.RowKit

set_option maxHeartbeats 800000 in
theorem specOp_none (kind : Int) (own : ByteArray) (name : Int) (alg : Option Addr) (lgn clg : Nat) (lg : Nat → Int) (pe len hei cl : Int) (all : Bool) (be unt now : Int) (w : World) (k9 : ¬ In kind 1 9) :
    Calls Tryd.prog 26 #[.agg #[.int .i64 kind, .string own, .int .i64 name, .slice alg lgn clg, .int .i64 pe, .int .i64 len, .int .i64 hei, .int .i64 cl, .bool all, .int .i64 be, .int .i64 unt, .int .i64 now]] w fun e w' => e = .returned (.bool (decide (OpOk ⟨kind, own, name, lgn, lg, pe, len, hei, cl, all, be, unt, now⟩))) ∧ Below w.heap.size w w' := by
  rw [decide_eq_false (show ¬ OpOk ⟨kind, own, name, lgn, lg, pe, len, hei, cl, all, be, unt, now⟩ from fun h => k9 h.1)]
  have x9 : decide (In kind 1 9) = false := decide_eq_false k9
  clear k9
  go_enter Tryd.func26, Tryd.ntmps26
  go_wp2_with (first | (go_at_call 27; refine (l1In_is _ _ _ _).mono ?_; rintro e w' ⟨rfl, hw'⟩; have hw' := hw'.symm; subst hw'))
  go_ret
  exact ⟨rfl, push (Below.refl _ _) _⟩

theorem specOp_any (cs : List Value) (x : OpD) (w : World) (hs : x.own.size ≤ 1000000000000000) (h : OpD.Is w cs x) :
    Calls Tryd.prog 26 #[.agg cs.toArray] w fun e w' => e = .returned (.bool (decide (OpOk x))) ∧ Below w.heap.size w w' := by
  obtain ⟨alg, clg, rfl, _, _⟩ := h
  obtain ⟨kind, own, name, lgn, lg, pe, len, hei, cl, all, be, unt, now⟩ := x
  by_cases k9 : In kind 1 9
  · have h9 : kind = 1 ∨ kind = 2 ∨ kind = 3 ∨ kind = 4 ∨ kind = 5 ∨ kind = 6 ∨ kind = 7 ∨ kind = 8 ∨ kind = 9 := by unfold In at k9; omega
    rcases h9 with rfl | rfl | rfl | rfl | rfl | rfl | rfl | rfl | rfl
    · exact specOp_1 own name alg lgn clg lg pe len hei cl all be unt now w hs
    · exact specOp_2 own name alg lgn clg lg pe len hei cl all be unt now w hs
    · exact specOp_3 own name alg lgn clg lg pe len hei cl all be unt now w hs
    · exact specOp_4 own name alg lgn clg lg pe len hei cl all be unt now w hs
    · exact specOp_5 own name alg lgn clg lg pe len hei cl all be unt now w hs
    · exact specOp_6 own name alg lgn clg lg pe len hei cl all be unt now w hs
    · exact specOp_7 own name alg lgn clg lg pe len hei cl all be unt now w hs
    · exact specOp_8 own name alg lgn clg lg pe len hei cl all be unt now w hs
    · exact specOp_9 own name alg lgn clg lg pe len hei cl all be unt now w hs
  · exact specOp_none kind own name alg lgn clg lg pe len hei cl all be unt now w k9

end Go.Proofs.YtfbooamjddnagaaDoor
