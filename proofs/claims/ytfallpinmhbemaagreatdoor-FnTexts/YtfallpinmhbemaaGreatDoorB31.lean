/-
  OWN TEXT: WishI, PartyI, OpI, OpToldI, OpTextI.
-/
import Derived.Deep.DeepCutAuto
import Derived.Test.YtfallpinmhbemaaGreatDoorB30
import Derived.Test.YtfallpinmhbemaaGreatDoorB01
import Derived.Test.YtfallpinmhbemaaGreatDoorB29
import Derived.Test.YtfallpinmhbemaaGreatDoorB12
import Derived.Test.YtfallpinmhbemaaGreatDoorB28
import Derived.Test.YtfallpinmhbemaaGreatDoorB08
import Derived.Test.YtfallpinmhbemaaGreatDoorB04
import Derived.Test.YtfallpinmhbemaaGreatDoorB05
namespace Go.Proofs.YtfallpinmhbemaaGreatDoor
open Go.RowKit

set_option maxHeartbeats 800000 in
theorem wish_is (cl : Int) (all : Bool) (be : Int) (w : World) :
    Calls Tryz.prog 85 #[.int .i64 cl, .bool all, .int .i64 be] w fun e w' => e = .returned (.bool (decide (CabOk cl all be))) ∧ w' = w := by
  obtain ⟨c, hc⟩ : ∃ c, c = decide (CabOk cl all be) := ⟨_, rfl⟩
  rw [← hc]
  have HC : Hid (c = decide (CabOk cl all be)) := hc
  clear hc
  by_cases h1 : In cl 1 3
  · have e1 : decide (In cl 1 3) = true := decide_eq_true h1
    have H1 : Hid (In cl 1 3) := h1
    clear h1
    cases all with
    | true =>
      by_cases h2 : be = 0
      · subst h2
        go_enter Tryz.func85, Tryz.ntmps85
        go_wp2_with (first | (go_at_call 97; refine (class_is _ _).mono ?_; rintro e w' ⟨rfl, hw'⟩; have hw' := hw'.symm; subst hw'))
        go_ret
        exact ⟨by rw [HC.out, decide_eq_true ⟨H1.out, .inl ⟨rfl, rfl⟩⟩]; rfl, rfl⟩
      · have e2 : (be == 0) = false := by simpa using h2
        have H2 : Hid (¬ be = 0) := h2
        clear h2
        go_enter Tryz.func85, Tryz.ntmps85
        go_wp2_with (first | (go_at_call 97; refine (class_is _ _).mono ?_; rintro e w' ⟨rfl, hw'⟩; have hw' := hw'.symm; subst hw'))
        go_ret
        exact ⟨by rw [HC.out, decide_eq_false (fun h => by rcases h.2 with h | h; exact H2.out h.2; cases h.1)]; rfl, rfl⟩
    | false =>
      by_cases h2 : In be 1 4
      · have e2 : decide (In be 1 4) = true := decide_eq_true h2
        have H2 : Hid (In be 1 4) := h2
        clear h2
        go_enter Tryz.func85, Tryz.ntmps85
        go_wp2_with (first | (go_at_call 97; refine (class_is _ _).mono ?_; rintro e w' ⟨rfl, hw'⟩; have hw' := hw'.symm; subst hw') | (go_at_call 98; refine (berths_is _ _).mono ?_; rintro e w' ⟨rfl, hw'⟩; have hw' := hw'.symm; subst hw'))
        go_ret
        exact ⟨by rw [HC.out, decide_eq_true ⟨H1.out, .inr ⟨rfl, H2.out⟩⟩]; rfl, rfl⟩
      · have e2 : decide (In be 1 4) = false := decide_eq_false h2
        have H2 : Hid (¬ In be 1 4) := h2
        clear h2
        go_enter Tryz.func85, Tryz.ntmps85
        go_wp2_with (first | (go_at_call 97; refine (class_is _ _).mono ?_; rintro e w' ⟨rfl, hw'⟩; have hw' := hw'.symm; subst hw') | (go_at_call 98; refine (berths_is _ _).mono ?_; rintro e w' ⟨rfl, hw'⟩; have hw' := hw'.symm; subst hw'))
        go_ret
        exact ⟨by rw [HC.out, decide_eq_false (fun h => by rcases h.2 with h | h; cases h.1; exact H2.out h.2)]; rfl, rfl⟩
  · have e1 : decide (In cl 1 3) = false := decide_eq_false h1
    have H1 : Hid (¬ In cl 1 3) := h1
    clear h1
    cases all with
    | true =>
      go_enter Tryz.func85, Tryz.ntmps85
      go_wp2_with (first | (go_at_call 97; refine (class_is _ _).mono ?_; rintro e w' ⟨rfl, hw'⟩; have hw' := hw'.symm; subst hw'))
      go_ret
      exact ⟨by rw [HC.out, decide_eq_false (fun h => H1.out h.1)]; rfl, rfl⟩
    | false =>
      go_enter Tryz.func85, Tryz.ntmps85
      go_wp2_with (first | (go_at_call 97; refine (class_is _ _).mono ?_; rintro e w' ⟨rfl, hw'⟩; have hw' := hw'.symm; subst hw'))
      go_ret
      exact ⟨by rw [HC.out, decide_eq_false (fun h => H1.out h.1)]; rfl, rfl⟩

end Go.Proofs.YtfallpinmhbemaaGreatDoor

namespace Go.Proofs.YtfallpinmhbemaaGreatDoor
open Go.RowKit

set_option maxHeartbeats 1600000 in
theorem implParty_any (pe len hei cl : Int) (all : Bool) (be : Int) (w : World) :
    Calls Tryz.prog 34 #[.agg #[.int .i64 pe, .int .i64 len, .int .i64 hei, .int .i64 cl, .bool all, .int .i64 be]] w fun e w' => SaysIf (PartyOk ⟨pe, len, hei, cl, all, be⟩) e ∧ Below w.heap.size w w' := by
  obtain ⟨c1, hc1⟩ : ∃ c, c = decide (In pe 1 20) := ⟨_, rfl⟩
  obtain ⟨c2, hc2⟩ : ∃ c, c = decide (¬ (len = 0 ∧ hei = 0)) := ⟨_, rfl⟩
  obtain ⟨c3, hc3⟩ : ∃ c, c = decide (In len 1 2000 ∧ In hei 1 500) := ⟨_, rfl⟩
  obtain ⟨c4, hc4⟩ : ∃ c, c = decide (¬ (cl = 0 ∧ all = false ∧ be = 0)) := ⟨_, rfl⟩
  obtain ⟨c5, hc5⟩ : ∃ c, c = decide (CabOk cl all be) := ⟨_, rfl⟩
  have H1 : Hid (c1 = decide (In pe 1 20)) := hc1
  have H2 : Hid (c2 = decide (¬ (len = 0 ∧ hei = 0))) := hc2
  have H3 : Hid (c3 = decide (In len 1 2000 ∧ In hei 1 500)) := hc3
  have H4 : Hid (c4 = decide (¬ (cl = 0 ∧ all = false ∧ be = 0))) := hc4
  have H5 : Hid (c5 = decide (CabOk cl all be)) := hc5
  have HP : Hid (PartyOk ⟨pe, len, hei, cl, all, be⟩ ↔ c1 = true ∧ (c2 = false ∨ c3 = true) ∧ (c4 = false ∨ c5 = true)) := by
    show PartyOk ⟨pe, len, hei, cl, all, be⟩ ↔ c1 = true ∧ (c2 = false ∨ c3 = true) ∧ (c4 = false ∨ c5 = true)
    rw [hc1, hc2, hc3, hc4, hc5]
    unfold PartyOk CarOk
    simp only [decide_eq_true_eq, decide_eq_false_iff_not, Classical.not_not]
  clear hc1 hc2 hc3 hc4 hc5
  go_enter Tryz.func34, Tryz.ntmps34
  go_wp2_with fail
  have hb0 : Below w.heap.size w (w.alloc (.cells #[.int .i64 pe, .int .i64 len, .int .i64 hei, .int .i64 cl, .bool all, .int .i64 be] 25)) := push (Below.refl _ _) _
  have b0 := heap_alloc_new w (.cells #[.int .i64 pe, .int .i64 len, .int .i64 hei, .int .i64 cl, .bool all, .int .i64 be] 25)
  generalize w.alloc (.cells #[.int .i64 pe, .int .i64 len, .int .i64 hei, .int .i64 cl, .bool all, .int .i64 be] 25) = W at hb0 b0 ⊢
  have y0 := blk_cell b0 0 _ rfl
  have y1 := blk_cell b0 1 _ rfl
  have y2 := blk_cell b0 2 _ rfl
  have y3 := blk_cell b0 3 _ rfl
  have y4 := blk_cell b0 4 _ rfl
  have y5 := blk_cell b0 5 _ rfl
  refine (within_is _ _ _ _).mono ?_
  rw [← H1.out]
  rintro e w' ⟨rfl, hw'⟩
  have hw' := hw'.symm
  subst hw'
  cases c1 with
  | false =>
    have HN : Hid (¬ PartyOk ⟨pe, len, hei, cl, all, be⟩) := fun h => by have := (HP.out.1 h).1; cases this
    clear HP
    go_wp2
    go_ret
    exact ⟨says_no HN.out, hb0⟩
  | true =>
    go_wp2_with fail
    refine (asksCar_any pe len hei cl all be _).mono ?_
    rw [← H2.out]
    rintro e w1 ⟨rfl, hb1⟩
    have b1 := blk_below b0 hb1
    have bw1 := after hb0 hb1
    clear y0 y1 y2 y3 y4 y5 hb0 b0 hb1
    have y1 := blk_cell b1 1 _ rfl
    have y2 := blk_cell b1 2 _ rfl
    cases c2 with
    | false =>
      have y0 := blk_cell b1 0 _ rfl
      have y3 := blk_cell b1 3 _ rfl
      have y4 := blk_cell b1 4 _ rfl
      have y5 := blk_cell b1 5 _ rfl
      go_wp2_with fail
      refine (asksCabin_any pe len hei cl all be _).mono ?_
      rw [← H4.out]
      rintro e w2 ⟨rfl, hb2⟩
      have b2 := blk_below b1 hb2
      have bw2 := after bw1 hb2
      clear y0 y1 y2 y3 y4 y5 bw1 b1 hb2
      have y3 := blk_cell b2 3 _ rfl
      have y4 := blk_cell b2 4 _ rfl
      have y5 := blk_cell b2 5 _ rfl
      cases c4 with
      | false =>
        go_wp2
        go_ret
        exact ⟨says_yes (HP.out.2 (by simp)), bw2⟩
      | true =>
        go_wp2_with fail
        refine (wish_is _ _ _ _).mono ?_
        rw [← H5.out]
        rintro e w' ⟨rfl, hw'⟩
        have hw' := hw'.symm
        subst hw'
        cases c5 with
        | true =>
          go_wp2
          go_ret
          exact ⟨says_yes (HP.out.2 (by simp)), bw2⟩
        | false =>
          have HN : Hid (¬ PartyOk ⟨pe, len, hei, cl, all, be⟩) := fun h => by have h := HP.out.1 h; simp at h
          clear HP
          go_wp2
          go_ret
          exact ⟨says_no HN.out, bw2⟩
    | true =>
      go_wp2_with fail
      refine (isCar_is _ _ _).mono ?_
      rw [← H3.out]
      rintro e w' ⟨rfl, hw'⟩
      have hw' := hw'.symm
      subst hw'
      cases c3 with
      | false =>
        have HN : Hid (¬ PartyOk ⟨pe, len, hei, cl, all, be⟩) := fun h => by have h := HP.out.1 h; simp at h
        clear HP
        go_wp2
        go_ret
        exact ⟨says_no HN.out, bw1⟩
      | true =>
        have y0 := blk_cell b1 0 _ rfl
        have y3 := blk_cell b1 3 _ rfl
        have y4 := blk_cell b1 4 _ rfl
        have y5 := blk_cell b1 5 _ rfl
        go_wp2_with fail
        refine (asksCabin_any pe len hei cl all be _).mono ?_
        rw [← H4.out]
        rintro e w2 ⟨rfl, hb2⟩
        have b2 := blk_below b1 hb2
        have bw2 := after bw1 hb2
        clear y0 y1 y2 y3 y4 y5 bw1 b1 hb2
        have y3 := blk_cell b2 3 _ rfl
        have y4 := blk_cell b2 4 _ rfl
        have y5 := blk_cell b2 5 _ rfl
        cases c4 with
        | false =>
          go_wp2
          go_ret
          exact ⟨says_yes (HP.out.2 (by simp)), bw2⟩
        | true =>
          go_wp2_with fail
          refine (wish_is _ _ _ _).mono ?_
          rw [← H5.out]
          rintro e w' ⟨rfl, hw'⟩
          have hw' := hw'.symm
          subst hw'
          cases c5 with
          | true =>
            go_wp2
            go_ret
            exact ⟨says_yes (HP.out.2 (by simp)), bw2⟩
          | false =>
            have HN : Hid (¬ PartyOk ⟨pe, len, hei, cl, all, be⟩) := fun h => by have h := HP.out.1 h; simp at h
            clear HP
            go_wp2
            go_ret
            exact ⟨says_no HN.out, bw2⟩

end Go.Proofs.YtfallpinmhbemaaGreatDoor

namespace Go.Proofs.YtfallpinmhbemaaGreatDoor
open Go.RowKit

set_option maxHeartbeats 800000 in
theorem party_eql (pe len hei cl : Int) (all : Bool) (be : Int) (w : World) :
    (binOp .eql 25 (.agg #[.int .i64 pe, .int .i64 len, .int .i64 hei, .int .i64 cl, .bool all, .int .i64 be]) (.agg #[.int .i64 0, .int .i64 0, .int .i64 0, .int .i64 0, .bool false, .int .i64 0])).run Tryz.prog w = .ok (.bool (PZ pe len hei cl all be)) w := by
  unfold PZ NoParty
  by_cases h1 : pe = 0
  · subst h1
    by_cases h2 : len = 0
    · subst h2
      by_cases h3 : hei = 0
      · subst h3
        by_cases h4 : cl = 0
        · subst h4
          cases all with
          | false =>
            by_cases h5 : be = 0
            · subst h5
              go_simp
            · go_simp
          | true => go_simp
        · go_simp
      · go_simp
    · go_simp
  · go_simp

theorem implParty_is (pe len hei cl : Int) (all : Bool) (be : Int) (w : World) :
    Calls Tryz.prog 34 #[.agg #[.int .i64 pe, .int .i64 len, .int .i64 hei, .int .i64 cl, .bool all, .int .i64 be]] w fun e w' => e = .returned (.bool (decide (PartyOk ⟨pe, len, hei, cl, all, be⟩))) ∧ Below w.heap.size w w' := by
  refine (implParty_any pe len hei cl all be w).mono ?_
  rintro e w' ⟨⟨b, rfl, hb⟩, hw⟩
  refine ⟨?_, hw⟩
  congr 2
  rw [Bool.eq_iff_iff, hb, decide_eq_true_eq]
theorem form_cases {k : Nat} (h : 1 ≤ k ∧ k ≤ 9) : k = 1 ∨ k = 2 ∨ k = 3 ∨ k = 4 ∨ k = 5 ∨ k = 6 ∨ k = 7 ∨ k = 8 ∨ k = 9 := by omega
theorem owner_form {k : Nat} (s : ByteArray) : (if fOwner k then decide (IsName s) else s.toList.isEmpty) = decide (OwnerOk k s) := by
  by_cases c : k = 2 ∨ k = 3 ∨ k = 7
  · have e : fOwner k = true := decide_eq_true c
    rw [e, if_pos rfl]
    have c2 : (k : Int) = 2 ∨ (k : Int) = 3 ∨ (k : Int) = 7 := by omega
    rw [Bool.eq_iff_iff, decide_eq_true_eq, decide_eq_true_eq]
    unfold OwnerOk
    rw [if_pos c2]
  · have e : fOwner k = false := decide_eq_false c
    rw [e, owner_empty s (show ¬ ((k : Int) = 2 ∨ (k : Int) = 3 ∨ (k : Int) = 7) by omega)]
    rfl
theorem name_form {k : Nat} (n : Int) : (if fName k then decide (In n 1 30) else (n == 0)) = decide (NameOk k n) := by
  by_cases c : 4 ≤ k ∧ k ≤ 8
  · have e : fName k = true := decide_eq_true c
    have c2 : In (k : Int) 4 8 := ⟨by omega, by omega⟩
    rw [e, if_pos rfl, Bool.eq_iff_iff, decide_eq_true_eq, decide_eq_true_eq]
    unfold NameOk
    rw [if_pos c2]
  · have e : fName k = false := decide_eq_false c
    rw [e, name_zero n (show ¬ In (k : Int) 4 8 by unfold In; omega)]
    rfl
theorem legs_form {k : Nat} (n : Nat) : (if decide (0 < fLegs k) then decide (In (n : Int) 1 (fLegs k)) else ((n : Int) == 0)) = decide (LegsOkFor k n) := by
  by_cases c : k = 1 ∨ k = 2 ∨ k = 3 ∨ k = 5
  · have e : fLegs k = 3 := if_pos c
    have c2 : HasLegs (k : Int) := by unfold HasLegs; omega
    rw [e, show decide ((0 : Int) < 3) = true from rfl, if_pos rfl, Bool.eq_iff_iff, decide_eq_true_eq, decide_eq_true_eq]
    unfold LegsOkFor In
    rw [if_pos c2]
    omega
  · have c2 : ¬ HasLegs (k : Int) := by unfold HasLegs; omega
    by_cases c9 : k = 9
    · have e : fLegs k = 1 := by unfold fLegs; rw [if_neg c, if_pos c9]
      rw [e, show decide ((0 : Int) < 1) = true from rfl, if_pos rfl, Bool.eq_iff_iff, decide_eq_true_eq, decide_eq_true_eq]
      unfold LegsOkFor In
      rw [if_neg c2, if_pos (by omega)]
      omega
    · have e : fLegs k = 0 := by unfold fLegs; rw [if_neg c, if_neg c9]
      rw [e, show decide ((0 : Int) < 0) = false from rfl, if_neg (by decide), int_zero, Bool.eq_iff_iff, decide_eq_true_eq, decide_eq_true_eq]
      unfold LegsOkFor
      rw [if_neg c2, if_neg (by omega)]
theorem party_form {k : Nat} {q : Bool} {p : Party} (h : q = true ↔ PartyOk p) : (if fParty k then q else PZ p.pe p.len p.hei p.cl p.all p.be) = decide (PartyOkFor k p) := by
  by_cases c : k = 1 ∨ k = 2 ∨ k = 3 ∨ k = 5
  · have e : fParty k = true := decide_eq_true c
    rw [e, if_pos rfl]
    exact (party_says (show HasLegs (k : Int) by unfold HasLegs; omega) h).symm
  · have e : fParty k = false := decide_eq_false c
    rw [e, if_neg (by decide)]
    exact party_none (show ¬ HasLegs (k : Int) by unfold HasLegs; omega)
theorem until_form {k : Nat} (u : Int) : (if fUntil k then decide (In u 0 10000) else (u == 0)) = decide (UntilOk k u) := by
  by_cases c : k = 2
  · have e : fUntil k = true := decide_eq_true c
    rw [e, if_pos rfl, Bool.eq_iff_iff, decide_eq_true_eq, decide_eq_true_eq]
    unfold UntilOk In
    omega
  · have e : fUntil k = false := decide_eq_false c
    rw [e, if_neg (by decide), Bool.eq_iff_iff, beq_iff_eq, decide_eq_true_eq]
    unfold UntilOk
    omega
theorem now_form {k : Nat} (u : Int) : (if fNow k then decide (In u 0 10000) else (u == 0)) = decide (NowOk k u) := by
  by_cases c : k = 6 ∨ k = 8
  · have e : fNow k = true := decide_eq_true c
    rw [e, if_pos rfl, Bool.eq_iff_iff, decide_eq_true_eq, decide_eq_true_eq]
    unfold NowOk In
    omega
  · have e : fNow k = false := decide_eq_false c
    rw [e, if_neg (by decide), Bool.eq_iff_iff, beq_iff_eq, decide_eq_true_eq]
    unfold NowOk
    omega

set_option maxHeartbeats 6400000 in
set_option maxRecDepth 100000 in
theorem implOp_any (cs : List Value) (x : OpD) (w : World) (hs : x.own.size ≤ 1000000000000000) (h : OpD.Is w cs x) (hF : FormsAt w) :
    Calls Tryz.prog 14 #[.agg cs.toArray] w fun e w' => e = .returned (.bool (decide (OpOk x))) ∧ Below w.heap.size w w' := by
  obtain ⟨alg, clg, rfl, _, _⟩ := h
  obtain ⟨V, hV⟩ : ∃ V, V = decide (OpOk x) := ⟨_, rfl⟩
  rw [← hV]
  have HV : Hid (V = true ↔ OpOk x) := by show V = true ↔ OpOk x; rw [hV, decide_eq_true_eq]
  clear hV
  have HFM : Hid (FormsAt w) := hF
  clear hF
  have qP := party_eql x.pe x.len x.hei x.cl x.all x.be
  have hb0 : Below w.heap.size w (w.alloc (.cells #[.int .i64 x.kind, .string x.own, .int .i64 x.name, .slice alg x.lgn clg, .int .i64 x.pe, .int .i64 x.len, .int .i64 x.hei, .int .i64 x.cl, .bool x.all, .int .i64 x.be, .int .i64 x.unt, .int .i64 x.now] 27)) := push (Below.refl _ _) _
  have b0 := heap_alloc_new w (.cells #[.int .i64 x.kind, .string x.own, .int .i64 x.name, .slice alg x.lgn clg, .int .i64 x.pe, .int .i64 x.len, .int .i64 x.hei, .int .i64 x.cl, .bool x.all, .int .i64 x.be, .int .i64 x.unt, .int .i64 x.now] 27)
  go_enter Tryz.func14, Tryz.ntmps14
  go_wp2_with fail
  generalize w.alloc (.cells #[.int .i64 x.kind, .string x.own, .int .i64 x.name, .slice alg x.lgn clg, .int .i64 x.pe, .int .i64 x.len, .int .i64 x.hei, .int .i64 x.cl, .bool x.all, .int .i64 x.be, .int .i64 x.unt, .int .i64 x.now] 27) = W at hb0 b0 ⊢
  obtain ⟨t0, ht0⟩ : ∃ t, t = decide (In x.kind 1 9) := ⟨_, rfl⟩
  have HT0 : Hid (t0 = true ↔ In x.kind 1 9) := by show t0 = true ↔ In x.kind 1 9; rw [ht0, decide_eq_true_eq]
  refine (within_is _ _ _ _).mono ?_
  rw [← ht0]
  clear ht0
  rintro e v ⟨rfl, hv⟩
  have hv := hv.symm
  subst hv
  cases t0 with
  | false =>
    have HN : Hid (V = false) := Bool.eq_false_iff.2 (fun h => by have := HT0.out.2 (HV.out.1 h).1; cases this)
    go_wp2
    go_ret
    exact ⟨by rw [HN.out]; rfl, hb0⟩
  | true =>
  have HIN : Hid (In x.kind 1 9) := HT0.out.1 rfl
  obtain ⟨k, hk⟩ : ∃ k : Nat, x.kind = (k : Int) := ⟨x.kind.toNat, by have := HIN.out.1; omega⟩
  have HKD : Hid (x.kind = (k : Int)) := hk
  have hk9 : 1 ≤ k ∧ k ≤ 9 := by have := HIN.out; unfold In at this; omega
  clear HT0
  have t0 : W.cell? ⟨0, k * 7, none⟩ = some (.bool (fOwner k)) := (hb0.cell (p := ⟨0, k * 7, none⟩) HFM.out.lt).trans (HFM.out k (by omega)).1
  have t1 : W.cell? ⟨0, k * 7 + 1, none⟩ = some (.bool (fName k)) := (hb0.cell (p := ⟨0, k * 7 + 1, none⟩) HFM.out.lt).trans (HFM.out k (by omega)).2.1
  have t2 : W.cell? ⟨0, k * 7 + 2, none⟩ = some (.int .i64 (fLegs k)) := (hb0.cell (p := ⟨0, k * 7 + 2, none⟩) HFM.out.lt).trans (HFM.out k (by omega)).2.2.1
  have t3 : W.cell? ⟨0, k * 7 + 3, none⟩ = some (.bool (fParty k)) := (hb0.cell (p := ⟨0, k * 7 + 3, none⟩) HFM.out.lt).trans (HFM.out k (by omega)).2.2.2.1
  have t4 : W.cell? ⟨0, k * 7 + 4, none⟩ = some (.bool (fUntil k)) := (hb0.cell (p := ⟨0, k * 7 + 4, none⟩) HFM.out.lt).trans (HFM.out k (by omega)).2.2.2.2.1
  have t5 : W.cell? ⟨0, k * 7 + 5, none⟩ = some (.bool (fNow k)) := (hb0.cell (p := ⟨0, k * 7 + 5, none⟩) HFM.out.lt).trans (HFM.out k (by omega)).2.2.2.2.2.1
  have t6 : W.cell? ⟨0, k * 7 + 6, none⟩ = some (.bool (fFrees k)) := (hb0.cell (p := ⟨0, k * 7 + 6, none⟩) HFM.out.lt).trans (HFM.out k (by omega)).2.2.2.2.2.2
  have y0 : W.cell? ⟨w.heap.size, 0, none⟩ = some (.int .i64 (k : Int)) := by rw [← hk]; exact blk_cell b0 0 _ rfl
  have hk0 : (0 : Int) ≤ (k : Int) := by omega
  have hk1 : (k : Int) < 10 := by omega
  have bO1 := blk_alloc b0 (.cells #[.bool (fOwner k), .bool (fName k), .int .i64 (fLegs k), .bool (fParty k), .bool (fUntil k), .bool (fNow k), .bool (fFrees k)] 69)
  have bF1 := heap_alloc_new W (.cells #[.bool (fOwner k), .bool (fName k), .int .i64 (fLegs k), .bool (fParty k), .bool (fUntil k), .bool (fNow k), .bool (fFrees k)] 69)
  have hb1 := push hb0 (.cells #[.bool (fOwner k), .bool (fName k), .int .i64 (fLegs k), .bool (fParty k), .bool (fUntil k), .bool (fNow k), .bool (fFrees k)] 69)
  clear hk
  go_upto_region 4 with fail
  generalize hFx : W.heap.size = Fx at bF1 ⊢
  generalize W.alloc (.cells #[.bool (fOwner k), .bool (fName k), .int .i64 (fLegs k), .bool (fParty k), .bool (fUntil k), .bool (fNow k), .bool (fFrees k)] 69) = W1 at hb1 bO1 bF1 ⊢
  clear y0 t0 t1 t2 t3 t4 t5 t6 hk0 hk1 hb0 b0 hFx
  have lO := blk_lt bO1
  have lF := blk_lt bF1
  have z1 : ∀ g : Grown W1, g.val.cell? ⟨w.heap.size, 1, none⟩ = some (.string x.own) := fun g => (g.bel.cell lO).trans (blk_cell bO1 1 _ rfl)
  have z2 : ∀ g : Grown W1, g.val.cell? ⟨w.heap.size, 2, none⟩ = some (.int .i64 x.name) := fun g => (g.bel.cell lO).trans (blk_cell bO1 2 _ rfl)
  have z3 : ∀ g : Grown W1, g.val.cell? ⟨w.heap.size, 3, none⟩ = some (.slice alg x.lgn clg) := fun g => (g.bel.cell lO).trans (blk_cell bO1 3 _ rfl)
  have z4 : ∀ g : Grown W1, g.val.cell? ⟨w.heap.size, 4, none⟩ = some (.int .i64 x.pe) := fun g => (g.bel.cell lO).trans (blk_cell bO1 4 _ rfl)
  have z5 : ∀ g : Grown W1, g.val.cell? ⟨w.heap.size, 5, none⟩ = some (.int .i64 x.len) := fun g => (g.bel.cell lO).trans (blk_cell bO1 5 _ rfl)
  have z6 : ∀ g : Grown W1, g.val.cell? ⟨w.heap.size, 6, none⟩ = some (.int .i64 x.hei) := fun g => (g.bel.cell lO).trans (blk_cell bO1 6 _ rfl)
  have z7 : ∀ g : Grown W1, g.val.cell? ⟨w.heap.size, 7, none⟩ = some (.int .i64 x.cl) := fun g => (g.bel.cell lO).trans (blk_cell bO1 7 _ rfl)
  have z8 : ∀ g : Grown W1, g.val.cell? ⟨w.heap.size, 8, none⟩ = some (.bool x.all) := fun g => (g.bel.cell lO).trans (blk_cell bO1 8 _ rfl)
  have z9 : ∀ g : Grown W1, g.val.cell? ⟨w.heap.size, 9, none⟩ = some (.int .i64 x.be) := fun g => (g.bel.cell lO).trans (blk_cell bO1 9 _ rfl)
  have z10 : ∀ g : Grown W1, g.val.cell? ⟨w.heap.size, 10, none⟩ = some (.int .i64 x.unt) := fun g => (g.bel.cell lO).trans (blk_cell bO1 10 _ rfl)
  have z11 : ∀ g : Grown W1, g.val.cell? ⟨w.heap.size, 11, none⟩ = some (.int .i64 x.now) := fun g => (g.bel.cell lO).trans (blk_cell bO1 11 _ rfl)
  have f0 : ∀ g : Grown W1, g.val.cell? ⟨Fx, 0, none⟩ = some (.bool (fOwner k)) := fun g => (g.bel.cell lF).trans (blk_cell bF1 0 _ rfl)
  have f1 : ∀ g : Grown W1, g.val.cell? ⟨Fx, 1, none⟩ = some (.bool (fName k)) := fun g => (g.bel.cell lF).trans (blk_cell bF1 1 _ rfl)
  have f2 : ∀ g : Grown W1, g.val.cell? ⟨Fx, 2, none⟩ = some (.int .i64 (fLegs k)) := fun g => (g.bel.cell lF).trans (blk_cell bF1 2 _ rfl)
  have f3 : ∀ g : Grown W1, g.val.cell? ⟨Fx, 3, none⟩ = some (.bool (fParty k)) := fun g => (g.bel.cell lF).trans (blk_cell bF1 3 _ rfl)
  have f4 : ∀ g : Grown W1, g.val.cell? ⟨Fx, 4, none⟩ = some (.bool (fUntil k)) := fun g => (g.bel.cell lF).trans (blk_cell bF1 4 _ rfl)
  have f5 : ∀ g : Grown W1, g.val.cell? ⟨Fx, 5, none⟩ = some (.bool (fNow k)) := fun g => (g.bel.cell lF).trans (blk_cell bF1 5 _ rfl)
  obtain ⟨q0, hq0⟩ : ∃ t, decide (IsName x.own) = t := ⟨_, rfl⟩
  have HQ0 : Hid (decide (IsName x.own) = q0) := hq0
  obtain ⟨q1, hq1⟩ : ∃ t, decide (In x.name 1 30) = t := ⟨_, rfl⟩
  have HQ1 : Hid (decide (In x.name 1 30) = q1) := hq1
  obtain ⟨q2, hq2⟩ : ∃ t, decide (In (x.lgn : Int) 1 (fLegs k)) = t := ⟨_, rfl⟩
  have HQ2 : Hid (decide (In (x.lgn : Int) 1 (fLegs k)) = q2) := hq2
  obtain ⟨q3, hq3⟩ : ∃ t, decide (PartyOk ⟨x.pe, x.len, x.hei, x.cl, x.all, x.be⟩) = t := ⟨_, rfl⟩
  have HQ3 : Hid (decide (PartyOk ⟨x.pe, x.len, x.hei, x.cl, x.all, x.be⟩) = q3) := hq3
  obtain ⟨q4, hq4⟩ : ∃ t, decide (In x.unt 0 10000) = t := ⟨_, rfl⟩
  have HQ4 : Hid (decide (In x.unt 0 10000) = q4) := hq4
  obtain ⟨q5, hq5⟩ : ∃ t, decide (In x.now 0 10000) = t := ⟨_, rfl⟩
  have HQ5 : Hid (decide (In x.now 0 10000) = q5) := hq5
  clear hq0 hq1 hq2 hq3 hq4 hq5 bO1 bF1
  have HF0 : Hid ((if fOwner k then q0 else x.own.toList.isEmpty) = true ↔ OwnerOk x.kind x.own) := by
    show (if fOwner k then q0 else x.own.toList.isEmpty) = true ↔ OwnerOk x.kind x.own
    rw [← HQ0.out, owner_form x.own, decide_eq_true_eq, HKD.out]
  have HF1 : Hid ((if fName k then q1 else (x.name == 0)) = true ↔ NameOk x.kind x.name) := by
    show (if fName k then q1 else (x.name == 0)) = true ↔ NameOk x.kind x.name
    rw [← HQ1.out, name_form x.name, decide_eq_true_eq, HKD.out]
  have HF2 : Hid ((if decide (0 < fLegs k) then q2 else ((x.lgn : Int) == 0)) = true ↔ LegsOkFor x.kind x.lgn) := by
    show (if decide (0 < fLegs k) then q2 else ((x.lgn : Int) == 0)) = true ↔ LegsOkFor x.kind x.lgn
    rw [← HQ2.out, legs_form x.lgn, decide_eq_true_eq, HKD.out]
  have HF3 : Hid ((if fParty k then q3 else (PZ x.pe x.len x.hei x.cl x.all x.be)) = true ↔ PartyOkFor x.kind x.p) := by
    show (if fParty k then q3 else (PZ x.pe x.len x.hei x.cl x.all x.be)) = true ↔ PartyOkFor x.kind x.p
    have h3 : (if fParty k then q3 else PZ x.pe x.len x.hei x.cl x.all x.be) = decide (PartyOkFor (k : Int) x.p) := party_form (p := x.p) (show q3 = true ↔ PartyOk x.p by rw [← HQ3.out, decide_eq_true_eq]; exact Iff.rfl)
    rw [h3, decide_eq_true_eq, HKD.out]
  have HF4 : Hid ((if fUntil k then q4 else (x.unt == 0)) = true ↔ UntilOk x.kind x.unt) := by
    show (if fUntil k then q4 else (x.unt == 0)) = true ↔ UntilOk x.kind x.unt
    rw [← HQ4.out, until_form x.unt, decide_eq_true_eq, HKD.out]
  have HF5 : Hid ((if fNow k then q5 else (x.now == 0)) = true ↔ NowOk x.kind x.now) := by
    show (if fNow k then q5 else (x.now == 0)) = true ↔ NowOk x.kind x.now
    rw [← HQ5.out, now_form x.now, decide_eq_true_eq, HKD.out]
  by_cases p0 : OwnerOk x.kind x.own
  case neg =>
    have D0 : Hid ((if fOwner k then q0 else x.own.toList.isEmpty) = false) := Bool.eq_false_iff.2 (fun h => p0 (HF0.out.1 h))
    have HN : Hid (V = false) := Bool.eq_false_iff.2 (fun h => p0 (HV.out.1 h).2.1)
    clear p0
    refine wp_region_grow (by kernel_rfl) (by kernel_rfl) ?_
    simp only [List.append_eq, List.cons_append, List.nil_append]
    repeat (first | go_big_quiet_skip | (go_big_quiet_want; go_big_quiet_op; first | go_big_quiet_on | (apply Exists.intro; refine ⟨fun g => ?_, ?_⟩; (focus (go_at_call 33; with_reducible refine grown_call (v := .bool q0) (Calls.mono (isName_is x.own _ hs) ?_); rintro e w2 ⟨rfl, rfl⟩; exact ⟨by rw [HQ0.out], Below.refl _ _⟩)); go_big_quiet_on) | (apply Exists.intro; refine ⟨fun g => ?_, ?_⟩; (focus (go_at_call 32; with_reducible refine grown_call (v := .bool false) (Calls.mono (goodWhere_is (fOwner k) q0 x.own.toList.isEmpty _) ?_); rintro e w2 ⟨rfl, rfl⟩; exact ⟨by rw [D0.out], Below.refl _ _⟩)); go_big_quiet_on)))
    refine wpQuiet_nil ?_
    rintro _ ⟨g, rfl⟩
    go_wp2
    go_ret
    exact ⟨by rw [HN.out]; rfl, after hb1 g.bel⟩
  have D0 : Hid ((if fOwner k then q0 else x.own.toList.isEmpty) = true) := HF0.out.2 p0
  have HP0 : Hid (OwnerOk x.kind x.own) := p0
  clear p0
  by_cases p1 : NameOk x.kind x.name
  case neg =>
    have D1 : Hid ((if fName k then q1 else (x.name == 0)) = false) := Bool.eq_false_iff.2 (fun h => p1 (HF1.out.1 h))
    have HN : Hid (V = false) := Bool.eq_false_iff.2 (fun h => p1 (HV.out.1 h).2.2.1)
    clear p1
    refine wp_region_grow (by kernel_rfl) (by kernel_rfl) ?_
    simp only [List.append_eq, List.cons_append, List.nil_append]
    repeat (first | go_big_quiet_skip | (go_big_quiet_want; go_big_quiet_op; first | go_big_quiet_on | (apply Exists.intro; refine ⟨fun g => ?_, ?_⟩; (focus (go_at_call 33; with_reducible refine grown_call (v := .bool q0) (Calls.mono (isName_is x.own _ hs) ?_); rintro e w2 ⟨rfl, rfl⟩; exact ⟨by rw [HQ0.out], Below.refl _ _⟩)); go_big_quiet_on) | (apply Exists.intro; refine ⟨fun g => ?_, ?_⟩; (focus (go_at_call 31; with_reducible refine grown_call (v := .bool q1) (Calls.mono (within_is x.name 1 30 _) ?_); rintro e w2 ⟨rfl, rfl⟩; exact ⟨by rw [HQ1.out], Below.refl _ _⟩)); go_big_quiet_on) | (apply Exists.intro; refine ⟨fun g => ?_, ?_⟩; (focus (go_at_call 32; with_reducible refine grown_call (v := .bool true) (Calls.mono (goodWhere_is (fOwner k) q0 x.own.toList.isEmpty _) ?_); rintro e w2 ⟨rfl, rfl⟩; exact ⟨by rw [D0.out], Below.refl _ _⟩)); go_big_quiet_on) | (apply Exists.intro; refine ⟨fun g => ?_, ?_⟩; (focus (go_at_call 32; with_reducible refine grown_call (v := .bool false) (Calls.mono (goodWhere_is (fName k) q1 (x.name == 0) _) ?_); rintro e w2 ⟨rfl, rfl⟩; exact ⟨by rw [D1.out], Below.refl _ _⟩)); go_big_quiet_on)))
    refine wpQuiet_nil ?_
    rintro _ ⟨g, rfl⟩
    go_wp2
    go_ret
    exact ⟨by rw [HN.out]; rfl, after hb1 g.bel⟩
  have D1 : Hid ((if fName k then q1 else (x.name == 0)) = true) := HF1.out.2 p1
  have HP1 : Hid (NameOk x.kind x.name) := p1
  clear p1
  by_cases p2 : LegsOkFor x.kind x.lgn
  case neg =>
    have D2 : Hid ((if decide (0 < fLegs k) then q2 else ((x.lgn : Int) == 0)) = false) := Bool.eq_false_iff.2 (fun h => p2 (HF2.out.1 h))
    have HN : Hid (V = false) := Bool.eq_false_iff.2 (fun h => p2 (HV.out.1 h).2.2.2.1)
    clear p2
    refine wp_region_grow (by kernel_rfl) (by kernel_rfl) ?_
    simp only [List.append_eq, List.cons_append, List.nil_append]
    repeat (first | go_big_quiet_skip | (go_big_quiet_want; go_big_quiet_op; first | go_big_quiet_on | (apply Exists.intro; refine ⟨fun g => ?_, ?_⟩; (focus (go_at_call 33; with_reducible refine grown_call (v := .bool q0) (Calls.mono (isName_is x.own _ hs) ?_); rintro e w2 ⟨rfl, rfl⟩; exact ⟨by rw [HQ0.out], Below.refl _ _⟩)); go_big_quiet_on) | (apply Exists.intro; refine ⟨fun g => ?_, ?_⟩; (focus (go_at_call 31; with_reducible refine grown_call (v := .bool q1) (Calls.mono (within_is x.name 1 30 _) ?_); rintro e w2 ⟨rfl, rfl⟩; exact ⟨by rw [HQ1.out], Below.refl _ _⟩)); go_big_quiet_on) | (apply Exists.intro; refine ⟨fun g => ?_, ?_⟩; (focus (go_at_call 31; with_reducible refine grown_call (v := .bool q2) (Calls.mono (within_is (x.lgn : Int) 1 (fLegs k) _) ?_); rintro e w2 ⟨rfl, rfl⟩; exact ⟨by rw [HQ2.out], Below.refl _ _⟩)); go_big_quiet_on) | (apply Exists.intro; refine ⟨fun g => ?_, ?_⟩; (focus (go_at_call 32; with_reducible refine grown_call (v := .bool true) (Calls.mono (goodWhere_is (fOwner k) q0 x.own.toList.isEmpty _) ?_); rintro e w2 ⟨rfl, rfl⟩; exact ⟨by rw [D0.out], Below.refl _ _⟩)); go_big_quiet_on) | (apply Exists.intro; refine ⟨fun g => ?_, ?_⟩; (focus (go_at_call 32; with_reducible refine grown_call (v := .bool true) (Calls.mono (goodWhere_is (fName k) q1 (x.name == 0) _) ?_); rintro e w2 ⟨rfl, rfl⟩; exact ⟨by rw [D1.out], Below.refl _ _⟩)); go_big_quiet_on) | (apply Exists.intro; refine ⟨fun g => ?_, ?_⟩; (focus (go_at_call 32; with_reducible refine grown_call (v := .bool false) (Calls.mono (goodWhere_is (decide (0 < fLegs k)) q2 ((x.lgn : Int) == 0) _) ?_); rintro e w2 ⟨rfl, rfl⟩; exact ⟨by rw [D2.out], Below.refl _ _⟩)); go_big_quiet_on)))
    refine wpQuiet_nil ?_
    rintro _ ⟨g, rfl⟩
    go_wp2
    go_ret
    exact ⟨by rw [HN.out]; rfl, after hb1 g.bel⟩
  have D2 : Hid ((if decide (0 < fLegs k) then q2 else ((x.lgn : Int) == 0)) = true) := HF2.out.2 p2
  have HP2 : Hid (LegsOkFor x.kind x.lgn) := p2
  clear p2
  by_cases p3 : PartyOkFor x.kind x.p
  case neg =>
    have D3 : Hid ((if fParty k then q3 else (PZ x.pe x.len x.hei x.cl x.all x.be)) = false) := Bool.eq_false_iff.2 (fun h => p3 (HF3.out.1 h))
    have HN : Hid (V = false) := Bool.eq_false_iff.2 (fun h => p3 (HV.out.1 h).2.2.2.2.1)
    clear p3
    refine wp_region_grow (by kernel_rfl) (by kernel_rfl) ?_
    simp only [List.append_eq, List.cons_append, List.nil_append]
    repeat (first | go_big_quiet_skip | (go_big_quiet_want; go_big_quiet_op; first | go_big_quiet_on | (apply Exists.intro; refine ⟨fun g => ?_, ?_⟩; (focus (go_at_call 33; with_reducible refine grown_call (v := .bool q0) (Calls.mono (isName_is x.own _ hs) ?_); rintro e w2 ⟨rfl, rfl⟩; exact ⟨by rw [HQ0.out], Below.refl _ _⟩)); go_big_quiet_on) | (apply Exists.intro; refine ⟨fun g => ?_, ?_⟩; (focus (go_at_call 31; with_reducible refine grown_call (v := .bool q1) (Calls.mono (within_is x.name 1 30 _) ?_); rintro e w2 ⟨rfl, rfl⟩; exact ⟨by rw [HQ1.out], Below.refl _ _⟩)); go_big_quiet_on) | (apply Exists.intro; refine ⟨fun g => ?_, ?_⟩; (focus (go_at_call 31; with_reducible refine grown_call (v := .bool q2) (Calls.mono (within_is (x.lgn : Int) 1 (fLegs k) _) ?_); rintro e w2 ⟨rfl, rfl⟩; exact ⟨by rw [HQ2.out], Below.refl _ _⟩)); go_big_quiet_on) | (apply Exists.intro; refine ⟨fun g => ?_, ?_⟩; (focus (go_at_call 34; with_reducible refine grown_call (v := .bool q3) (Calls.mono (implParty_is x.pe x.len x.hei x.cl x.all x.be _) ?_); rintro e w2 ⟨rfl, hbb⟩; exact ⟨by rw [HQ3.out], hbb⟩)); go_big_quiet_on) | (apply Exists.intro; refine ⟨fun g => ?_, ?_⟩; (focus (go_at_call 32; with_reducible refine grown_call (v := .bool true) (Calls.mono (goodWhere_is (fOwner k) q0 x.own.toList.isEmpty _) ?_); rintro e w2 ⟨rfl, rfl⟩; exact ⟨by rw [D0.out], Below.refl _ _⟩)); go_big_quiet_on) | (apply Exists.intro; refine ⟨fun g => ?_, ?_⟩; (focus (go_at_call 32; with_reducible refine grown_call (v := .bool true) (Calls.mono (goodWhere_is (fName k) q1 (x.name == 0) _) ?_); rintro e w2 ⟨rfl, rfl⟩; exact ⟨by rw [D1.out], Below.refl _ _⟩)); go_big_quiet_on) | (apply Exists.intro; refine ⟨fun g => ?_, ?_⟩; (focus (go_at_call 32; with_reducible refine grown_call (v := .bool true) (Calls.mono (goodWhere_is (decide (0 < fLegs k)) q2 ((x.lgn : Int) == 0) _) ?_); rintro e w2 ⟨rfl, rfl⟩; exact ⟨by rw [D2.out], Below.refl _ _⟩)); go_big_quiet_on) | (apply Exists.intro; refine ⟨fun g => ?_, ?_⟩; (focus (go_at_call 32; with_reducible refine grown_call (v := .bool false) (Calls.mono (goodWhere_is (fParty k) q3 (PZ x.pe x.len x.hei x.cl x.all x.be) _) ?_); rintro e w2 ⟨rfl, rfl⟩; exact ⟨by rw [D3.out], Below.refl _ _⟩)); go_big_quiet_on)))
    refine wpQuiet_nil ?_
    rintro _ ⟨g, rfl⟩
    go_wp2
    go_ret
    exact ⟨by rw [HN.out]; rfl, after hb1 g.bel⟩
  have D3 : Hid ((if fParty k then q3 else (PZ x.pe x.len x.hei x.cl x.all x.be)) = true) := HF3.out.2 p3
  have HP3 : Hid (PartyOkFor x.kind x.p) := p3
  clear p3
  by_cases p4 : UntilOk x.kind x.unt
  case neg =>
    have D4 : Hid ((if fUntil k then q4 else (x.unt == 0)) = false) := Bool.eq_false_iff.2 (fun h => p4 (HF4.out.1 h))
    have HN : Hid (V = false) := Bool.eq_false_iff.2 (fun h => p4 (HV.out.1 h).2.2.2.2.2.1)
    clear p4
    refine wp_region_grow (by kernel_rfl) (by kernel_rfl) ?_
    simp only [List.append_eq, List.cons_append, List.nil_append]
    repeat (first | go_big_quiet_skip | (go_big_quiet_want; go_big_quiet_op; first | go_big_quiet_on | (apply Exists.intro; refine ⟨fun g => ?_, ?_⟩; (focus (go_at_call 33; with_reducible refine grown_call (v := .bool q0) (Calls.mono (isName_is x.own _ hs) ?_); rintro e w2 ⟨rfl, rfl⟩; exact ⟨by rw [HQ0.out], Below.refl _ _⟩)); go_big_quiet_on) | (apply Exists.intro; refine ⟨fun g => ?_, ?_⟩; (focus (go_at_call 31; with_reducible refine grown_call (v := .bool q1) (Calls.mono (within_is x.name 1 30 _) ?_); rintro e w2 ⟨rfl, rfl⟩; exact ⟨by rw [HQ1.out], Below.refl _ _⟩)); go_big_quiet_on) | (apply Exists.intro; refine ⟨fun g => ?_, ?_⟩; (focus (go_at_call 31; with_reducible refine grown_call (v := .bool q2) (Calls.mono (within_is (x.lgn : Int) 1 (fLegs k) _) ?_); rintro e w2 ⟨rfl, rfl⟩; exact ⟨by rw [HQ2.out], Below.refl _ _⟩)); go_big_quiet_on) | (apply Exists.intro; refine ⟨fun g => ?_, ?_⟩; (focus (go_at_call 34; with_reducible refine grown_call (v := .bool q3) (Calls.mono (implParty_is x.pe x.len x.hei x.cl x.all x.be _) ?_); rintro e w2 ⟨rfl, hbb⟩; exact ⟨by rw [HQ3.out], hbb⟩)); go_big_quiet_on) | (apply Exists.intro; refine ⟨fun g => ?_, ?_⟩; (focus (go_at_call 35; with_reducible refine grown_call (v := .bool q4) (Calls.mono (isTime_is x.unt _) ?_); rintro e w2 ⟨rfl, rfl⟩; exact ⟨by rw [HQ4.out], Below.refl _ _⟩)); go_big_quiet_on) | (apply Exists.intro; refine ⟨fun g => ?_, ?_⟩; (focus (go_at_call 32; with_reducible refine grown_call (v := .bool true) (Calls.mono (goodWhere_is (fOwner k) q0 x.own.toList.isEmpty _) ?_); rintro e w2 ⟨rfl, rfl⟩; exact ⟨by rw [D0.out], Below.refl _ _⟩)); go_big_quiet_on) | (apply Exists.intro; refine ⟨fun g => ?_, ?_⟩; (focus (go_at_call 32; with_reducible refine grown_call (v := .bool true) (Calls.mono (goodWhere_is (fName k) q1 (x.name == 0) _) ?_); rintro e w2 ⟨rfl, rfl⟩; exact ⟨by rw [D1.out], Below.refl _ _⟩)); go_big_quiet_on) | (apply Exists.intro; refine ⟨fun g => ?_, ?_⟩; (focus (go_at_call 32; with_reducible refine grown_call (v := .bool true) (Calls.mono (goodWhere_is (decide (0 < fLegs k)) q2 ((x.lgn : Int) == 0) _) ?_); rintro e w2 ⟨rfl, rfl⟩; exact ⟨by rw [D2.out], Below.refl _ _⟩)); go_big_quiet_on) | (apply Exists.intro; refine ⟨fun g => ?_, ?_⟩; (focus (go_at_call 32; with_reducible refine grown_call (v := .bool true) (Calls.mono (goodWhere_is (fParty k) q3 (PZ x.pe x.len x.hei x.cl x.all x.be) _) ?_); rintro e w2 ⟨rfl, rfl⟩; exact ⟨by rw [D3.out], Below.refl _ _⟩)); go_big_quiet_on) | (apply Exists.intro; refine ⟨fun g => ?_, ?_⟩; (focus (go_at_call 32; with_reducible refine grown_call (v := .bool false) (Calls.mono (goodWhere_is (fUntil k) q4 (x.unt == 0) _) ?_); rintro e w2 ⟨rfl, rfl⟩; exact ⟨by rw [D4.out], Below.refl _ _⟩)); go_big_quiet_on)))
    refine wpQuiet_nil ?_
    rintro _ ⟨g, rfl⟩
    go_wp2
    go_ret
    exact ⟨by rw [HN.out]; rfl, after hb1 g.bel⟩
  have D4 : Hid ((if fUntil k then q4 else (x.unt == 0)) = true) := HF4.out.2 p4
  have HP4 : Hid (UntilOk x.kind x.unt) := p4
  clear p4
  by_cases p5 : NowOk x.kind x.now
  case neg =>
    have D5 : Hid ((if fNow k then q5 else (x.now == 0)) = false) := Bool.eq_false_iff.2 (fun h => p5 (HF5.out.1 h))
    have HN : Hid (V = false) := Bool.eq_false_iff.2 (fun h => p5 (HV.out.1 h).2.2.2.2.2.2)
    clear p5
    refine wp_region_grow (by kernel_rfl) (by kernel_rfl) ?_
    simp only [List.append_eq, List.cons_append, List.nil_append]
    repeat (first | go_big_quiet_skip | (go_big_quiet_want; go_big_quiet_op; first | go_big_quiet_on | (apply Exists.intro; refine ⟨fun g => ?_, ?_⟩; (focus (go_at_call 33; with_reducible refine grown_call (v := .bool q0) (Calls.mono (isName_is x.own _ hs) ?_); rintro e w2 ⟨rfl, rfl⟩; exact ⟨by rw [HQ0.out], Below.refl _ _⟩)); go_big_quiet_on) | (apply Exists.intro; refine ⟨fun g => ?_, ?_⟩; (focus (go_at_call 31; with_reducible refine grown_call (v := .bool q1) (Calls.mono (within_is x.name 1 30 _) ?_); rintro e w2 ⟨rfl, rfl⟩; exact ⟨by rw [HQ1.out], Below.refl _ _⟩)); go_big_quiet_on) | (apply Exists.intro; refine ⟨fun g => ?_, ?_⟩; (focus (go_at_call 31; with_reducible refine grown_call (v := .bool q2) (Calls.mono (within_is (x.lgn : Int) 1 (fLegs k) _) ?_); rintro e w2 ⟨rfl, rfl⟩; exact ⟨by rw [HQ2.out], Below.refl _ _⟩)); go_big_quiet_on) | (apply Exists.intro; refine ⟨fun g => ?_, ?_⟩; (focus (go_at_call 34; with_reducible refine grown_call (v := .bool q3) (Calls.mono (implParty_is x.pe x.len x.hei x.cl x.all x.be _) ?_); rintro e w2 ⟨rfl, hbb⟩; exact ⟨by rw [HQ3.out], hbb⟩)); go_big_quiet_on) | (apply Exists.intro; refine ⟨fun g => ?_, ?_⟩; (focus (go_at_call 35; with_reducible refine grown_call (v := .bool q4) (Calls.mono (isTime_is x.unt _) ?_); rintro e w2 ⟨rfl, rfl⟩; exact ⟨by rw [HQ4.out], Below.refl _ _⟩)); go_big_quiet_on) | (apply Exists.intro; refine ⟨fun g => ?_, ?_⟩; (focus (go_at_call 35; with_reducible refine grown_call (v := .bool q5) (Calls.mono (isTime_is x.now _) ?_); rintro e w2 ⟨rfl, rfl⟩; exact ⟨by rw [HQ5.out], Below.refl _ _⟩)); go_big_quiet_on) | (apply Exists.intro; refine ⟨fun g => ?_, ?_⟩; (focus (go_at_call 32; with_reducible refine grown_call (v := .bool true) (Calls.mono (goodWhere_is (fOwner k) q0 x.own.toList.isEmpty _) ?_); rintro e w2 ⟨rfl, rfl⟩; exact ⟨by rw [D0.out], Below.refl _ _⟩)); go_big_quiet_on) | (apply Exists.intro; refine ⟨fun g => ?_, ?_⟩; (focus (go_at_call 32; with_reducible refine grown_call (v := .bool true) (Calls.mono (goodWhere_is (fName k) q1 (x.name == 0) _) ?_); rintro e w2 ⟨rfl, rfl⟩; exact ⟨by rw [D1.out], Below.refl _ _⟩)); go_big_quiet_on) | (apply Exists.intro; refine ⟨fun g => ?_, ?_⟩; (focus (go_at_call 32; with_reducible refine grown_call (v := .bool true) (Calls.mono (goodWhere_is (decide (0 < fLegs k)) q2 ((x.lgn : Int) == 0) _) ?_); rintro e w2 ⟨rfl, rfl⟩; exact ⟨by rw [D2.out], Below.refl _ _⟩)); go_big_quiet_on) | (apply Exists.intro; refine ⟨fun g => ?_, ?_⟩; (focus (go_at_call 32; with_reducible refine grown_call (v := .bool true) (Calls.mono (goodWhere_is (fParty k) q3 (PZ x.pe x.len x.hei x.cl x.all x.be) _) ?_); rintro e w2 ⟨rfl, rfl⟩; exact ⟨by rw [D3.out], Below.refl _ _⟩)); go_big_quiet_on) | (apply Exists.intro; refine ⟨fun g => ?_, ?_⟩; (focus (go_at_call 32; with_reducible refine grown_call (v := .bool true) (Calls.mono (goodWhere_is (fUntil k) q4 (x.unt == 0) _) ?_); rintro e w2 ⟨rfl, rfl⟩; exact ⟨by rw [D4.out], Below.refl _ _⟩)); go_big_quiet_on) | (apply Exists.intro; refine ⟨fun g => ?_, ?_⟩; (focus (go_at_call 32; with_reducible refine grown_call (v := .bool false) (Calls.mono (goodWhere_is (fNow k) q5 (x.now == 0) _) ?_); rintro e w2 ⟨rfl, rfl⟩; exact ⟨by rw [D5.out], Below.refl _ _⟩)); go_big_quiet_on)))
    refine wpQuiet_nil ?_
    rintro _ ⟨g, rfl⟩
    go_wp2
    go_ret
    exact ⟨by rw [HN.out]; rfl, after hb1 g.bel⟩
  have D5 : Hid ((if fNow k then q5 else (x.now == 0)) = true) := HF5.out.2 p5
  have HP5 : Hid (NowOk x.kind x.now) := p5
  clear p5
  have HN : Hid (V = true) := HV.out.2 ⟨HIN.out, HP0.out, HP1.out, HP2.out, HP3.out, HP4.out, HP5.out⟩
  refine wp_region_grow (by kernel_rfl) (by kernel_rfl) ?_
  simp only [List.append_eq, List.cons_append, List.nil_append]
  repeat (first | go_big_quiet_skip | (go_big_quiet_want; go_big_quiet_op; first | go_big_quiet_on | (apply Exists.intro; refine ⟨fun g => ?_, ?_⟩; (focus (go_at_call 33; with_reducible refine grown_call (v := .bool q0) (Calls.mono (isName_is x.own _ hs) ?_); rintro e w2 ⟨rfl, rfl⟩; exact ⟨by rw [HQ0.out], Below.refl _ _⟩)); go_big_quiet_on) | (apply Exists.intro; refine ⟨fun g => ?_, ?_⟩; (focus (go_at_call 31; with_reducible refine grown_call (v := .bool q1) (Calls.mono (within_is x.name 1 30 _) ?_); rintro e w2 ⟨rfl, rfl⟩; exact ⟨by rw [HQ1.out], Below.refl _ _⟩)); go_big_quiet_on) | (apply Exists.intro; refine ⟨fun g => ?_, ?_⟩; (focus (go_at_call 31; with_reducible refine grown_call (v := .bool q2) (Calls.mono (within_is (x.lgn : Int) 1 (fLegs k) _) ?_); rintro e w2 ⟨rfl, rfl⟩; exact ⟨by rw [HQ2.out], Below.refl _ _⟩)); go_big_quiet_on) | (apply Exists.intro; refine ⟨fun g => ?_, ?_⟩; (focus (go_at_call 34; with_reducible refine grown_call (v := .bool q3) (Calls.mono (implParty_is x.pe x.len x.hei x.cl x.all x.be _) ?_); rintro e w2 ⟨rfl, hbb⟩; exact ⟨by rw [HQ3.out], hbb⟩)); go_big_quiet_on) | (apply Exists.intro; refine ⟨fun g => ?_, ?_⟩; (focus (go_at_call 35; with_reducible refine grown_call (v := .bool q4) (Calls.mono (isTime_is x.unt _) ?_); rintro e w2 ⟨rfl, rfl⟩; exact ⟨by rw [HQ4.out], Below.refl _ _⟩)); go_big_quiet_on) | (apply Exists.intro; refine ⟨fun g => ?_, ?_⟩; (focus (go_at_call 35; with_reducible refine grown_call (v := .bool q5) (Calls.mono (isTime_is x.now _) ?_); rintro e w2 ⟨rfl, rfl⟩; exact ⟨by rw [HQ5.out], Below.refl _ _⟩)); go_big_quiet_on) | (apply Exists.intro; refine ⟨fun g => ?_, ?_⟩; (focus (go_at_call 32; with_reducible refine grown_call (v := .bool true) (Calls.mono (goodWhere_is (fOwner k) q0 x.own.toList.isEmpty _) ?_); rintro e w2 ⟨rfl, rfl⟩; exact ⟨by rw [D0.out], Below.refl _ _⟩)); go_big_quiet_on) | (apply Exists.intro; refine ⟨fun g => ?_, ?_⟩; (focus (go_at_call 32; with_reducible refine grown_call (v := .bool true) (Calls.mono (goodWhere_is (fName k) q1 (x.name == 0) _) ?_); rintro e w2 ⟨rfl, rfl⟩; exact ⟨by rw [D1.out], Below.refl _ _⟩)); go_big_quiet_on) | (apply Exists.intro; refine ⟨fun g => ?_, ?_⟩; (focus (go_at_call 32; with_reducible refine grown_call (v := .bool true) (Calls.mono (goodWhere_is (decide (0 < fLegs k)) q2 ((x.lgn : Int) == 0) _) ?_); rintro e w2 ⟨rfl, rfl⟩; exact ⟨by rw [D2.out], Below.refl _ _⟩)); go_big_quiet_on) | (apply Exists.intro; refine ⟨fun g => ?_, ?_⟩; (focus (go_at_call 32; with_reducible refine grown_call (v := .bool true) (Calls.mono (goodWhere_is (fParty k) q3 (PZ x.pe x.len x.hei x.cl x.all x.be) _) ?_); rintro e w2 ⟨rfl, rfl⟩; exact ⟨by rw [D3.out], Below.refl _ _⟩)); go_big_quiet_on) | (apply Exists.intro; refine ⟨fun g => ?_, ?_⟩; (focus (go_at_call 32; with_reducible refine grown_call (v := .bool true) (Calls.mono (goodWhere_is (fUntil k) q4 (x.unt == 0) _) ?_); rintro e w2 ⟨rfl, rfl⟩; exact ⟨by rw [D4.out], Below.refl _ _⟩)); go_big_quiet_on) | (apply Exists.intro; refine ⟨fun g => ?_, ?_⟩; (focus (go_at_call 32; with_reducible refine grown_call (v := .bool true) (Calls.mono (goodWhere_is (fNow k) q5 (x.now == 0) _) ?_); rintro e w2 ⟨rfl, rfl⟩; exact ⟨by rw [D5.out], Below.refl _ _⟩)); go_big_quiet_on)))
  refine wpQuiet_nil ?_
  rintro _ ⟨g, rfl⟩
  go_wp2
  go_ret
  exact ⟨by rw [HN.out]; rfl, after hb1 g.bel⟩

end Go.Proofs.YtfallpinmhbemaaGreatDoor

namespace Go.Proofs.YtfallpinmhbemaaGreatDoor
open Go.RowKit

theorem own_notT {w : World} {base e size n : Nat} {v : Value} {xs : List Value} (h : w.ownsRow base e size v n xs) {b t : Nat} {cs : Array Value} (hb : w.heap[b]? = some (.cells cs t (0, 0))) (hne : e ≠ t) : ∀ g, v.ownBlock = some g → ¬ g = b := by
  rintro g hg rfl
  rcases h.2 with ⟨rfl, _⟩ | ⟨g', cap', cur, rfl, _, hg', _⟩
  · simp [Value.ownBlock] at hg
  · simp only [Value.ownBlock, Option.some.injEq] at hg
    subst hg
    rw [hg'] at hb
    simp only [Option.some.injEq, Obj.cells.injEq] at hb
    exact hne hb.2.1
/-- The table of the words lies there. -/
def WordsAt (w : World) : Prop := ∀ k, k < 10 → w.cell? ⟨1, k, none⟩ = some (.string (wordT k))
theorem WordsAt.lt {w : World} (h : WordsAt w) : 1 < w.heap.size := World.block_lt_of_cell? w _ (h 0 (by decide))
theorem WordsAt.below {w w' : World} (h : WordsAt w) (hb : Below w.heap.size w w') : WordsAt w' := fun k hk => (hb.cell (p := ⟨1, k, none⟩) h.lt).trans (h k hk)

/-- The words so far, beside the operation's box and its form's. -/
structure TSt (w wx : World) (ob fb : Nat) (co cf : Array Value) (v : Value) (L : List ByteArray) : Prop where
  o : wx.heap[ob]? = some (.cells co 27 (0, 0))
  f : wx.heap[fb]? = some (.cells cf 69 (0, 0))
  own : OwnT wx w.heap.size v L
  bel : Below w.heap.size w wx
theorem TSt.below {w wx wy : World} {ob fb : Nat} {co cf : Array Value} {v : Value} {L : List ByteArray} (h : TSt w wx ob fb co cf v L) (hb : Below wx.heap.size wx wy) : TSt w wy ob fb co cf v L :=
  ⟨blk_below h.o hb, blk_below h.f hb, own_below hb h.own, after h.bel hb⟩
theorem TSt.app {w wx wy : World} {ob fb : Nat} {co cf : Array Value} {v v' : Value} {L : List ByteArray} {p : ByteArray} (h : TSt w wx ob fb co cf v L) (hg : wx.grownBy wy v.ownBlock) (ho : wy.ownsRow w.heap.size 9 1 v' (L.length + 1) (L.map Value.string ++ [.string p])) : TSt w wy ob fb co cf v' (L ++ [p]) := by
  refine ⟨(kept_row hg).blk h.o (fun e => own_notT h.own h.o (by decide) ob e rfl), (kept_row hg).blk h.f (fun e => own_notT h.own h.f (by decide) fb e rfl), ?_, h.bel.grown hg h.bel.size (fun j hj => (World.ownsRow.lt h.own j hj).1)⟩
  unfold OwnT
  rw [List.length_append, List.map_append]
  exact ho

set_option maxHeartbeats 3200000 in
set_option maxRecDepth 100000 in
theorem opTold_any (x : OpD) (alg : Option Addr) (clg : Nat) (w : World) (hx : HasText x) (hlg : IntsAt w alg x.lgn x.lg) (hP : PowAt w) (hF : FormsAt w) (hW : WordsAt w) :
    Calls Tryz.prog 17 #[.agg #[.int .i64 x.kind, .string x.own, .int .i64 x.name, .slice alg x.lgn clg, .int .i64 x.pe, .int .i64 x.len, .int .i64 x.hei, .int .i64 x.cl, .bool x.all, .int .i64 x.be, .int .i64 x.unt, .int .i64 x.now]] w fun e w' => ∃ v, e = .returned v ∧ OwnT w' w.heap.size v (opP6 x) ∧ Below w.heap.size w w' := by
  have HX : Hid (HasText x) := hx
  have HP : Hid (PowAt w) := hP
  have HLG : Hid (IntsAt w alg x.lgn x.lg) := hlg
  obtain ⟨k, hk⟩ : ∃ k : Nat, x.kind = (k : Int) := ⟨x.kind.toNat, by have := hx.1.1.1; omega⟩
  have HKD : Hid (x.kind.toNat = k) := by show x.kind.toNat = k; omega
  have HKI : Hid (x.kind = (k : Int)) := hk
  have hk9 : 1 ≤ k ∧ k ≤ 9 := by have := hx.1.1; unfold In at this; omega
  have hb0 : Below w.heap.size w (w.alloc (.cells #[.int .i64 x.kind, .string x.own, .int .i64 x.name, .slice alg x.lgn clg, .int .i64 x.pe, .int .i64 x.len, .int .i64 x.hei, .int .i64 x.cl, .bool x.all, .int .i64 x.be, .int .i64 x.unt, .int .i64 x.now] 27)) := push (Below.refl _ _) _
  have b0 := heap_alloc_new w (.cells #[.int .i64 x.kind, .string x.own, .int .i64 x.name, .slice alg x.lgn clg, .int .i64 x.pe, .int .i64 x.len, .int .i64 x.hei, .int .i64 x.cl, .bool x.all, .int .i64 x.be, .int .i64 x.unt, .int .i64 x.now] 27)
  clear hx hP hlg hk
  obtain ⟨j0, ji, jz0, jz1, jz2⟩ := info_parts Tryz.infoText
  go_enter Tryz.func17, Tryz.ntmps17
  go_upto_region 1 with fail
  generalize w.alloc (.cells #[.int .i64 x.kind, .string x.own, .int .i64 x.name, .slice alg x.lgn clg, .int .i64 x.pe, .int .i64 x.len, .int .i64 x.hei, .int .i64 x.cl, .bool x.all, .int .i64 x.be, .int .i64 x.unt, .int .i64 x.now] 27) = W at hb0 b0 ⊢
  have t0 : W.cell? ⟨0, k * 7, none⟩ = some (.bool (fOwner k)) := (hb0.cell (p := ⟨0, k * 7, none⟩) hF.lt).trans (hF k (by omega)).1
  have t1 : W.cell? ⟨0, k * 7 + 1, none⟩ = some (.bool (fName k)) := (hb0.cell (p := ⟨0, k * 7 + 1, none⟩) hF.lt).trans (hF k (by omega)).2.1
  have t2 : W.cell? ⟨0, k * 7 + 2, none⟩ = some (.int .i64 (fLegs k)) := (hb0.cell (p := ⟨0, k * 7 + 2, none⟩) hF.lt).trans (hF k (by omega)).2.2.1
  have t3 : W.cell? ⟨0, k * 7 + 3, none⟩ = some (.bool (fParty k)) := (hb0.cell (p := ⟨0, k * 7 + 3, none⟩) hF.lt).trans (hF k (by omega)).2.2.2.1
  have t4 : W.cell? ⟨0, k * 7 + 4, none⟩ = some (.bool (fUntil k)) := (hb0.cell (p := ⟨0, k * 7 + 4, none⟩) hF.lt).trans (hF k (by omega)).2.2.2.2.1
  have t5 : W.cell? ⟨0, k * 7 + 5, none⟩ = some (.bool (fNow k)) := (hb0.cell (p := ⟨0, k * 7 + 5, none⟩) hF.lt).trans (hF k (by omega)).2.2.2.2.2.1
  have t6 : W.cell? ⟨0, k * 7 + 6, none⟩ = some (.bool (fFrees k)) := (hb0.cell (p := ⟨0, k * 7 + 6, none⟩) hF.lt).trans (hF k (by omega)).2.2.2.2.2.2
  have y0 : W.cell? ⟨w.heap.size, 0, none⟩ = some (.int .i64 (k : Int)) := by rw [← HKI.out]; exact blk_cell b0 0 _ rfl
  have hk0 : (0 : Int) ≤ (k : Int) := by omega
  have hk1 : (k : Int) < 10 := by omega
  have bO1 := blk_alloc b0 (.cells #[.bool (fOwner k), .bool (fName k), .int .i64 (fLegs k), .bool (fParty k), .bool (fUntil k), .bool (fNow k), .bool (fFrees k)] 69)
  have bF1 := heap_alloc_new W (.cells #[.bool (fOwner k), .bool (fName k), .int .i64 (fLegs k), .bool (fParty k), .bool (fUntil k), .bool (fNow k), .bool (fFrees k)] 69)
  have hb1 := push hb0 (.cells #[.bool (fOwner k), .bool (fName k), .int .i64 (fLegs k), .bool (fParty k), .bool (fUntil k), .bool (fNow k), .bool (fFrees k)] 69)
  have u0 : (W.alloc (.cells #[.bool (fOwner k), .bool (fName k), .int .i64 (fLegs k), .bool (fParty k), .bool (fUntil k), .bool (fNow k), .bool (fFrees k)] 69)).cell? ⟨1, k, none⟩ = some (.string (wordT k)) := hW.below hb1 k (by omega)
  have y1 : (W.alloc (.cells #[.bool (fOwner k), .bool (fName k), .int .i64 (fLegs k), .bool (fParty k), .bool (fUntil k), .bool (fNow k), .bool (fFrees k)] 69)).cell? ⟨w.heap.size, 0, none⟩ = some (.int .i64 (k : Int)) := by rw [← HKI.out]; exact blk_cell bO1 0 _ rfl
  clear hW hF
  go_upto_region 2 with fail
  generalize hFx : W.heap.size = Fx at bF1 ⊢
  generalize W.alloc (.cells #[.bool (fOwner k), .bool (fName k), .int .i64 (fLegs k), .bool (fParty k), .bool (fUntil k), .bool (fNow k), .bool (fFrees k)] 69) = W1 at hb1 bO1 bF1 u0 y1 ⊢
  clear y0 t0 t1 t2 t3 t4 t5 t6 hb0 b0 hFx
  have HS0 : Hid (TSt w (W1.alloc (.cells #[.string (wordT k)] 9)) w.heap.size Fx #[.int .i64 x.kind, .string x.own, .int .i64 x.name, .slice alg x.lgn clg, .int .i64 x.pe, .int .i64 x.len, .int .i64 x.hei, .int .i64 x.cl, .bool x.all, .int .i64 x.be, .int .i64 x.unt, .int .i64 x.now] #[.bool (fOwner k), .bool (fName k), .int .i64 (fLegs k), .bool (fParty k), .bool (fUntil k), .bool (fNow k), .bool (fFrees k)] (.slice (some ⟨W1.heap.size, 0, none⟩) 1 1) (opP0 x)) :=
    ⟨blk_alloc bO1 _, blk_alloc bF1 _, by unfold opP0; rw [HKD.out]; exact ⟨rfl, .inr ⟨W1.heap.size, 1, #[.string (wordT k)], rfl, hb1.size, heap_alloc_new W1 _, Nat.le_refl _, by unfold maxLen; omega, rfl, rfl⟩⟩, push hb1 _⟩
  go_upto_region 3 with fail
  generalize W1.alloc (.cells #[.string (wordT k)] 9) = W2 at HS0 ⊢
  generalize (Value.slice (some ⟨W1.heap.size, 0, none⟩) 1 1) = v0 at HS0 ⊢
  clear bO1 bF1 hb1 u0 y1 hk0 hk1
  clear W1 W
  have f1 := blk_cell HS0.out.f 1 _ rfl
  obtain ⟨q1, hq1⟩ : ∃ q, q = fName k := ⟨_, rfl⟩
  have HQ1 : Hid (fName k = q1) := hq1.symm
  rw [← hq1] at f1
  clear hq1
  go_upto_if 15 with fail
  go_cut [4] (fun v wx => Hid (TSt w wx w.heap.size Fx #[.int .i64 x.kind, .string x.own, .int .i64 x.name, .slice alg x.lgn clg, .int .i64 x.pe, .int .i64 x.len, .int .i64 x.hei, .int .i64 x.cl, .bool x.all, .int .i64 x.be, .int .i64 x.unt, .int .i64 x.now] #[.bool (fOwner k), .bool (fName k), .int .i64 (fLegs k), .bool (fParty k), .bool (fUntil k), .bool (fNow k), .bool (fFrees k)] v (opP1 x)))
  case first =>
    clear f1
    cases q1 with
    | false =>
      go_wp2
      go_meet
      have e : opP1 x = opP0 x := by
        unfold opP1 opt
        rw [HKD.out, HQ1.out]
        exact List.append_nil _
      rw [e]
      exact HS0.out
    | true =>
      have e : opP1 x = opP0 x ++ [numT x.name] := by
        unfold opP1 opt
        rw [HKD.out, HQ1.out]
        rfl
      have E : Hid (opP1 x = opP0 x ++ [numT x.name]) := e
      clear e
      obtain ⟨lo, lc, rfl, _⟩ := own_form HS0.out.own
      have hL : (opP0 x).length ≤ 1 := len_P0 x
      have z2 := blk_cell HS0.out.o 2 _ rfl
      have hr := rng1 HX.out HKD.out HQ1.out
      go_wp2_with fail
      refine (itoa_any x.name (by omega) (by omega) _ (HP.out.below HS0.out.bel)).mono ?_
      rintro e w3 ⟨rfl, hb3⟩
      have H3 : Hid _ := (HS0.out.below hb3).below (push (Below.refl _ _) (.cells #[.string (numT x.name)] 9))
      clear z2 hb3
      have hsz := H3.out.bel.size
      go_wp2_with (first | (at_builtin; refine wpList_append_any _ (by rfl) (.tmp 16) (.tmp 20) 46 (by rfl) w.heap.size 9 j0 (.string ⟨#[]⟩) 1 16 Tryz.underlying46 ji jz0 jz1 jz2 rfl (by decide) _ (opP0 x).length ((opP0 x).map Value.string) (by rfl) H3.out.own (some ⟨w3.heap.size, 0, none⟩) 1 1 [.string (numT x.name)] (by rfl) (fun h => by cases h) (by rfl) (fun ad h => by cases h; exact World.news_of_block (heap_alloc_new w3 _)) (by intro u hu; simp only [List.mem_cons, List.not_mem_nil, or_false] at hu; subst hu; rfl) (by unfold maxLen; omega) (by omega) hsz ?_; intro v9 w9 ho9 hg9))
      go_meet
      rw [E.out]
      exact H3.out.app hg9 ho9
  case rest =>
  obtain ⟨v1, hv1, HS1⟩ : ∃ v, v = u4 ∧ Hid (TSt w wc w.heap.size Fx #[.int .i64 x.kind, .string x.own, .int .i64 x.name, .slice alg x.lgn clg, .int .i64 x.pe, .int .i64 x.len, .int .i64 x.hei, .int .i64 x.cl, .bool x.all, .int .i64 x.be, .int .i64 x.unt, .int .i64 x.now] #[.bool (fOwner k), .bool (fName k), .int .i64 (fLegs k), .bool (fParty k), .bool (fUntil k), .bool (fNow k), .bool (fFrees k)] v (opP1 x)) := ⟨_, rfl, hcut.out⟩
  subst hv1
  clear hcut HS0
  have f2 := blk_cell HS1.out.f 0 _ rfl
  obtain ⟨q2, hq2⟩ : ∃ q, q = fOwner k := ⟨_, rfl⟩
  have HQ2 : Hid (fOwner k = q2) := hq2.symm
  rw [← hq2] at f2
  clear hq2
  go_upto_if 23 with fail
  go_cut [4] (fun v wx => Hid (TSt w wx w.heap.size Fx #[.int .i64 x.kind, .string x.own, .int .i64 x.name, .slice alg x.lgn clg, .int .i64 x.pe, .int .i64 x.len, .int .i64 x.hei, .int .i64 x.cl, .bool x.all, .int .i64 x.be, .int .i64 x.unt, .int .i64 x.now] #[.bool (fOwner k), .bool (fName k), .int .i64 (fLegs k), .bool (fParty k), .bool (fUntil k), .bool (fNow k), .bool (fFrees k)] v (opP2 x)))
  case first =>
    clear f2
    cases q2 with
    | false =>
      go_wp2
      go_meet
      have e : opP2 x = opP1 x := by
        unfold opP2 opt
        rw [HKD.out, HQ2.out]
        exact List.append_nil _
      rw [e]
      exact HS1.out
    | true =>
      have e : opP2 x = opP1 x ++ [x.own] := by
        unfold opP2 opt
        rw [HKD.out, HQ2.out]
        rfl
      have E : Hid (opP2 x = opP1 x ++ [x.own]) := e
      clear e
      obtain ⟨lo, lc, rfl, _⟩ := own_form HS1.out.own
      have hL : (opP1 x).length ≤ 2 := len_P1 x
      have z1 := blk_cell HS1.out.o 1 _ rfl
      have H3 : Hid _ := HS1.out.below (push (Below.refl _ _) (.cells #[.string x.own] 9))
      have hsz := H3.out.bel.size
      go_wp2_with (first | (at_builtin; refine wpList_append_any _ (by rfl) (.tmp 24) (.tmp 27) 46 (by rfl) w.heap.size 9 j0 (.string ⟨#[]⟩) 1 16 Tryz.underlying46 ji jz0 jz1 jz2 rfl (by decide) _ (opP1 x).length ((opP1 x).map Value.string) (by rfl) H3.out.own (some ⟨wc.heap.size, 0, none⟩) 1 1 [.string x.own] (by rfl) (fun h => by cases h) (by rfl) (fun ad h => by cases h; exact World.news_of_block (heap_alloc_new wc _)) (by intro u hu; simp only [List.mem_cons, List.not_mem_nil, or_false] at hu; subst hu; rfl) (by unfold maxLen; omega) (by omega) hsz ?_; intro v9 w9 ho9 hg9))
      go_meet
      rw [E.out]
      exact H3.out.app hg9 ho9
  case rest =>
  obtain ⟨v2, hv2, HS2⟩ : ∃ v, v = u4 ∧ Hid (TSt w wc w.heap.size Fx #[.int .i64 x.kind, .string x.own, .int .i64 x.name, .slice alg x.lgn clg, .int .i64 x.pe, .int .i64 x.len, .int .i64 x.hei, .int .i64 x.cl, .bool x.all, .int .i64 x.be, .int .i64 x.unt, .int .i64 x.now] #[.bool (fOwner k), .bool (fName k), .int .i64 (fLegs k), .bool (fParty k), .bool (fUntil k), .bool (fNow k), .bool (fFrees k)] v (opP2 x)) := ⟨_, rfl, hcut.out⟩
  subst hv2
  clear hcut HS1
  have f3 := blk_cell HS2.out.f 2 _ rfl
  have hle : decide ((0 : Int) < fLegs k) = decide (0 < fLegs k) := rfl
  obtain ⟨q3, hq3⟩ : ∃ q, q = decide (0 < fLegs k) := ⟨_, rfl⟩
  have HQ3 : Hid (decide (0 < fLegs k) = q3) := hq3.symm
  have hq3' : decide ((0 : Int) < fLegs k) = q3 := hq3.symm
  clear hq3 hle
  go_upto_if 31 with fail
  go_cut [4] (fun v wx => Hid (TSt w wx w.heap.size Fx #[.int .i64 x.kind, .string x.own, .int .i64 x.name, .slice alg x.lgn clg, .int .i64 x.pe, .int .i64 x.len, .int .i64 x.hei, .int .i64 x.cl, .bool x.all, .int .i64 x.be, .int .i64 x.unt, .int .i64 x.now] #[.bool (fOwner k), .bool (fName k), .int .i64 (fLegs k), .bool (fParty k), .bool (fUntil k), .bool (fNow k), .bool (fFrees k)] v (opP3 x)))
  case first =>
    clear f3
    cases q3 with
    | false =>
      go_wp2
      go_meet
      have e : opP3 x = opP2 x := by
        unfold opP3 opt
        rw [HKD.out, HQ3.out]
        exact List.append_nil _
      rw [e]
      exact HS2.out
    | true =>
      have e : opP3 x = opP2 x ++ [legsT x.lgn x.lg] := by
        unfold opP3 opt
        rw [HKD.out, HQ3.out]
        rfl
      have E : Hid (opP3 x = opP2 x ++ [legsT x.lgn x.lg]) := e
      clear e
      obtain ⟨lo, lc, rfl, _⟩ := own_form HS2.out.own
      have hL : (opP2 x).length ≤ 3 := len_P2 x
      have z3 := blk_cell HS2.out.o 3 _ rfl
      have hr := rng3 HX.out HKD.out HQ3.out
      go_wp2_with fail
      refine (listInt_any alg x.lgn clg x.lg _ hr.1 hr.2 (HLG.out.below HS2.out.bel) HX.out.2 (HP.out.below HS2.out.bel)).mono ?_
      rintro e w3 ⟨rfl, hb3⟩
      have H3 : Hid _ := (HS2.out.below hb3).below (push (Below.refl _ _) (.cells #[.string (legsT x.lgn x.lg)] 9))
      clear z3 hb3
      have hsz := H3.out.bel.size
      go_wp2_with (first | (at_builtin; refine wpList_append_any _ (by rfl) (.tmp 32) (.tmp 36) 46 (by rfl) w.heap.size 9 j0 (.string ⟨#[]⟩) 1 16 Tryz.underlying46 ji jz0 jz1 jz2 rfl (by decide) _ (opP2 x).length ((opP2 x).map Value.string) (by rfl) H3.out.own (some ⟨w3.heap.size, 0, none⟩) 1 1 [.string (legsT x.lgn x.lg)] (by rfl) (fun h => by cases h) (by rfl) (fun ad h => by cases h; exact World.news_of_block (heap_alloc_new w3 _)) (by intro u hu; simp only [List.mem_cons, List.not_mem_nil, or_false] at hu; subst hu; rfl) (by unfold maxLen; omega) (by omega) hsz ?_; intro v9 w9 ho9 hg9))
      go_meet
      rw [E.out]
      exact H3.out.app hg9 ho9
  case rest =>
  obtain ⟨v3, hv3, HS3⟩ : ∃ v, v = u4 ∧ Hid (TSt w wc w.heap.size Fx #[.int .i64 x.kind, .string x.own, .int .i64 x.name, .slice alg x.lgn clg, .int .i64 x.pe, .int .i64 x.len, .int .i64 x.hei, .int .i64 x.cl, .bool x.all, .int .i64 x.be, .int .i64 x.unt, .int .i64 x.now] #[.bool (fOwner k), .bool (fName k), .int .i64 (fLegs k), .bool (fParty k), .bool (fUntil k), .bool (fNow k), .bool (fFrees k)] v (opP3 x)) := ⟨_, rfl, hcut.out⟩
  subst hv3
  clear hcut HS2
  have f4 := blk_cell HS3.out.f 3 _ rfl
  obtain ⟨q4, hq4⟩ : ∃ q, q = fParty k := ⟨_, rfl⟩
  have HQ4 : Hid (fParty k = q4) := hq4.symm
  rw [← hq4] at f4
  clear hq4
  go_upto_if 39 with fail
  go_cut [4] (fun v wx => Hid (TSt w wx w.heap.size Fx #[.int .i64 x.kind, .string x.own, .int .i64 x.name, .slice alg x.lgn clg, .int .i64 x.pe, .int .i64 x.len, .int .i64 x.hei, .int .i64 x.cl, .bool x.all, .int .i64 x.be, .int .i64 x.unt, .int .i64 x.now] #[.bool (fOwner k), .bool (fName k), .int .i64 (fLegs k), .bool (fParty k), .bool (fUntil k), .bool (fNow k), .bool (fFrees k)] v (opP4 x)))
  case first =>
    clear f4
    cases q4 with
    | false =>
      go_wp2
      go_meet
      have e : opP4 x = opP3 x := by
        unfold opP4 opt
        rw [HKD.out, HQ4.out]
        exact List.append_nil _
      rw [e]
      exact HS3.out
    | true =>
      have e : opP4 x = opP3 x ++ [partyT x.p] := by
        unfold opP4 opt
        rw [HKD.out, HQ4.out]
        rfl
      have E : Hid (opP4 x = opP3 x ++ [partyT x.p]) := e
      clear e
      obtain ⟨lo, lc, rfl, _⟩ := own_form HS3.out.own
      have hL : (opP3 x).length ≤ 4 := len_P3 x
      have z4 := blk_cell HS3.out.o 4 _ rfl
      have z5 := blk_cell HS3.out.o 5 _ rfl
      have z6 := blk_cell HS3.out.o 6 _ rfl
      have z7 := blk_cell HS3.out.o 7 _ rfl
      have z8 := blk_cell HS3.out.o 8 _ rfl
      have z9 := blk_cell HS3.out.o 9 _ rfl
      have hr := rng4 HX.out HKD.out HQ4.out
      go_wp2_with fail
      refine (partyText_any x.p _ hr (HP.out.below HS3.out.bel)).mono ?_
      rintro e w3 ⟨rfl, hb3⟩
      have H3 : Hid _ := (HS3.out.below hb3).below (push (Below.refl _ _) (.cells #[.string (partyT x.p)] 9))
      clear z4 z5 z6 z7 z8 z9 hb3
      have hsz := H3.out.bel.size
      go_wp2_with (first | (at_builtin; refine wpList_append_any _ (by rfl) (.tmp 40) (.tmp 44) 46 (by rfl) w.heap.size 9 j0 (.string ⟨#[]⟩) 1 16 Tryz.underlying46 ji jz0 jz1 jz2 rfl (by decide) _ (opP3 x).length ((opP3 x).map Value.string) (by rfl) H3.out.own (some ⟨w3.heap.size, 0, none⟩) 1 1 [.string (partyT x.p)] (by rfl) (fun h => by cases h) (by rfl) (fun ad h => by cases h; exact World.news_of_block (heap_alloc_new w3 _)) (by intro u hu; simp only [List.mem_cons, List.not_mem_nil, or_false] at hu; subst hu; rfl) (by unfold maxLen; omega) (by omega) hsz ?_; intro v9 w9 ho9 hg9))
      go_meet
      rw [E.out]
      exact H3.out.app hg9 ho9
  case rest =>
  obtain ⟨v4, hv4, HS4⟩ : ∃ v, v = u4 ∧ Hid (TSt w wc w.heap.size Fx #[.int .i64 x.kind, .string x.own, .int .i64 x.name, .slice alg x.lgn clg, .int .i64 x.pe, .int .i64 x.len, .int .i64 x.hei, .int .i64 x.cl, .bool x.all, .int .i64 x.be, .int .i64 x.unt, .int .i64 x.now] #[.bool (fOwner k), .bool (fName k), .int .i64 (fLegs k), .bool (fParty k), .bool (fUntil k), .bool (fNow k), .bool (fFrees k)] v (opP4 x)) := ⟨_, rfl, hcut.out⟩
  subst hv4
  clear hcut HS3
  have f5 := blk_cell HS4.out.f 4 _ rfl
  obtain ⟨q5, hq5⟩ : ∃ q, q = fUntil k := ⟨_, rfl⟩
  have HQ5 : Hid (fUntil k = q5) := hq5.symm
  rw [← hq5] at f5
  clear hq5
  go_upto_if 47 with fail
  go_cut [4] (fun v wx => Hid (TSt w wx w.heap.size Fx #[.int .i64 x.kind, .string x.own, .int .i64 x.name, .slice alg x.lgn clg, .int .i64 x.pe, .int .i64 x.len, .int .i64 x.hei, .int .i64 x.cl, .bool x.all, .int .i64 x.be, .int .i64 x.unt, .int .i64 x.now] #[.bool (fOwner k), .bool (fName k), .int .i64 (fLegs k), .bool (fParty k), .bool (fUntil k), .bool (fNow k), .bool (fFrees k)] v (opP5 x)))
  case first =>
    clear f5
    cases q5 with
    | false =>
      go_wp2
      go_meet
      have e : opP5 x = opP4 x := by
        unfold opP5 opt
        rw [HKD.out, HQ5.out]
        exact List.append_nil _
      rw [e]
      exact HS4.out
    | true =>
      have e : opP5 x = opP4 x ++ [numT x.unt] := by
        unfold opP5 opt
        rw [HKD.out, HQ5.out]
        rfl
      have E : Hid (opP5 x = opP4 x ++ [numT x.unt]) := e
      clear e
      obtain ⟨lo, lc, rfl, _⟩ := own_form HS4.out.own
      have hL : (opP4 x).length ≤ 5 := len_P4 x
      have z10 := blk_cell HS4.out.o 10 _ rfl
      have hr := rng5 HX.out HKD.out HQ5.out
      go_wp2_with fail
      refine (itoa_any x.unt (by omega) (by omega) _ (HP.out.below HS4.out.bel)).mono ?_
      rintro e w3 ⟨rfl, hb3⟩
      have H3 : Hid _ := (HS4.out.below hb3).below (push (Below.refl _ _) (.cells #[.string (numT x.unt)] 9))
      clear z10 hb3
      have hsz := H3.out.bel.size
      go_wp2_with (first | (at_builtin; refine wpList_append_any _ (by rfl) (.tmp 48) (.tmp 52) 46 (by rfl) w.heap.size 9 j0 (.string ⟨#[]⟩) 1 16 Tryz.underlying46 ji jz0 jz1 jz2 rfl (by decide) _ (opP4 x).length ((opP4 x).map Value.string) (by rfl) H3.out.own (some ⟨w3.heap.size, 0, none⟩) 1 1 [.string (numT x.unt)] (by rfl) (fun h => by cases h) (by rfl) (fun ad h => by cases h; exact World.news_of_block (heap_alloc_new w3 _)) (by intro u hu; simp only [List.mem_cons, List.not_mem_nil, or_false] at hu; subst hu; rfl) (by unfold maxLen; omega) (by omega) hsz ?_; intro v9 w9 ho9 hg9))
      go_meet
      rw [E.out]
      exact H3.out.app hg9 ho9
  case rest =>
  obtain ⟨v5, hv5, HS5⟩ : ∃ v, v = u4 ∧ Hid (TSt w wc w.heap.size Fx #[.int .i64 x.kind, .string x.own, .int .i64 x.name, .slice alg x.lgn clg, .int .i64 x.pe, .int .i64 x.len, .int .i64 x.hei, .int .i64 x.cl, .bool x.all, .int .i64 x.be, .int .i64 x.unt, .int .i64 x.now] #[.bool (fOwner k), .bool (fName k), .int .i64 (fLegs k), .bool (fParty k), .bool (fUntil k), .bool (fNow k), .bool (fFrees k)] v (opP5 x)) := ⟨_, rfl, hcut.out⟩
  subst hv5
  clear hcut HS4
  have f6 := blk_cell HS5.out.f 5 _ rfl
  obtain ⟨q6, hq6⟩ : ∃ q, q = fNow k := ⟨_, rfl⟩
  have HQ6 : Hid (fNow k = q6) := hq6.symm
  rw [← hq6] at f6
  clear hq6
  go_upto_if 55 with fail
  go_cut [4] (fun v wx => Hid (TSt w wx w.heap.size Fx #[.int .i64 x.kind, .string x.own, .int .i64 x.name, .slice alg x.lgn clg, .int .i64 x.pe, .int .i64 x.len, .int .i64 x.hei, .int .i64 x.cl, .bool x.all, .int .i64 x.be, .int .i64 x.unt, .int .i64 x.now] #[.bool (fOwner k), .bool (fName k), .int .i64 (fLegs k), .bool (fParty k), .bool (fUntil k), .bool (fNow k), .bool (fFrees k)] v (opP6 x)))
  case first =>
    clear f6
    cases q6 with
    | false =>
      go_wp2
      go_meet
      have e : opP6 x = opP5 x := by
        unfold opP6 opt
        rw [HKD.out, HQ6.out]
        exact List.append_nil _
      rw [e]
      exact HS5.out
    | true =>
      have e : opP6 x = opP5 x ++ [numT x.now] := by
        unfold opP6 opt
        rw [HKD.out, HQ6.out]
        rfl
      have E : Hid (opP6 x = opP5 x ++ [numT x.now]) := e
      clear e
      obtain ⟨lo, lc, rfl, _⟩ := own_form HS5.out.own
      have hL : (opP5 x).length ≤ 6 := len_P5 x
      have z11 := blk_cell HS5.out.o 11 _ rfl
      have hr := rng6 HX.out HKD.out HQ6.out
      go_wp2_with fail
      refine (itoa_any x.now (by omega) (by omega) _ (HP.out.below HS5.out.bel)).mono ?_
      rintro e w3 ⟨rfl, hb3⟩
      have H3 : Hid _ := (HS5.out.below hb3).below (push (Below.refl _ _) (.cells #[.string (numT x.now)] 9))
      clear z11 hb3
      have hsz := H3.out.bel.size
      go_wp2_with (first | (at_builtin; refine wpList_append_any _ (by rfl) (.tmp 56) (.tmp 60) 46 (by rfl) w.heap.size 9 j0 (.string ⟨#[]⟩) 1 16 Tryz.underlying46 ji jz0 jz1 jz2 rfl (by decide) _ (opP5 x).length ((opP5 x).map Value.string) (by rfl) H3.out.own (some ⟨w3.heap.size, 0, none⟩) 1 1 [.string (numT x.now)] (by rfl) (fun h => by cases h) (by rfl) (fun ad h => by cases h; exact World.news_of_block (heap_alloc_new w3 _)) (by intro u hu; simp only [List.mem_cons, List.not_mem_nil, or_false] at hu; subst hu; rfl) (by unfold maxLen; omega) (by omega) hsz ?_; intro v9 w9 ho9 hg9))
      go_meet
      rw [E.out]
      exact H3.out.app hg9 ho9
  case rest =>
  obtain ⟨v6, hv6, HS6⟩ : ∃ v, v = u4 ∧ Hid (TSt w wc w.heap.size Fx #[.int .i64 x.kind, .string x.own, .int .i64 x.name, .slice alg x.lgn clg, .int .i64 x.pe, .int .i64 x.len, .int .i64 x.hei, .int .i64 x.cl, .bool x.all, .int .i64 x.be, .int .i64 x.unt, .int .i64 x.now] #[.bool (fOwner k), .bool (fName k), .int .i64 (fLegs k), .bool (fParty k), .bool (fUntil k), .bool (fNow k), .bool (fFrees k)] v (opP6 x)) := ⟨_, rfl, hcut.out⟩
  subst hv6
  clear hcut HS5
  go_wp2
  go_ret
  exact ⟨_, rfl, HS6.out.own, HS6.out.bel⟩

end Go.Proofs.YtfallpinmhbemaaGreatDoor

namespace Go.Proofs.YtfallpinmhbemaaGreatDoor
open Go.RowKit

noncomputable def hasT (x : OpD) : Bool := by classical exact decide (HasText x)
/-- The text that is answered: the empty one where it has none. -/
noncomputable def textOf (x : OpD) : ByteArray := if hasT x = true then opT x else ⟨#[]⟩
theorem hasT_iff (x : OpD) : hasT x = true ↔ HasText x := by classical exact decide_eq_true_iff
theorem textOf_not {x : OpD} (h : ¬ HasText x) : textOf x = ⟨#[]⟩ ∧ hasT x = false := by
  have h1 : hasT x = false := Bool.eq_false_iff.2 (fun e => h ((hasT_iff x).1 e))
  exact ⟨by unfold textOf; rw [if_neg (by rw [h1]; decide)], h1⟩
theorem textOf_yes {x : OpD} (h : HasText x) : textOf x = opT x ∧ hasT x = true := by
  have h1 : hasT x = true := (hasT_iff x).2 h
  exact ⟨by unfold textOf; rw [if_pos h1], h1⟩
theorem parts_small {x : OpD} (h : HasText x) : ∀ p, p ∈ opP6 x → p.size ≤ 1000 := by
  obtain ⟨k, hk⟩ : ∃ k, k = x.kind.toNat := ⟨_, rfl⟩
  have hopt : ∀ (b : Bool) (q p : ByteArray), p ∈ opt b q → b = true ∧ p = q := by
    intro b q p hp
    unfold opt at hp
    cases b with
    | false => simp at hp
    | true => simp at hp; exact ⟨rfl, hp⟩
  intro p hp
  unfold opP6 opP5 opP4 opP3 opP2 opP1 opP0 at hp
  rw [← hk] at hp
  simp only [List.mem_append, List.mem_singleton] at hp
  rcases hp with ((((((hp | hp) | hp) | hp) | hp) | hp) | hp)
  · rw [hp]; have := wordT_size k; omega
  · obtain ⟨q, rfl⟩ := hopt _ _ _ hp
    have h1 := rng1 h hk.symm q
    have := numT_size (n := x.name) (by omega) (by omega)
    omega
  · obtain ⟨q, rfl⟩ := hopt _ _ _ hp
    have h1 := h.1.2.1
    unfold OwnerOk at h1
    split at h1
    · have := h1.2.1; omega
    · omega
  · obtain ⟨q, rfl⟩ := hopt _ _ _ hp
    have h1 := rng3 h hk.symm q
    unfold legsT
    have h2 : ∀ p, p ∈ (List.range x.lgn).map (fun i => numT (x.lg i)) → p.size ≤ 100 := fun p hp => by
      obtain ⟨i, hi, rfl⟩ := List.mem_map.1 hp
      have h3 := h.2 i (by simpa using hi)
      unfold In at h3
      exact numT_size (by omega) (by omega)
    have key : ∀ (l : List ByteArray), l.length ≤ 3 → (∀ p, p ∈ l → p.size ≤ 100) → (joinT coT l).size ≤ 500 := by
      intro l hl hp
      match l, hl, hp with
      | [], _, _ => exact Nat.zero_le _
      | [a], _, hp => rw [joinT_one]; have := hp a (by simp); omega
      | [a, b], _, hp =>
        have e : joinT coT [a, b] = joinT coT [a] ++ (coT ++ b) := joinT_snoc coT b (l := [a]) (by simp)
        rw [e, joinT_one, ByteArray.size_append, ByteArray.size_append]
        have h1 := hp a (by simp)
        have h2 := hp b (by simp)
        show _ + (1 + _) ≤ 500
        omega
      | [a, b, c], _, hp =>
        have e1 : joinT coT [a, b] = joinT coT [a] ++ (coT ++ b) := joinT_snoc coT b (l := [a]) (by simp)
        have e : joinT coT [a, b, c] = joinT coT [a, b] ++ (coT ++ c) := joinT_snoc coT c (l := [a, b]) (by simp)
        rw [e, e1, joinT_one, ByteArray.size_append, ByteArray.size_append, ByteArray.size_append, ByteArray.size_append]
        have h1 := hp a (by simp)
        have h2 := hp b (by simp)
        have h3 := hp c (by simp)
        show _ + (1 + _) + (1 + _) ≤ 500
        omega
    have := key _ (by simp; omega) h2
    omega
  · obtain ⟨q, rfl⟩ := hopt _ _ _ hp
    have h1 := rng4 h hk.symm q
    generalize x.p = p at h1
    unfold PartyOk CarOk CabOk In at h1
    have s1 := numT_size (n := p.pe) (by omega) (by omega)
    have s2 := numT_size (n := p.len) (by omega) (by omega)
    have s3 := numT_size (n := p.hei) (by omega) (by omega)
    have s4 := numT_size (n := p.cl) (by omega) (by omega)
    have s5 := numT_size (n := p.be) (by omega) (by omega)
    have c1 : (carT p).size ≤ 300 := by
      unfold carT
      split
      · exact Nat.zero_le _
      · rw [ByteArray.size_append, ByteArray.size_append, ByteArray.size_append]
        show 1 + ((numT p.len).size + 1 + (numT p.hei).size) ≤ 300
        omega
    have c2 : (cabT p).size ≤ 300 := by
      unfold cabT
      split
      · exact Nat.zero_le _
      · rw [ByteArray.size_append]
        show 1 + (numT p.cl).size ≤ 300
        omega
    have c3 : (berT p).size ≤ 300 := by
      unfold berT
      split
      · exact Nat.zero_le _
      · rw [ByteArray.size_append]
        show 1 + (numT p.be).size ≤ 300
        omega
    unfold partyT
    split
    · rw [ByteArray.size_append]; omega
    · rw [ByteArray.size_append, ByteArray.size_append, ByteArray.size_append]; omega
  · obtain ⟨q, rfl⟩ := hopt _ _ _ hp
    have h1 := rng5 h hk.symm q
    have := numT_size (n := x.unt) (by omega) (by omega)
    omega
  · obtain ⟨q, rfl⟩ := hopt _ _ _ hp
    have h1 := rng6 h hk.symm q
    have := numT_size (n := x.now) (by omega) (by omega)
    omega
theorem legs_small {x : OpD} {k : Nat} (h : HasText x) (hk : x.kind.toNat = k) (hq : decide (0 < fLegs k) = true) : (legsT x.lgn x.lg).size ≤ 1000 := by
  refine parts_small h _ ?_
  unfold opP6 opP5 opP4 opP3 opt
  rw [hk, hq]
  simp
theorem party_small {x : OpD} {k : Nat} (h : HasText x) (hk : x.kind.toNat = k) (hq : fParty k = true) : (partyT x.p).size ≤ 1000 := by
  refine parts_small h _ ?_
  unfold opP6 opP5 opP4 opt
  rw [hk, hq]
  simp
theorem opT_small {x : OpD} (h : HasText x) : (opT x).size ≤ 7007 := by
  have h1 := joinT_le spT (by show 1 ≤ 1; omega) (opP6 x) (parts_small h)
  have h2 := len_P6 x
  unfold opT
  omega

set_option maxHeartbeats 1600000 in
set_option maxRecDepth 100000 in
theorem implText_any (cs : List Value) (x : OpD) (w : World) (hs : x.own.size ≤ 1000000000000000) (h : OpD.Is w cs x) (hn : x.lgn ≤ 1000000000) (hP : PowAt w) (hF : FormsAt w) (hW : WordsAt w) :
    Calls Tryz.prog 5 #[.agg cs.toArray] w fun e w' => e = .returned (.tuple #[.string (textOf x), .bool (hasT x)]) ∧ Below w.heap.size w w' := by
  have HI : Hid (OpD.Is w cs x) := h
  obtain ⟨alg, clg, rfl, hlg, _⟩ := h
  have HLG : Hid (IntsAt w alg x.lgn x.lg) := hlg
  have HT : Hid (PowAt w ∧ FormsAt w ∧ WordsAt w) := ⟨hP, hF, hW⟩
  have hb0 : Below w.heap.size w (w.alloc (.cells #[.int .i64 x.kind, .string x.own, .int .i64 x.name, .slice alg x.lgn clg, .int .i64 x.pe, .int .i64 x.len, .int .i64 x.hei, .int .i64 x.cl, .bool x.all, .int .i64 x.be, .int .i64 x.unt, .int .i64 x.now] 27)) := push (Below.refl _ _) _
  have b0 := heap_alloc_new w (.cells #[.int .i64 x.kind, .string x.own, .int .i64 x.name, .slice alg x.lgn clg, .int .i64 x.pe, .int .i64 x.len, .int .i64 x.hei, .int .i64 x.cl, .bool x.all, .int .i64 x.be, .int .i64 x.unt, .int .i64 x.now] 27)
  clear hlg hP hF hW
  go_enter Tryz.func5, Tryz.ntmps5
  go_upto_region 1 with fail
  generalize w.alloc (.cells #[.int .i64 x.kind, .string x.own, .int .i64 x.name, .slice alg x.lgn clg, .int .i64 x.pe, .int .i64 x.len, .int .i64 x.hei, .int .i64 x.cl, .bool x.all, .int .i64 x.be, .int .i64 x.unt, .int .i64 x.now] 27) = W at hb0 b0 ⊢
  have y0 := blk_cell b0 0 _ rfl
  have y1 := blk_cell b0 1 _ rfl
  have y2 := blk_cell b0 2 _ rfl
  have y3 := blk_cell b0 3 _ rfl
  have y4 := blk_cell b0 4 _ rfl
  have y5 := blk_cell b0 5 _ rfl
  have y6 := blk_cell b0 6 _ rfl
  have y7 := blk_cell b0 7 _ rfl
  have y8 := blk_cell b0 8 _ rfl
  have y9 := blk_cell b0 9 _ rfl
  have y10 := blk_cell b0 10 _ rfl
  have y11 := blk_cell b0 11 _ rfl
  go_wp2_with fail
  obtain ⟨q, hq⟩ : ∃ q, q = decide (OpOk x) := ⟨_, rfl⟩
  have HQ : Hid (q = true ↔ OpOk x) := by show q = true ↔ OpOk x; rw [hq, decide_eq_true_eq]
  have cq := implOp_any [.int .i64 x.kind, .string x.own, .int .i64 x.name, .slice alg x.lgn clg, .int .i64 x.pe, .int .i64 x.len, .int .i64 x.hei, .int .i64 x.cl, .bool x.all, .int .i64 x.be, .int .i64 x.unt, .int .i64 x.now] x W hs (HI.out.below hb0) (HT.out.2.1.below hb0)
  rw [← hq] at cq
  clear hq
  refine cq.mono ?_
  clear cq
  rintro e w2 ⟨rfl, hb2⟩
  have b2 := blk_below b0 hb2
  have hB2 := after hb0 hb2
  clear y0 y1 y2 y3 y4 y5 y6 y7 y8 y9 y10 y11 b0 hb0 hb2
  cases q with
  | false =>
    have hno : ¬ HasText x := fun h => by have := HQ.out.2 h.1; cases this
    have HR : Hid (textOf x = ⟨#[]⟩ ∧ hasT x = false) := textOf_not hno
    clear hno
    go_wp2
    exact bodyPost_ret (v := .tuple #[.string ⟨#[]⟩, .bool false]) (by simp [results, Tryz.results5, go_sem]) rfl ⟨by rw [HR.out.1, HR.out.2], hB2⟩
  | true =>
    have z3 := blk_cell b2 3 _ rfl
    go_wp2_with fail
    refine (areNumbers_any alg x.lgn clg x.lg _ hn (HLG.out.below hB2)).mono ?_
    rintro e w3 ⟨⟨r, rfl, hr⟩, hb3⟩
    have b3 := blk_below b2 hb3
    have hB3 := after hB2 hb3
    have HRN : Hid (r = true ↔ ∀ i, i < x.lgn → In (x.lg i) 0 99999) := hr
    clear b2 hB2 hb3 z3 hr
    cases r with
    | false =>
      have hno : ¬ HasText x := fun h => by have := HRN.out.2 h.2; cases this
      have HR : Hid (textOf x = ⟨#[]⟩ ∧ hasT x = false) := textOf_not hno
      clear hno
      go_wp2
      exact bodyPost_ret (v := .tuple #[.string ⟨#[]⟩, .bool false]) (by simp [results, Tryz.results5, go_sem]) rfl ⟨by rw [HR.out.1, HR.out.2], hB3⟩
    | true =>
      have HX : Hid (HasText x) := ⟨(by first | exact HQ.out.1 rfl | exact HQ.out.1 trivial), (by first | exact HRN.out.1 rfl | exact HRN.out.1 trivial)⟩
      have HR : Hid (textOf x = opT x ∧ hasT x = true) := textOf_yes HX.out
      have y0 := blk_cell b3 0 _ rfl
      have y1 := blk_cell b3 1 _ rfl
      have y2 := blk_cell b3 2 _ rfl
      have y3 := blk_cell b3 3 _ rfl
      have y4 := blk_cell b3 4 _ rfl
      have y5 := blk_cell b3 5 _ rfl
      have y6 := blk_cell b3 6 _ rfl
      have y7 := blk_cell b3 7 _ rfl
      have y8 := blk_cell b3 8 _ rfl
      have y9 := blk_cell b3 9 _ rfl
      have y10 := blk_cell b3 10 _ rfl
      have y11 := blk_cell b3 11 _ rfl
      go_wp2_with fail
      refine (opTold_any x alg clg _ HX.out (HLG.out.below hB3) (HT.out.1.below hB3) (HT.out.2.1.below hB3) (HT.out.2.2.below hB3)).mono ?_
      rintro e w4 ⟨v, rfl, ho4, hb4⟩
      have HO : Hid (OwnT w4 w3.heap.size v (opP6 x)) := ho4
      clear y0 y1 y2 y3 y4 y5 y6 y7 y8 y9 y10 y11 ho4
      go_wp2_with fail
      refine (join_any spT (opP6 x) v _ _ HO.out (by have := len_P6 x; omega) (by have h1 := opT_small HX.out; unfold opT at h1; omega)).mono ?_
      rintro e w5 ⟨rfl, hb5⟩
      go_wp2
      exact bodyPost_ret (v := .tuple #[.string (opT x), .bool true]) (by simp [results, Tryz.results5, go_sem, opT]) rfl ⟨by rw [HR.out.1, HR.out.2], after (after hB3 hb4) hb5⟩

end Go.Proofs.YtfallpinmhbemaaGreatDoor
