/-
  OWN TEXT: PlainOp, SpecFc, SpecFg, SpecO1, DrawOp.
-/
import Derived.Deep.DeepCutAuto
import Derived.Deep.CutBlock
import Derived.Deep.RegionWith
import Derived.Test.YtfallpinmhbemaaGreatDoorB11
import Derived.Test.YtfallpinmhbemaaGreatDoorB01
import Derived.Test.YtfallpinmhbemaaGreatDoorB07
import Derived.Test.YtfallpinmhbemaaGreatDoorB08
namespace Go.Proofs.YtfallpinmhbemaaGreatDoor
open Go.RowKit

def OwnerOk (k : Int) (s : ByteArray) : Prop := if k = 2 ∨ k = 3 ∨ k = 7 then IsName s else s.size = 0
instance (k : Int) (s : ByteArray) : Decidable (OwnerOk k s) := by unfold OwnerOk; exact inferInstance
def NameOk (k n : Int) : Prop := if In k 4 8 then In n 1 30 else n = 0
instance (k n : Int) : Decidable (NameOk k n) := by unfold NameOk; exact inferInstance
def HasLegs (k : Int) : Prop := k = 1 ∨ k = 2 ∨ k = 3 ∨ k = 5
instance (k : Int) : Decidable (HasLegs k) := by unfold HasLegs; exact inferInstance
def LegsOkFor (k : Int) (n : Nat) : Prop := if HasLegs k then 1 ≤ n ∧ n ≤ 3 else if k = 9 then n = 1 else n = 0
instance (k : Int) (n : Nat) : Decidable (LegsOkFor k n) := by unfold LegsOkFor; exact inferInstance
def NoParty (p : Party) : Prop := p.pe = 0 ∧ p.len = 0 ∧ p.hei = 0 ∧ p.cl = 0 ∧ p.all = false ∧ p.be = 0
instance (p : Party) : Decidable (NoParty p) := by unfold NoParty; exact inferInstance
def PartyOkFor (k : Int) (p : Party) : Prop := if HasLegs k then PartyOk p else NoParty p
instance (k : Int) (p : Party) : Decidable (PartyOkFor k p) := by unfold PartyOkFor; exact inferInstance
def UntilOk (k u : Int) : Prop := u = 0 ∨ (k = 2 ∧ In u 0 10000)
instance (k u : Int) : Decidable (UntilOk k u) := by unfold UntilOk; exact inferInstance
def NowOk (k u : Int) : Prop := u = 0 ∨ ((k = 8 ∨ k = 6) ∧ In u 0 10000)
instance (k u : Int) : Decidable (NowOk k u) := by unfold NowOk; exact inferInstance
def OpD.p (o : OpD) : Party := ⟨o.pe, o.len, o.hei, o.cl, o.all, o.be⟩
/-- A good operation. -/
def OpOk (o : OpD) : Prop := In o.kind 1 9 ∧ OwnerOk o.kind o.own ∧ NameOk o.kind o.name ∧ LegsOkFor o.kind o.lgn ∧ PartyOkFor o.kind o.p ∧ UntilOk o.kind o.unt ∧ NowOk o.kind o.now
instance (o : OpD) : Decidable (OpOk o) := by unfold OpOk; exact inferInstance

theorem opOk_split {k : Int} {own : ByteArray} {name : Int} {lgn : Nat} {lg : Nat → Int} {pe len hei cl : Int} {all : Bool} {be unt now : Int} (hk : In k 1 9) :
    decide (OpOk ⟨k, own, name, lgn, lg, pe, len, hei, cl, all, be, unt, now⟩) = (decide (OwnerOk k own) && decide (NameOk k name) && decide (LegsOkFor k lgn) && decide (PartyOkFor k ⟨pe, len, hei, cl, all, be⟩) && decide (UntilOk k unt) && decide (NowOk k now)) := by
  rw [Bool.eq_iff_iff]
  simp only [Bool.and_eq_true, decide_eq_true_eq]
  unfold OpOk OpD.p
  exact ⟨fun h => ⟨⟨⟨⟨⟨h.2.1, h.2.2.1⟩, h.2.2.2.1⟩, h.2.2.2.2.1⟩, h.2.2.2.2.2.1⟩, h.2.2.2.2.2.2⟩, fun h => ⟨hk, h.1.1.1.1.1, h.1.1.1.1.2, h.1.1.1.2, h.1.1.2, h.1.2, h.2⟩⟩
theorem owner_empty (own : ByteArray) {k : Int} (hk : ¬ (k = 2 ∨ k = 3 ∨ k = 7)) : decide (OwnerOk k own) = own.toList.isEmpty := by
  rw [Bool.eq_iff_iff]
  rw [decide_eq_true_eq]
  unfold OwnerOk
  rw [if_neg hk, List.isEmpty_iff, ByteArray.toList_eq]
  obtain ⟨⟨l⟩⟩ := own
  show l.length = 0 ↔ l = []
  exact List.length_eq_zero_iff
theorem name_zero (n : Int) {k : Int} (hk : ¬ In k 4 8) : decide (NameOk k n) = (n == 0) := by
  rw [Bool.eq_iff_iff]
  rw [decide_eq_true_eq]
  unfold NameOk
  rw [if_neg hk, beq_iff_eq]
theorem int_zero (n : Nat) : ((n : Int) == 0) = decide (n = 0) := by
  rw [Bool.eq_iff_iff, beq_iff_eq, decide_eq_true_eq]; omega
theorem int_one (n : Nat) : ((n : Int) == 1) = decide (n = 1) := by
  rw [Bool.eq_iff_iff, beq_iff_eq, decide_eq_true_eq]; omega
theorem party_says {k : Int} {p : Party} {q : Bool} (hk : HasLegs k) (h : q = true ↔ PartyOk p) : decide (PartyOkFor k p) = q := by
  rw [Bool.eq_iff_iff, decide_eq_true_eq, h]
  unfold PartyOkFor
  rw [if_pos hk]
/-- The party is the zero one. -/
def PZ (pe len hei cl : Int) (all : Bool) (be : Int) : Bool := decide (NoParty ⟨pe, len, hei, cl, all, be⟩)
theorem pz_no {pe len hei cl : Int} {all : Bool} {be : Int} (h : ¬ NoParty ⟨pe, len, hei, cl, all, be⟩) : PZ pe len hei cl all be = false := decide_eq_false h
theorem party_none {k : Int} {pe len hei cl : Int} {all : Bool} {be : Int} (hk : ¬ HasLegs k) : PZ pe len hei cl all be = decide (PartyOkFor k ⟨pe, len, hei, cl, all, be⟩) := by
  unfold PZ
  rw [Bool.eq_iff_iff, decide_eq_true_eq, decide_eq_true_eq]
  unfold PartyOkFor
  rw [if_neg hk]

end Go.Proofs.YtfallpinmhbemaaGreatDoor

namespace Go.Proofs.YtfallpinmhbemaaGreatDoor
open Go.RowKit

theorem l6Car_is (x y : Int) (w : World) :
    Calls Tryz.prog 90 #[.int .i64 x, .int .i64 y] w fun e w' => e = .returned (.bool (decide (CarOk x y))) ∧ w' = w := by
  obtain ⟨c, hc⟩ : ∃ c, c = decide (CarOk x y) := ⟨_, rfl⟩
  rw [← hc]
  have HC : Hid (c = decide (CarOk x y)) := hc
  clear hc
  by_cases h1 : In x 1 2000
  · have e1 : decide (In x 1 2000) = true := decide_eq_true h1
    have H1 : Hid (In x 1 2000) := h1
    clear h1
    by_cases h2 : In y 1 500
    · have e2 : decide (In y 1 500) = true := decide_eq_true h2
      have H2 : Hid (In y 1 500) := h2
      clear h2
      go_enter Tryz.func90, Tryz.ntmps90
      go_wp2_with (first | (go_at_call 19; refine (l1In_is _ _ _ _).mono ?_; rintro e w' ⟨rfl, hw'⟩; have hw' := hw'.symm; subst hw'))
      go_ret
      exact ⟨by rw [HC.out, decide_eq_true ⟨H1.out, H2.out⟩]; rfl, rfl⟩
    · have e2 : decide (In y 1 500) = false := decide_eq_false h2
      have H2 : Hid (¬ In y 1 500) := h2
      clear h2
      go_enter Tryz.func90, Tryz.ntmps90
      go_wp2_with (first | (go_at_call 19; refine (l1In_is _ _ _ _).mono ?_; rintro e w' ⟨rfl, hw'⟩; have hw' := hw'.symm; subst hw'))
      go_ret
      exact ⟨by rw [HC.out, decide_eq_false (fun h => H2.out h.2)]; rfl, rfl⟩
  · have e1 : decide (In x 1 2000) = false := decide_eq_false h1
    have H1 : Hid (¬ In x 1 2000) := h1
    clear h1
    go_enter Tryz.func90, Tryz.ntmps90
    go_wp2_with (first | (go_at_call 19; refine (l1In_is _ _ _ _).mono ?_; rintro e w' ⟨rfl, hw'⟩; have hw' := hw'.symm; subst hw'))
    go_ret
    exact ⟨by rw [HC.out, decide_eq_false (fun h => H1.out h.1)]; rfl, rfl⟩

end Go.Proofs.YtfallpinmhbemaaGreatDoor

namespace Go.Proofs.YtfallpinmhbemaaGreatDoor
open Go.RowKit

set_option maxHeartbeats 3200000 in
theorem specParty_any (pe len hei cl : Int) (all : Bool) (be : Int) (w : World) :
    Calls Tryz.prog 45 #[.agg #[.int .i64 pe, .int .i64 len, .int .i64 hei, .int .i64 cl, .bool all, .int .i64 be]] w fun e w' => SaysIf (PartyOk ⟨pe, len, hei, cl, all, be⟩) e ∧ Below w.heap.size w w' := by
  by_cases h1 : In pe 1 20
  · have e1 : decide (In pe 1 20) = true := decide_eq_true h1
    have H1 : Hid (In pe 1 20) := h1
    clear h1
    by_cases h2 : len = 0
    · subst h2
      have HN : Hid (¬ CarOk 0 hei) := fun h => by have := h.1; unfold In at this; omega
      have e3 : decide (CarOk 0 hei) = false := decide_eq_false HN.out
      by_cases h3 : hei = 0
      · subst h3
        by_cases k0 : cl = 0
        · subst k0
          cases all with
          | true =>
            go_enter Tryz.func45, Tryz.ntmps45
            go_wp2_with (first | (go_at_call 19; refine (l1In_is _ _ _ _).mono ?_; rintro e w' ⟨rfl, hw'⟩; have hw' := hw'.symm; subst hw') | (go_at_call 90; refine (l6Car_is _ _ _).mono ?_; rintro e w' ⟨rfl, hw'⟩; have hw' := hw'.symm; subst hw'))
            go_ret
            exact ⟨says_no (fun h => by rcases h.2.2 with h | h; cases h.2.1; have h9 : In (0 : Int) 1 3 := h.1; unfold In at h9; omega), push (Below.refl _ _) _⟩
          | false =>
            by_cases k1 : be = 0
            · subst k1
              go_enter Tryz.func45, Tryz.ntmps45
              go_wp2_with (first | (go_at_call 19; refine (l1In_is _ _ _ _).mono ?_; rintro e w' ⟨rfl, hw'⟩; have hw' := hw'.symm; subst hw') | (go_at_call 90; refine (l6Car_is _ _ _).mono ?_; rintro e w' ⟨rfl, hw'⟩; have hw' := hw'.symm; subst hw'))
              go_ret
              exact ⟨says_yes ⟨H1.out, .inl ⟨rfl, rfl⟩, .inl ⟨rfl, rfl, rfl⟩⟩, push (Below.refl _ _) _⟩
            · have x1 : (be == 0) = false := by simpa using k1
              have K1 : Hid (¬ be = 0) := k1
              clear k1
              go_enter Tryz.func45, Tryz.ntmps45
              go_wp2_with (first | (go_at_call 19; refine (l1In_is _ _ _ _).mono ?_; rintro e w' ⟨rfl, hw'⟩; have hw' := hw'.symm; subst hw') | (go_at_call 90; refine (l6Car_is _ _ _).mono ?_; rintro e w' ⟨rfl, hw'⟩; have hw' := hw'.symm; subst hw'))
              go_ret
              exact ⟨says_no (fun h => by rcases h.2.2 with h | h; exact K1.out h.2.2; have h9 : In (0 : Int) 1 3 := h.1; unfold In at h9; omega), push (Below.refl _ _) _⟩
        · have x0 : (cl == 0) = false := by simpa using k0
          have K0 : Hid (¬ cl = 0) := k0
          clear k0
          by_cases k2 : In cl 1 3
          · have x2 : decide (In cl 1 3) = true := decide_eq_true k2
            have K2 : Hid (In cl 1 3) := k2
            clear k2
            cases all with
            | true =>
              by_cases k1 : be = 0
              · subst k1
                go_enter Tryz.func45, Tryz.ntmps45
                go_wp2_with (first | (go_at_call 19; refine (l1In_is _ _ _ _).mono ?_; rintro e w' ⟨rfl, hw'⟩; have hw' := hw'.symm; subst hw') | (go_at_call 90; refine (l6Car_is _ _ _).mono ?_; rintro e w' ⟨rfl, hw'⟩; have hw' := hw'.symm; subst hw'))
                go_ret
                exact ⟨says_yes ⟨H1.out, .inl ⟨rfl, rfl⟩, .inr ⟨K2.out, .inl ⟨rfl, rfl⟩⟩⟩, push (Below.refl _ _) _⟩
              · have x1 : (be == 0) = false := by simpa using k1
                have K1 : Hid (¬ be = 0) := k1
                clear k1
                go_enter Tryz.func45, Tryz.ntmps45
                go_wp2_with (first | (go_at_call 19; refine (l1In_is _ _ _ _).mono ?_; rintro e w' ⟨rfl, hw'⟩; have hw' := hw'.symm; subst hw') | (go_at_call 90; refine (l6Car_is _ _ _).mono ?_; rintro e w' ⟨rfl, hw'⟩; have hw' := hw'.symm; subst hw'))
                go_ret
                exact ⟨says_no (fun h => by rcases h.2.2 with h | h; exact K0.out h.1; rcases h.2 with h | h; exact K1.out h.2; cases h.1), push (Below.refl _ _) _⟩
            | false =>
              by_cases k3 : In be 1 4
              · have x3 : decide (In be 1 4) = true := decide_eq_true k3
                have K3 : Hid (In be 1 4) := k3
                clear k3
                go_enter Tryz.func45, Tryz.ntmps45
                go_wp2_with (first | (go_at_call 19; refine (l1In_is _ _ _ _).mono ?_; rintro e w' ⟨rfl, hw'⟩; have hw' := hw'.symm; subst hw') | (go_at_call 90; refine (l6Car_is _ _ _).mono ?_; rintro e w' ⟨rfl, hw'⟩; have hw' := hw'.symm; subst hw'))
                go_ret
                exact ⟨says_yes ⟨H1.out, .inl ⟨rfl, rfl⟩, .inr ⟨K2.out, .inr ⟨rfl, K3.out⟩⟩⟩, push (Below.refl _ _) _⟩
              · have x3 : decide (In be 1 4) = false := decide_eq_false k3
                have K3 : Hid (¬ In be 1 4) := k3
                clear k3
                go_enter Tryz.func45, Tryz.ntmps45
                go_wp2_with (first | (go_at_call 19; refine (l1In_is _ _ _ _).mono ?_; rintro e w' ⟨rfl, hw'⟩; have hw' := hw'.symm; subst hw') | (go_at_call 90; refine (l6Car_is _ _ _).mono ?_; rintro e w' ⟨rfl, hw'⟩; have hw' := hw'.symm; subst hw'))
                go_ret
                exact ⟨says_no (fun h => by rcases h.2.2 with h | h; exact K0.out h.1; rcases h.2 with h | h; cases h.1; exact K3.out h.2), push (Below.refl _ _) _⟩
          · have x2 : decide (In cl 1 3) = false := decide_eq_false k2
            have K2 : Hid (¬ In cl 1 3) := k2
            clear k2
            go_enter Tryz.func45, Tryz.ntmps45
            go_wp2_with (first | (go_at_call 19; refine (l1In_is _ _ _ _).mono ?_; rintro e w' ⟨rfl, hw'⟩; have hw' := hw'.symm; subst hw') | (go_at_call 90; refine (l6Car_is _ _ _).mono ?_; rintro e w' ⟨rfl, hw'⟩; have hw' := hw'.symm; subst hw'))
            go_ret
            exact ⟨says_no (fun h => by rcases h.2.2 with h | h; exact K0.out h.1; exact K2.out h.1), push (Below.refl _ _) _⟩
      · have e2 : (hei == 0) = false := by simpa using h3
        have H3 : Hid (¬ hei = 0) := h3
        clear h3
        go_enter Tryz.func45, Tryz.ntmps45
        go_wp2_with (first | (go_at_call 19; refine (l1In_is _ _ _ _).mono ?_; rintro e w' ⟨rfl, hw'⟩; have hw' := hw'.symm; subst hw') | (go_at_call 90; refine (l6Car_is _ _ _).mono ?_; rintro e w' ⟨rfl, hw'⟩; have hw' := hw'.symm; subst hw'))
        go_ret
        exact ⟨says_no (fun h => by rcases h.2.1 with h | h; exact H3.out h.2; exact HN.out h), push (Below.refl _ _) _⟩
    · have e2 : (len == 0) = false := by simpa using h2
      have H2 : Hid (¬ len = 0) := h2
      clear h2
      by_cases h3 : CarOk len hei
      · have e3 : decide (CarOk len hei) = true := decide_eq_true h3
        have H3 : Hid (CarOk len hei) := h3
        clear h3
        by_cases k0 : cl = 0
        · subst k0
          cases all with
          | true =>
            go_enter Tryz.func45, Tryz.ntmps45
            go_wp2_with (first | (go_at_call 19; refine (l1In_is _ _ _ _).mono ?_; rintro e w' ⟨rfl, hw'⟩; have hw' := hw'.symm; subst hw') | (go_at_call 90; refine (l6Car_is _ _ _).mono ?_; rintro e w' ⟨rfl, hw'⟩; have hw' := hw'.symm; subst hw'))
            go_ret
            exact ⟨says_no (fun h => by rcases h.2.2 with h | h; cases h.2.1; have h9 : In (0 : Int) 1 3 := h.1; unfold In at h9; omega), push (Below.refl _ _) _⟩
          | false =>
            by_cases k1 : be = 0
            · subst k1
              go_enter Tryz.func45, Tryz.ntmps45
              go_wp2_with (first | (go_at_call 19; refine (l1In_is _ _ _ _).mono ?_; rintro e w' ⟨rfl, hw'⟩; have hw' := hw'.symm; subst hw') | (go_at_call 90; refine (l6Car_is _ _ _).mono ?_; rintro e w' ⟨rfl, hw'⟩; have hw' := hw'.symm; subst hw'))
              go_ret
              exact ⟨says_yes ⟨H1.out, .inr H3.out, .inl ⟨rfl, rfl, rfl⟩⟩, push (Below.refl _ _) _⟩
            · have x1 : (be == 0) = false := by simpa using k1
              have K1 : Hid (¬ be = 0) := k1
              clear k1
              go_enter Tryz.func45, Tryz.ntmps45
              go_wp2_with (first | (go_at_call 19; refine (l1In_is _ _ _ _).mono ?_; rintro e w' ⟨rfl, hw'⟩; have hw' := hw'.symm; subst hw') | (go_at_call 90; refine (l6Car_is _ _ _).mono ?_; rintro e w' ⟨rfl, hw'⟩; have hw' := hw'.symm; subst hw'))
              go_ret
              exact ⟨says_no (fun h => by rcases h.2.2 with h | h; exact K1.out h.2.2; have h9 : In (0 : Int) 1 3 := h.1; unfold In at h9; omega), push (Below.refl _ _) _⟩
        · have x0 : (cl == 0) = false := by simpa using k0
          have K0 : Hid (¬ cl = 0) := k0
          clear k0
          by_cases k2 : In cl 1 3
          · have x2 : decide (In cl 1 3) = true := decide_eq_true k2
            have K2 : Hid (In cl 1 3) := k2
            clear k2
            cases all with
            | true =>
              by_cases k1 : be = 0
              · subst k1
                go_enter Tryz.func45, Tryz.ntmps45
                go_wp2_with (first | (go_at_call 19; refine (l1In_is _ _ _ _).mono ?_; rintro e w' ⟨rfl, hw'⟩; have hw' := hw'.symm; subst hw') | (go_at_call 90; refine (l6Car_is _ _ _).mono ?_; rintro e w' ⟨rfl, hw'⟩; have hw' := hw'.symm; subst hw'))
                go_ret
                exact ⟨says_yes ⟨H1.out, .inr H3.out, .inr ⟨K2.out, .inl ⟨rfl, rfl⟩⟩⟩, push (Below.refl _ _) _⟩
              · have x1 : (be == 0) = false := by simpa using k1
                have K1 : Hid (¬ be = 0) := k1
                clear k1
                go_enter Tryz.func45, Tryz.ntmps45
                go_wp2_with (first | (go_at_call 19; refine (l1In_is _ _ _ _).mono ?_; rintro e w' ⟨rfl, hw'⟩; have hw' := hw'.symm; subst hw') | (go_at_call 90; refine (l6Car_is _ _ _).mono ?_; rintro e w' ⟨rfl, hw'⟩; have hw' := hw'.symm; subst hw'))
                go_ret
                exact ⟨says_no (fun h => by rcases h.2.2 with h | h; exact K0.out h.1; rcases h.2 with h | h; exact K1.out h.2; cases h.1), push (Below.refl _ _) _⟩
            | false =>
              by_cases k3 : In be 1 4
              · have x3 : decide (In be 1 4) = true := decide_eq_true k3
                have K3 : Hid (In be 1 4) := k3
                clear k3
                go_enter Tryz.func45, Tryz.ntmps45
                go_wp2_with (first | (go_at_call 19; refine (l1In_is _ _ _ _).mono ?_; rintro e w' ⟨rfl, hw'⟩; have hw' := hw'.symm; subst hw') | (go_at_call 90; refine (l6Car_is _ _ _).mono ?_; rintro e w' ⟨rfl, hw'⟩; have hw' := hw'.symm; subst hw'))
                go_ret
                exact ⟨says_yes ⟨H1.out, .inr H3.out, .inr ⟨K2.out, .inr ⟨rfl, K3.out⟩⟩⟩, push (Below.refl _ _) _⟩
              · have x3 : decide (In be 1 4) = false := decide_eq_false k3
                have K3 : Hid (¬ In be 1 4) := k3
                clear k3
                go_enter Tryz.func45, Tryz.ntmps45
                go_wp2_with (first | (go_at_call 19; refine (l1In_is _ _ _ _).mono ?_; rintro e w' ⟨rfl, hw'⟩; have hw' := hw'.symm; subst hw') | (go_at_call 90; refine (l6Car_is _ _ _).mono ?_; rintro e w' ⟨rfl, hw'⟩; have hw' := hw'.symm; subst hw'))
                go_ret
                exact ⟨says_no (fun h => by rcases h.2.2 with h | h; exact K0.out h.1; rcases h.2 with h | h; cases h.1; exact K3.out h.2), push (Below.refl _ _) _⟩
          · have x2 : decide (In cl 1 3) = false := decide_eq_false k2
            have K2 : Hid (¬ In cl 1 3) := k2
            clear k2
            go_enter Tryz.func45, Tryz.ntmps45
            go_wp2_with (first | (go_at_call 19; refine (l1In_is _ _ _ _).mono ?_; rintro e w' ⟨rfl, hw'⟩; have hw' := hw'.symm; subst hw') | (go_at_call 90; refine (l6Car_is _ _ _).mono ?_; rintro e w' ⟨rfl, hw'⟩; have hw' := hw'.symm; subst hw'))
            go_ret
            exact ⟨says_no (fun h => by rcases h.2.2 with h | h; exact K0.out h.1; exact K2.out h.1), push (Below.refl _ _) _⟩
      · have e3 : decide (CarOk len hei) = false := decide_eq_false h3
        have H3 : Hid (¬ CarOk len hei) := h3
        clear h3
        go_enter Tryz.func45, Tryz.ntmps45
        go_wp2_with (first | (go_at_call 19; refine (l1In_is _ _ _ _).mono ?_; rintro e w' ⟨rfl, hw'⟩; have hw' := hw'.symm; subst hw') | (go_at_call 90; refine (l6Car_is _ _ _).mono ?_; rintro e w' ⟨rfl, hw'⟩; have hw' := hw'.symm; subst hw'))
        go_ret
        exact ⟨says_no (fun h => by rcases h.2.1 with h | h; exact H2.out h.1; exact H3.out h), push (Below.refl _ _) _⟩
  · have e1 : decide (In pe 1 20) = false := decide_eq_false h1
    have H1 : Hid (¬ In pe 1 20) := h1
    clear h1
    go_enter Tryz.func45, Tryz.ntmps45
    go_wp2_with (first | (go_at_call 19; refine (l1In_is _ _ _ _).mono ?_; rintro e w' ⟨rfl, hw'⟩; have hw' := hw'.symm; subst hw') | (go_at_call 90; refine (l6Car_is _ _ _).mono ?_; rintro e w' ⟨rfl, hw'⟩; have hw' := hw'.symm; subst hw'))
    go_ret
    exact ⟨says_no (fun h => H1.out h.1), push (Below.refl _ _) _⟩

end Go.Proofs.YtfallpinmhbemaaGreatDoor

namespace Go.Proofs.YtfallpinmhbemaaGreatDoor
open Go.RowKit

theorem l7Named_is (k : Int) (w : World) : Calls Tryz.prog 43 #[.int .i64 k] w fun e w' => e = .returned (.bool (decide (In k 4 8))) ∧ w' = w := by
  go_enter Tryz.func43, Tryz.ntmps43
  go_wp2_with (first | (go_at_call 19; refine (l1In_is _ _ _ _).mono ?_; rintro e w' ⟨rfl, hw'⟩; have hw' := hw'.symm; subst hw'))
  go_ret
  exact ⟨rfl, rfl⟩

theorem l7Legs_is (k : Int) (w : World) : Calls Tryz.prog 44 #[.int .i64 k] w fun e w' => e = .returned (.bool (decide (HasLegs k))) ∧ w' = w := by
  obtain ⟨c, hc⟩ : ∃ c, c = decide (HasLegs k) := ⟨_, rfl⟩
  rw [← hc]
  have HC : Hid (c = decide (HasLegs k)) := hc
  clear hc
  by_cases h1 : k = 1
  · have HR : Hid (c = true) := by rw [HC.out]; exact decide_eq_true (.inl h1)
    subst h1
    go_enter Tryz.func44, Tryz.ntmps44
    go_wp2
    go_ret
    exact ⟨by rw [HR.out]; rfl, rfl⟩
  · have e1 : (k == 1) = false := by simpa using h1
    by_cases h2 : k = 2
    · have HR : Hid (c = true) := by rw [HC.out]; exact decide_eq_true (.inr (.inl h2))
      subst h2
      go_enter Tryz.func44, Tryz.ntmps44
      go_wp2
      go_ret
      exact ⟨by rw [HR.out]; rfl, rfl⟩
    · have e2 : (k == 2) = false := by simpa using h2
      by_cases h3 : k = 3
      · have HR : Hid (c = true) := by rw [HC.out]; exact decide_eq_true (.inr (.inr (.inl h3)))
        subst h3
        go_enter Tryz.func44, Tryz.ntmps44
        go_wp2
        go_ret
        exact ⟨by rw [HR.out]; rfl, rfl⟩
      · have e3 : (k == 3) = false := by simpa using h3
        by_cases h5 : k = 5
        · have HR : Hid (c = true) := by rw [HC.out]; exact decide_eq_true (.inr (.inr (.inr h5)))
          subst h5
          go_enter Tryz.func44, Tryz.ntmps44
          go_wp2
          go_ret
          exact ⟨by rw [HR.out]; rfl, rfl⟩
        · have e5 : (k == 5) = false := by simpa using h5
          have HR : Hid (c = false) := by rw [HC.out]; exact decide_eq_false (fun h => by rcases h with h | h | h | h; exact h1 h; exact h2 h; exact h3 h; exact h5 h)
          clear h1 h2 h3 h5
          go_enter Tryz.func44, Tryz.ntmps44
          go_wp2
          go_ret
          exact ⟨by rw [HR.out]; rfl, rfl⟩

end Go.Proofs.YtfallpinmhbemaaGreatDoor

namespace Go.Proofs.YtfallpinmhbemaaGreatDoor
open Go.RowKit

def noOpD (x : Int) : OpD := ⟨x, ⟨#[]⟩, 0, 0, fun _ => 0, 0, 0, 0, 0, false, 0, 0, 0⟩
/-- What the drawing of an operation answers. -/
def DrewOp (w : World) (cb : Nat) (ao : Option Addr) (n c a : Nat) (e : Ending) (w' : World) : Prop :=
  (∃ (y : OpD) (ag : Option Addr) (cg : Nat), e = .returned (.agg (opCells y (.slice ag y.lgn cg))) ∧ y.own.size ≤ 10 ∧ y.lgn ≤ 7 ∧ w'.ownsRow w.heap.size 3 1 (.slice ag y.lgn cg) y.lgn (intList y.lg y.lgn)) ∧ CurIs w' cb ao n c (a + 300) ∧ Kept w w' (fun b => b = cb)

theorem own_form' {w : World} {base e size n m c : Nat} {ao : Option Addr} {xs : List Value} (h : w.ownsRow base e size (.slice ao m c) n xs) : ao = none → m = 0 ∧ c = 0 := by
  intro e0
  rcases h.2 with ⟨h1, _⟩ | ⟨g, cap, cur, h1, _⟩
  · cases h1; exact ⟨rfl, rfl⟩
  · cases h1; cases e0
theorem intList_3 (F : Nat → Int) (m : Nat) : intList (putI (putI (putI F m 1) (m + 1) 1) (m + 2) 1) (m + 3) = intList F m ++ [.int .i64 1, .int .i64 1, .int .i64 1] := by
  rw [intList_putI, intList_putI, intList_putI]
  simp
theorem own_lit1 {u : World} {base : Nat} (h : base ≤ u.heap.size) (x : Int) : (u.alloc (.cells #[.int .i64 x] 3)).ownsRow base 3 1 (.slice (some ⟨u.heap.size, 0, none⟩) 1 1) 1 (intList (fun _ => x) 1) :=
  ⟨rfl, .inr ⟨u.heap.size, 1, #[.int .i64 x], rfl, h, heap_alloc_new u _, Nat.le_refl _, by decide, rfl, rfl⟩⟩

set_option maxHeartbeats 25600000 in
set_option maxRecDepth 100000 in
theorem op_any (cb : Nat) (ao : Option Addr) (n c a : Nat) (asl al ab : Option Addr) (N cs M cl R cbk : Nat) (S : Nat → Sail) (w : World) (ha : a ≤ 600000000000000000) (hN : N ≤ 1000) (hR : R ≤ 1000) (h : CurIs w cb ao n c a) (hz : ∀ u, Kept w u (fun b => b = cb) → SailsAt u asl N S) :
    Calls Tryz.prog 29 #[.pointer (some ⟨cb, 0, none⟩), .agg #[.slice asl N cs, .slice al M cl, .slice ab R cbk]] w fun e w' => DrewOp w cb ao n c a e w' := by
  have HZ : Hid (∀ u, Kept w u (fun b => b = cb) → SailsAt u asl N S) := hz
  have hcb := h.lt
  have HL : Hid (LowCode w ao n) := h.code_lt
  clear hz
  have hb0 : Below w.heap.size w ((w.alloc (.cells #[.slice asl N cs, .slice al M cl, .slice ab R cbk] 66)).alloc (.cells #[.int .i64 0, .string ⟨#[]⟩, .int .i64 0, .slice none 0 0, .int .i64 0, .int .i64 0, .int .i64 0, .int .i64 0, .bool false, .int .i64 0, .int .i64 0, .int .i64 0] 27)) := push (push (Below.refl _ _) _) _
  have bO := blk_alloc (heap_alloc_new w (.cells #[.slice asl N cs, .slice al M cl, .slice ab R cbk] 66)) (.cells #[.int .i64 0, .string ⟨#[]⟩, .int .i64 0, .slice none 0 0, .int .i64 0, .int .i64 0, .int .i64 0, .int .i64 0, .bool false, .int .i64 0, .int .i64 0, .int .i64 0] 27)
  have bR := new2 w (.cells #[.slice asl N cs, .slice al M cl, .slice ab R cbk] 66) (.cells #[.int .i64 0, .string ⟨#[]⟩, .int .i64 0, .slice none 0 0, .int .i64 0, .int .i64 0, .int .i64 0, .int .i64 0, .bool false, .int .i64 0, .int .i64 0, .int .i64 0] 27)
  have hs0 : ((w.alloc (.cells #[.slice asl N cs, .slice al M cl, .slice ab R cbk] 66)).alloc (.cells #[.int .i64 0, .string ⟨#[]⟩, .int .i64 0, .slice none 0 0, .int .i64 0, .int .i64 0, .int .i64 0, .int .i64 0, .bool false, .int .i64 0, .int .i64 0, .int .i64 0] 27)).heap.size = w.heap.size + 1 + 1 := by simp
  go_enter Tryz.func29, Tryz.ntmps29
  go_wp2_with fail
  generalize ((w.alloc (.cells #[.slice asl N cs, .slice al M cl, .slice ab R cbk] 66)).alloc (.cells #[.int .i64 0, .string ⟨#[]⟩, .int .i64 0, .slice none 0 0, .int .i64 0, .int .i64 0, .int .i64 0, .int .i64 0, .bool false, .int .i64 0, .int .i64 0, .int .i64 0] 27)) = V at hb0 bO bR hs0 ⊢
  have hp1 : Below V.heap.size V (V.alloc (.cells ([1, 2, 2, 3, 3, 3, 3, 4, 5, 5, 6, 7, 8, 9].map (fun x => Value.int .i64 x)).toArray 3)) := push (Below.refl _ _) _
  have bL : (V.alloc (.cells ([1, 2, 2, 3, 3, 3, 3, 4, 5, 5, 6, 7, 8, 9].map (fun x => Value.int .i64 x)).toArray 3)).heap[w.heap.size + 1 + 1]? = some (.cells ([1, 2, 2, 3, 3, 3, 3, 4, 5, 5, 6, 7, 8, 9].map (fun x => Value.int .i64 x)).toArray 3 (0, 0)) := hs0 ▸ heap_alloc_new V _
  refine (amongL cb ao n c a 14 [1, 2, 2, 3, 3, 3, 3, 4, 5, 5, 6, 7, 8, 9] _ rfl (by omega) (by omega) (by omega) ((h.below hb0).below hp1) _ bL (by omega)).mono ?_
  rintro e w1 ⟨⟨x, rfl⟩, hc1, hk1⟩
  have bO1 := hk1.blk (blk_below bO hp1) (by omega)
  have bR1 := hk1.blk (blk_below bR hp1) (by omega)
  have hs1 := hk1.size
  have hK1 : Kept w w1 (fun b => b = cb) := (Kept.of_below (after hb0 hp1)).trans hk1
  have hs2 : w.heap.size + 1 < w1.heap.size := by simp at hs1; omega
  have hW1 : OSit w (w1.alloc (.cells #[.int .i64 x, .string ⟨#[]⟩, .int .i64 0, .slice none 0 0, .int .i64 0, .int .i64 0, .int .i64 0, .int .i64 0, .bool false, .int .i64 0, .int .i64 0, .int .i64 0] 27)) cb ao n c (a + 2) w1.heap.size (.slice asl N cs) (.slice al M cl) (.slice ab R cbk) (noOpD x) (.slice none 0 0) :=
    ⟨hc1.below (push (Below.refl _ _) _), hK1.trans (Kept.of_below (push (Below.refl _ _) _)), hs2, blk_alloc bO1 _, blk_alloc bR1 _, heap_alloc_new _ _, ⟨rfl, .inl ⟨rfl, rfl⟩⟩⟩
  clear hp1 bL hb0 bO bR hs0 hc1 hk1 bO1 bR1 hs1 hK1 h hs2
  go_wp2_with fail
  generalize w1.alloc (.cells #[.int .i64 x, .string ⟨#[]⟩, .int .i64 0, .slice none 0 0, .int .i64 0, .int .i64 0, .int .i64 0, .int .i64 0, .bool false, .int .i64 0, .int .i64 0, .int .i64 0] 27) = u0 at hW1 ⊢
  generalize w1.heap.size = pb at hW1 ⊢
  have HP : Hid (OSit w u0 cb ao n c (a + 2) pb (.slice asl N cs) (.slice al M cl) (.slice ab R cbk) (noOpD x) (.slice none 0 0)) := hW1
  clear hW1
  refine (l7Legs_is _ _).mono ?_
  rintro e w' ⟨rfl, hw'⟩
  have hw' := hw'.symm
  subst hw'
  go_upto_if 12 with fail
  go_cut [] (fun wx => ∃ (y : OpD) (ag : Option Addr) (cg : Nat), y.own.size ≤ 10 ∧ y.lgn ≤ 4 ∧ Hid (OSit w wx cb ao n c (a + 120) pb (.slice asl N cs) (.slice al M cl) (.slice ab R cbk) y (.slice ag y.lgn cg)))
  case first =>
    by_cases hl : HasLegs x
    · have d1 : decide (HasLegs x) = true := decide_eq_true hl
      have o0 := blk_cell HP.out.off 0 _ rfl
      go_wp2_with fail
      refine (legsIn_any cb ao n c (a + 2) asl N cs S u0 (by omega) hN HP.out.cur (fun u hu => HZ.out u (HP.out.kept.trans hu))).mono ?_
      rintro e u1 ⟨⟨v, k, F, hk4, rfl, ho⟩, hcN, hkN⟩
      obtain ⟨av, cv, rfl, _, _, _⟩ := own_form ho
      have HP1 : Hid (OSit w u1 cb ao n c (a + 2 + 60) pb (.slice asl N cs) (.slice al M cl) (.slice ab R cbk) (noOpD x) (.slice none 0 0)) := HP.out.on hcb hcN hkN
      have HO1 : Hid (u1.ownsRow w.heap.size 3 1 (.slice av k cv) k (intList F k)) := own_base ho HP.out.kept.size
      clear HP hcN hkN ho o0
      have g3 := blk_cell HP1.out.box 3 _ rfl
      have f3 := blk_free HP1.out.box 3
      go_wp2_with fail
      have HP2 : Hid (OSit w (u1.setCell ⟨pb, 3, none⟩ (.slice av k cv)) cb ao n c (a + 2 + 60) pb (.slice asl N cs) (.slice al M cl) (.slice ab R cbk) { noOpD x with lgn := k, lg := F } (.slice av k cv)) := HP1.out.put3 hcb HL.out _ k F HO1.out
      generalize u1.setCell ⟨pb, 3, none⟩ (.slice av k cv) = u2 at HP2 ⊢
      clear g3 f3 HP1 HO1
      refine (party_any cb ao n c (a + 2 + 60) u2 (by omega) HP2.out.cur).mono ?_
      rintro e u3 ⟨⟨x0, x1, x2, x3, x4, x5, rfl⟩, hcN, hkN⟩
      have HP3 : Hid (OSit w u3 cb ao n c (a + 2 + 60 + 40) pb (.slice asl N cs) (.slice al M cl) (.slice ab R cbk) { noOpD x with lgn := k, lg := F } (.slice av k cv)) := HP2.out.on hcb hcN hkN
      clear HP2 hcN hkN
      have g4 := blk_cell HP3.out.box 4 _ rfl
      have f4 := blk_free HP3.out.box 4
      have g5 := blk_cell HP3.out.box 5 _ rfl
      have f5 := blk_free HP3.out.box 5
      have g6 := blk_cell HP3.out.box 6 _ rfl
      have f6 := blk_free HP3.out.box 6
      have g7 := blk_cell HP3.out.box 7 _ rfl
      have f7 := blk_free HP3.out.box 7
      have g8 := blk_cell HP3.out.box 8 _ rfl
      have f8 := blk_free HP3.out.box 8
      have g9 := blk_cell HP3.out.box 9 _ rfl
      have f9 := blk_free HP3.out.box 9
      go_wp2
      go_meet
      exact ⟨{ noOpD x with lgn := k, lg := F, pe := x0, len := x1, hei := x2, cl := x3, all := x4, be := x5 }, av, cv, Nat.zero_le _, hk4, (HP3.out.putP hcb HL.out x0 x1 x2 x3 x4 x5).more (by omega)⟩
    · have d1 : decide (HasLegs x) = false := decide_eq_false hl
      go_wp2
      go_meet
      exact ⟨noOpD x, none, 0, Nat.zero_le _, Nat.zero_le _, HP.out.more (by omega)⟩
  case rest =>
    obtain ⟨y, ag, cg, hy1, hy2, HPa⟩ := hcut
    clear HP
    have g0 : wc.cell? ⟨pb, 0, none⟩ = some (.int .i64 y.kind) := blk_cell HPa.out.box 0 _ rfl
    go_wp2_with fail
    refine (l7Named_is _ _).mono ?_
    rintro e w' ⟨rfl, hw'⟩
    have hw' := hw'.symm
    subst hw'
    go_upto_if 23 with fail
    clear g0
    go_cut [] (fun wx => ∃ (y : OpD) (ag : Option Addr) (cg : Nat), y.own.size ≤ 10 ∧ y.lgn ≤ 4 ∧ Hid (OSit w wx cb ao n c (a + 130) pb (.slice asl N cs) (.slice al M cl) (.slice ab R cbk) y (.slice ag y.lgn cg)))
    case first =>
      by_cases hn4 : In y.kind 4 8
      · have d1 : decide (In y.kind 4 8) = true := decide_eq_true hn4
        have o2 := blk_cell HPa.out.off 2 _ rfl
        have wR : IntKind.i64.wrap ((R : Int) + 1) = ((R + 1 : Nat) : Int) := by rw [IntKind.wrap_i64]; omega
        go_wp2_with fail
        refine (pick_any cb ao n c (a + 120) (R + 1) _ (by omega) (by omega) (by omega) HPa.out.cur).mono ?_
        rintro e u1 ⟨⟨r, rfl, hr⟩, hcN, hkN⟩
        have HP1 : Hid (OSit w u1 cb ao n c (a + 120 + 2) pb (.slice asl N cs) (.slice al M cl) (.slice ab R cbk) y (.slice ag y.lgn cg)) := HPa.out.on hcb hcN hkN
        clear HPa hcN hkN
        have wr1 : IntKind.i64.wrap (1 + (r : Int)) = 1 + (r : Int) := by rw [IntKind.wrap_i64]; omega
        clear o2
        have g2 := blk_cell HP1.out.box 2 _ rfl
        have f2 := blk_free HP1.out.box 2
        go_wp2_with fail
        have HP2 : Hid (OSit w (u1.setCell ⟨pb, 2, none⟩ (.int .i64 (1 + (r : Int)))) cb ao n c (a + 120 + 2) pb (.slice asl N cs) (.slice al M cl) (.slice ab R cbk) { y with name := 1 + (r : Int) } (.slice ag y.lgn cg)) := HP1.out.put2 hcb HL.out _
        generalize u1.setCell ⟨pb, 2, none⟩ (.int .i64 (1 + (r : Int))) = u2 at HP2 ⊢
        clear g2 f2 HP1 wr1
        refine (one_any cb ao n c (a + 120 + 2) 20 _ (by omega) (by omega) (by omega) HP2.out.cur).mono ?_
        rintro e u3 ⟨⟨tb, rfl⟩, hcN, hkN⟩
        have HP3 : Hid (OSit w u3 cb ao n c (a + 120 + 2 + 2) pb (.slice asl N cs) (.slice al M cl) (.slice ab R cbk) { y with name := 1 + (r : Int) } (.slice ag y.lgn cg)) := HP2.out.on hcb hcN hkN
        clear HP2 hcN hkN
        cases tb with
        | false =>
          go_wp2
          go_meet
          exact ⟨{ y with name := 1 + (r : Int) }, ag, cg, hy1, hy2, HP3.out.more (by omega)⟩
        | true =>
          go_wp2_with fail
          have HB : Hid (OSit w (u3.alloc (.cells ([0, 30, 31].map (fun x => Value.int .i64 x)).toArray 3)) cb ao n c (a + 120 + 2 + 2) pb (.slice asl N cs) (.slice al M cl) (.slice ab R cbk) { y with name := 1 + (r : Int) } (.slice ag y.lgn cg)) := HP3.out.below (push (Below.refl _ _) _)
          have hlt := HP3.out.cur.lt
          refine (amongL cb ao n c (a + 120 + 2 + 2) 3 [0, 30, 31] _ rfl (by omega) (by omega) (by omega) HB.out.cur u3.heap.size (heap_alloc_new u3 _) (by omega)).mono ?_
          rintro e u4 ⟨⟨q, rfl⟩, hcN, hkN⟩
          have HP4 : Hid (OSit w u4 cb ao n c (a + 120 + 2 + 2 + 2) pb (.slice asl N cs) (.slice al M cl) (.slice ab R cbk) { y with name := 1 + (r : Int) } (.slice ag y.lgn cg)) := HB.out.on hcb hcN hkN
          clear HB hcN hkN hlt HP3
          have g2 := blk_cell HP4.out.box 2 _ rfl
          have f2 := blk_free HP4.out.box 2
          go_wp2
          go_meet
          exact ⟨{ y with name := q }, ag, cg, hy1, hy2, (HP4.out.put2 hcb HL.out q).more (by omega)⟩
      · have d1 : decide (In y.kind 4 8) = false := decide_eq_false hn4
        go_wp2
        go_meet
        exact ⟨y, ag, cg, hy1, hy2, HPa.out.more (by omega)⟩
    case rest =>
      obtain ⟨y, ag, cg, hy1, hy2, HPb⟩ := hcut
      clear HPa
      have g0 : wc.cell? ⟨pb, 0, none⟩ = some (.int .i64 y.kind) := blk_cell HPb.out.box 0 _ rfl
      go_upto_block 0 with fail
      go_cut [] (fun wx => ∃ (y : OpD) (ag : Option Addr) (cg : Nat), y.own.size ≤ 10 ∧ y.lgn ≤ 4 ∧ Hid (OSit w wx cb ao n c (a + 140) pb (.slice asl N cs) (.slice al M cl) (.slice ab R cbk) y (.slice ag y.lgn cg)))
      case first =>
        by_cases c2 : y.kind = 2
        · have d2 : (y.kind == 2) = true := by simpa using c2
          clear c2
          go_wp2_with fail
          have HB : Hid (OSit w (wc.alloc (.cells (([⟨#[65, 110, 110]⟩, ⟨#[66, 111]⟩] : List ByteArray).map Value.string).toArray 9)) cb ao n c (a + 130) pb (.slice asl N cs) (.slice al M cl) (.slice ab R cbk) y (.slice ag y.lgn cg)) := HPb.out.below (push (Below.refl _ _) _)
          have hlt := HPb.out.cur.lt
          refine (ofL cb ao n c (a + 130) 2 [⟨#[65, 110, 110]⟩, ⟨#[66, 111]⟩] _ rfl (by omega) (by omega) (by omega) HB.out.cur wc.heap.size (heap_alloc_new wc _) (by omega)).mono ?_
          rintro e u1 ⟨⟨s, rfl, hms⟩, hcN, hkN⟩
          have HP1 : Hid (OSit w u1 cb ao n c (a + 130 + 2) pb (.slice asl N cs) (.slice al M cl) (.slice ab R cbk) y (.slice ag y.lgn cg)) := HB.out.on hcb hcN hkN
          clear HB hcN hkN hlt HPb
          have hzs : s.size ≤ 10 := by
            have h1 := hms.out
            simp only [List.mem_cons, List.not_mem_nil, or_false] at h1
            rcases h1 with rfl | rfl <;> decide
          clear hms
          have g1 := blk_cell HP1.out.box 1 _ rfl
          have f1 := blk_free HP1.out.box 1
          go_wp2_with fail
          have HP2 : Hid (OSit w (u1.setCell ⟨pb, 1, none⟩ (.string s)) cb ao n c (a + 130 + 2) pb (.slice asl N cs) (.slice al M cl) (.slice ab R cbk) { y with own := s } (.slice ag y.lgn cg)) := HP1.out.put1 hcb HL.out _
          generalize u1.setCell ⟨pb, 1, none⟩ (.string s) = u2 at HP2 ⊢
          clear g1 f1 HP1
          refine (pick_any cb ao n c (a + 130 + 2) 50 _ (by omega) (by omega) (by omega) HP2.out.cur).mono ?_
          rintro e u3 ⟨⟨r, rfl, hr⟩, hcN, hkN⟩
          have HP3 : Hid (OSit w u3 cb ao n c (a + 130 + 2 + 2) pb (.slice asl N cs) (.slice al M cl) (.slice ab R cbk) { y with own := s } (.slice ag y.lgn cg)) := HP2.out.on hcb hcN hkN
          clear HP2 hcN hkN
          have g10 := blk_cell HP3.out.box 10 _ rfl
          have f10 := blk_free HP3.out.box 10
          go_wp2
          go_meet
          exact ⟨{ y with own := s, unt := r }, ag, cg, hzs, hy2, (HP3.out.put10 hcb HL.out _).more (by omega)⟩

        · have d2 : (y.kind == 2) = false := by simpa using c2
          by_cases c3 : y.kind = 3
          · have d3 : (y.kind == 3) = true := by simpa using c3
            clear c3
            go_wp2_with fail
            have HB : Hid (OSit w (wc.alloc (.cells (([⟨#[65, 110, 110]⟩, ⟨#[66, 111]⟩, ⟨#[67, 121]⟩] : List ByteArray).map Value.string).toArray 9)) cb ao n c (a + 130) pb (.slice asl N cs) (.slice al M cl) (.slice ab R cbk) y (.slice ag y.lgn cg)) := HPb.out.below (push (Below.refl _ _) _)
            have hlt := HPb.out.cur.lt
            refine (ofL cb ao n c (a + 130) 3 [⟨#[65, 110, 110]⟩, ⟨#[66, 111]⟩, ⟨#[67, 121]⟩] _ rfl (by omega) (by omega) (by omega) HB.out.cur wc.heap.size (heap_alloc_new wc _) (by omega)).mono ?_
            rintro e u1 ⟨⟨s, rfl, hms⟩, hcN, hkN⟩
            have HP1 : Hid (OSit w u1 cb ao n c (a + 130 + 2) pb (.slice asl N cs) (.slice al M cl) (.slice ab R cbk) y (.slice ag y.lgn cg)) := HB.out.on hcb hcN hkN
            clear HB hcN hkN hlt HPb
            have hzs : s.size ≤ 10 := by
              have h1 := hms.out
              simp only [List.mem_cons, List.not_mem_nil, or_false] at h1
              rcases h1 with rfl | rfl | rfl <;> decide
            clear hms
            have g1 := blk_cell HP1.out.box 1 _ rfl
            have f1 := blk_free HP1.out.box 1
            go_wp2
            go_meet
            exact ⟨{ y with own := s }, ag, cg, hzs, hy2, (HP1.out.put1 hcb HL.out _).more (by omega)⟩

          · have d3 : (y.kind == 3) = false := by simpa using c3
            by_cases c7 : y.kind = 7
            · have d7 : (y.kind == 7) = true := by simpa using c7
              clear c7
              go_wp2_with fail
              have HB : Hid (OSit w (wc.alloc (.cells (([⟨#[65, 110, 110]⟩, ⟨#[66, 111]⟩, ⟨#[67, 121]⟩] : List ByteArray).map Value.string).toArray 9)) cb ao n c (a + 130) pb (.slice asl N cs) (.slice al M cl) (.slice ab R cbk) y (.slice ag y.lgn cg)) := HPb.out.below (push (Below.refl _ _) _)
              have hlt := HPb.out.cur.lt
              refine (ofL cb ao n c (a + 130) 3 [⟨#[65, 110, 110]⟩, ⟨#[66, 111]⟩, ⟨#[67, 121]⟩] _ rfl (by omega) (by omega) (by omega) HB.out.cur wc.heap.size (heap_alloc_new wc _) (by omega)).mono ?_
              rintro e u1 ⟨⟨s, rfl, hms⟩, hcN, hkN⟩
              have HP1 : Hid (OSit w u1 cb ao n c (a + 130 + 2) pb (.slice asl N cs) (.slice al M cl) (.slice ab R cbk) y (.slice ag y.lgn cg)) := HB.out.on hcb hcN hkN
              clear HB hcN hkN hlt HPb
              have hzs : s.size ≤ 10 := by
                have h1 := hms.out
                simp only [List.mem_cons, List.not_mem_nil, or_false] at h1
                rcases h1 with rfl | rfl | rfl <;> decide
              clear hms
              have g1 := blk_cell HP1.out.box 1 _ rfl
              have f1 := blk_free HP1.out.box 1
              go_wp2
              go_meet
              exact ⟨{ y with own := s }, ag, cg, hzs, hy2, (HP1.out.put1 hcb HL.out _).more (by omega)⟩

            · have d7 : (y.kind == 7) = false := by simpa using c7
              by_cases c8 : y.kind = 8
              · have d8 : (y.kind == 8) = true := by simpa using c8
                clear c8
                go_wp2_with fail
                refine (pick_any cb ao n c (a + 130) 80 _ (by omega) (by omega) (by omega) HPb.out.cur).mono ?_
                rintro e u1 ⟨⟨r, rfl, hr⟩, hcN, hkN⟩
                have HP1 : Hid (OSit w u1 cb ao n c (a + 130 + 2) pb (.slice asl N cs) (.slice al M cl) (.slice ab R cbk) y (.slice ag y.lgn cg)) := HPb.out.on hcb hcN hkN
                clear HPb hcN hkN
                have g11 := blk_cell HP1.out.box 11 _ rfl
                have f11 := blk_free HP1.out.box 11
                go_wp2
                go_meet
                exact ⟨{ y with now := r }, ag, cg, hy1, hy2, (HP1.out.put11 hcb HL.out _).more (by omega)⟩

              · have d8 : (y.kind == 8) = false := by simpa using c8
                by_cases c6 : y.kind = 6
                · have d6 : (y.kind == 6) = true := by simpa using c6
                  clear c6
                  go_wp2_with fail
                  refine (pick_any cb ao n c (a + 130) 80 _ (by omega) (by omega) (by omega) HPb.out.cur).mono ?_
                  rintro e u1 ⟨⟨r, rfl, hr⟩, hcN, hkN⟩
                  have HP1 : Hid (OSit w u1 cb ao n c (a + 130 + 2) pb (.slice asl N cs) (.slice al M cl) (.slice ab R cbk) y (.slice ag y.lgn cg)) := HPb.out.on hcb hcN hkN
                  clear HPb hcN hkN
                  have g11 := blk_cell HP1.out.box 11 _ rfl
                  have f11 := blk_free HP1.out.box 11
                  go_wp2
                  go_meet
                  exact ⟨{ y with now := r }, ag, cg, hy1, hy2, (HP1.out.put11 hcb HL.out _).more (by omega)⟩

                · have d6 : (y.kind == 6) = false := by simpa using c6
                  by_cases c9 : y.kind = 9
                  · have d9 : (y.kind == 9) = true := by simpa using c9
                    clear c9
                    have HB : Hid (OSit w (wc.alloc (.cells #[.int .i64 1] 3)) cb ao n c (a + 130) pb (.slice asl N cs) (.slice al M cl) (.slice ab R cbk) y (.slice ag y.lgn cg)) := HPb.out.below (push (Below.refl _ _) _)
                    have hw9 : w.heap.size ≤ wc.heap.size := HPb.out.kept.size
                    have HO : Hid ((wc.alloc (.cells #[.int .i64 1] 3)).ownsRow w.heap.size 3 1 (.slice (some ⟨wc.heap.size, 0, none⟩) 1 1) 1 (intList (fun _ => 1) 1)) := own_lit1 hw9 1
                    clear HPb
                    have g3 := blk_cell HB.out.box 3 _ rfl
                    have f3 := blk_free HB.out.box 3
                    have o0 := blk_cell HB.out.off 0 _ rfl
                    go_upto_region 21 with fail
                    have HP1 : Hid (OSit w ((wc.alloc (.cells #[.int .i64 1] 3)).setCell ⟨pb, 3, none⟩ (.slice (some ⟨wc.heap.size, 0, none⟩) 1 1)) cb ao n c (a + 130) pb (.slice asl N cs) (.slice al M cl) (.slice ab R cbk) { y with lgn := 1, lg := fun _ => 1 } (.slice (some ⟨wc.heap.size, 0, none⟩) 1 1)) := HB.out.put3 hcb HL.out _ 1 (fun _ => 1) HO.out
                    generalize (wc.alloc (.cells #[.int .i64 1] 3)).setCell ⟨pb, 3, none⟩ (.slice (some ⟨wc.heap.size, 0, none⟩) 1 1) = u1 at HP1 ⊢
                    generalize wc.heap.size = gl at HP1 ⊢
                    clear g3 f3 HB HO o0 g0
                    have o0 := blk_cell HP1.out.off 0 _ rfl
                    by_cases hN0 : 0 < N
                    · have i0 : (0 : Int) < (N : Int) := by omega
                      go_wp2_with fail
                      refine (one_any cb ao n c (a + 130) 8 _ (by omega) (by omega) (by omega) HP1.out.cur).mono ?_
                      rintro e u2 ⟨⟨tb, rfl⟩, hcN, hkN⟩
                      have HP2 : Hid (OSit w u2 cb ao n c (a + 130 + 2) pb (.slice asl N cs) (.slice al M cl) (.slice ab R cbk) { y with lgn := 1, lg := fun _ => 1 } (.slice (some ⟨gl, 0, none⟩) 1 1)) := HP1.out.on hcb hcN hkN
                      clear HP1 hcN hkN
                      cases tb with
                      | true =>
                        go_wp2
                        go_meet
                        exact ⟨{ y with lgn := 1, lg := fun _ => 1 }, some ⟨gl, 0, none⟩, 1, hy1, (show 1 ≤ 4 by decide), HP2.out.more (by omega)⟩
                      | false =>
                        clear o0
                        have o0 := blk_cell HP2.out.off 0 _ rfl
                        have hwN : IntKind.i64.wrap (N : Int) = (N : Int) := by rw [IntKind.wrap_i64]; omega
                        have HD : Hid (OSit w u2.drew cb ao n c (a + 130 + 2) pb (.slice asl N cs) (.slice al M cl) (.slice ab R cbk) { y with lgn := 1, lg := fun _ => 1 } (.slice (some ⟨gl, 0, none⟩) 1 1)) := HP2.out.below (Below.refl _ _).drew
                        have o0' := blk_cell HD.out.off 0 _ rfl
                        go_upto_region 22 with fail
                        go_region_with (first | (go_at_call 59; refine Calls.mono (pick_any cb ao n c (a + 130 + 2) N _ (by omega) (by omega) (by omega) HD.out.cur) ?_; rintro e u3 ⟨⟨r, rfl, hr⟩, hcN, hkN⟩; have HP3 : Hid (OSit w u3 cb ao n c (a + 130 + 2 + 2) pb (.slice asl N cs) (.slice al M cl) (.slice ab R cbk) { y with lgn := 1, lg := fun _ => 1 } (.slice (some ⟨gl, 0, none⟩) 1 1)) := HD.out.on hcb hcN hkN; obtain ⟨sb0, so, la, lc, ca, cc, he, s0, _⟩ := HZ.out u3 HP3.out.kept r hr; subst he; have j1 : (r : Int) < (N : Int) := (by omega); have o3 := blk_cell HP3.out.off 0 _ rfl; have HP4 : Hid (OSit w (u3.alloc (.cells #[.int .i64 (S r).id] 3)) cb ao n c (a + 130 + 2 + 2) pb _ (.slice al M cl) (.slice ab R cbk) { y with lgn := 1, lg := fun _ => 1 } (.slice (some ⟨gl, 0, none⟩) 1 1)) := HP3.out.below (push (Below.refl _ _) _); have g3 := blk_cell HP4.out.box 3 _ rfl; have f3 := blk_free HP4.out.box 3; clear hcN hkN))
                        all_goals go_wp2
                        all_goals go_meet
                        all_goals exact ⟨{ y with lgn := 1, lg := fun _ => (S r).id }, some ⟨u3.heap.size, 0, none⟩, 1, hy1, (show 1 ≤ 4 by decide), (HP4.out.put3 hcb HL.out _ 1 (fun _ => (S r).id) (own_lit1 HP3.out.kept.size _)).more (by omega)⟩
                    · have i0 : ¬ (0 : Int) < (N : Int) := by omega
                      go_wp2
                      go_meet
                      exact ⟨{ y with lgn := 1, lg := fun _ => 1 }, some ⟨gl, 0, none⟩, 1, hy1, (show 1 ≤ 4 by decide), HP1.out.more (by omega)⟩

                  · have d9 : (y.kind == 9) = false := by simpa using c9
                    go_wp2
                    go_meet
                    exact ⟨y, ag, cg, hy1, hy2, HPb.out.more (by omega)⟩
      case rest =>
        obtain ⟨y, ag, cg, hy1, hy2, HPc⟩ := hcut
        clear HPb g0
        go_wp2_with fail
        refine (pick_any cb ao n c (a + 140) 80 _ (by omega) (by omega) (by omega) HPc.out.cur).mono ?_
        rintro e ud ⟨⟨r6, rfl, hr6⟩, hcN, hkN⟩
        have HPd : Hid (OSit w ud cb ao n c (a + 140 + 2) pb (.slice asl N cs) (.slice al M cl) (.slice ab R cbk) y (.slice ag y.lgn cg)) := HPc.out.on hcb hcN hkN
        clear HPc hcN hkN
        go_upto_block 1 with fail
        go_cut [] (fun wx => ∃ (y : OpD) (ag : Option Addr) (cg : Nat), y.own.size ≤ 10 ∧ y.lgn ≤ 7 ∧ Hid (OSit w wx cb ao n c (a + 300) pb (.slice asl N cs) (.slice al M cl) (.slice ab R cbk) y (.slice ag y.lgn cg)))
        case first =>
          by_cases c0 : r6 = 0
          · subst c0
            go_wp2_with fail
            have HB : Hid (OSit w (ud.alloc (.cells ([0, 10].map (fun x => Value.int .i64 x)).toArray 3)) cb ao n c (a + 140 + 2) pb (.slice asl N cs) (.slice al M cl) (.slice ab R cbk) y (.slice ag y.lgn cg)) := HPd.out.below (push (Below.refl _ _) _)
            have hlt := HPd.out.cur.lt
            refine (amongL cb ao n c (a + 140 + 2) 2 [0, 10] _ rfl (by omega) (by omega) (by omega) HB.out.cur ud.heap.size (heap_alloc_new ud _) (by omega)).mono ?_
            rintro e u1 ⟨⟨q, rfl⟩, hcN, hkN⟩
            have HP1 : Hid (OSit w u1 cb ao n c (a + 140 + 2 + 2) pb (.slice asl N cs) (.slice al M cl) (.slice ab R cbk) y (.slice ag y.lgn cg)) := HB.out.on hcb hcN hkN
            clear HB hcN hkN hlt HPd
            have g0 := blk_cell HP1.out.box 0 _ rfl
            have f0 := blk_free HP1.out.box 0
            go_wp2
            go_meet
            exact ⟨{ y with kind := q }, ag, cg, hy1, Nat.le_trans hy2 (by decide), (HP1.out.put0 hcb HL.out q).more (by omega)⟩
          · have d0 : ((r6 : Int) == 0) = false := by simpa using (show ¬ (r6 : Int) = 0 by omega)
            by_cases c1 : r6 = 1
            · subst c1
              go_wp2_with fail
              have HB : Hid (OSit w (ud.alloc (.cells (([⟨#[]⟩, ⟨#[65, 49]⟩, ⟨#[65, 110, 110]⟩] : List ByteArray).map Value.string).toArray 9)) cb ao n c (a + 140 + 2) pb (.slice asl N cs) (.slice al M cl) (.slice ab R cbk) y (.slice ag y.lgn cg)) := HPd.out.below (push (Below.refl _ _) _)
              have hlt := HPd.out.cur.lt
              refine (ofL cb ao n c (a + 140 + 2) 3 [⟨#[]⟩, ⟨#[65, 49]⟩, ⟨#[65, 110, 110]⟩] _ rfl (by omega) (by omega) (by omega) HB.out.cur ud.heap.size (heap_alloc_new ud _) (by omega)).mono ?_
              rintro e u1 ⟨⟨s, rfl, hms⟩, hcN, hkN⟩
              have HP1 : Hid (OSit w u1 cb ao n c (a + 140 + 2 + 2) pb (.slice asl N cs) (.slice al M cl) (.slice ab R cbk) y (.slice ag y.lgn cg)) := HB.out.on hcb hcN hkN
              clear HB hcN hkN hlt HPd
              have hzs : s.size ≤ 10 := by
                have h1 := hms.out
                simp only [List.mem_cons, List.not_mem_nil, or_false] at h1
                rcases h1 with rfl | rfl | rfl <;> decide
              clear hms
              have g1 := blk_cell HP1.out.box 1 _ rfl
              have f1 := blk_free HP1.out.box 1
              go_wp2
              go_meet
              exact ⟨{ y with own := s }, ag, cg, hzs, Nat.le_trans hy2 (by decide), (HP1.out.put1 hcb HL.out _).more (by omega)⟩
            · have d1 : ((r6 : Int) == 1) = false := by simpa using (show ¬ (r6 : Int) = 1 by omega)
              by_cases c2 : r6 = 2
              · subst c2
                go_wp2_with fail
                have HB : Hid (OSit w (ud.alloc (.cells ([-1, 0, 1, 10000, 10001].map (fun x => Value.int .i64 x)).toArray 3)) cb ao n c (a + 140 + 2) pb (.slice asl N cs) (.slice al M cl) (.slice ab R cbk) y (.slice ag y.lgn cg)) := HPd.out.below (push (Below.refl _ _) _)
                have hlt := HPd.out.cur.lt
                refine (amongL cb ao n c (a + 140 + 2) 5 [-1, 0, 1, 10000, 10001] _ rfl (by omega) (by omega) (by omega) HB.out.cur ud.heap.size (heap_alloc_new ud _) (by omega)).mono ?_
                rintro e u1 ⟨⟨q, rfl⟩, hcN, hkN⟩
                have HP1 : Hid (OSit w u1 cb ao n c (a + 140 + 2 + 2) pb (.slice asl N cs) (.slice al M cl) (.slice ab R cbk) y (.slice ag y.lgn cg)) := HB.out.on hcb hcN hkN
                clear HB hcN hkN hlt HPd
                have g10 := blk_cell HP1.out.box 10 _ rfl
                have f10 := blk_free HP1.out.box 10
                go_wp2
                go_meet
                exact ⟨{ y with unt := q }, ag, cg, hy1, Nat.le_trans hy2 (by decide), (HP1.out.put10 hcb HL.out q).more (by omega)⟩
              · have d2 : ((r6 : Int) == 2) = false := by simpa using (show ¬ (r6 : Int) = 2 by omega)
                by_cases c3 : r6 = 3
                · subst c3
                  go_wp2_with fail
                  have HB : Hid (OSit w (ud.alloc (.cells ([-1, 10000, 10001].map (fun x => Value.int .i64 x)).toArray 3)) cb ao n c (a + 140 + 2) pb (.slice asl N cs) (.slice al M cl) (.slice ab R cbk) y (.slice ag y.lgn cg)) := HPd.out.below (push (Below.refl _ _) _)
                  have hlt := HPd.out.cur.lt
                  refine (amongL cb ao n c (a + 140 + 2) 3 [-1, 10000, 10001] _ rfl (by omega) (by omega) (by omega) HB.out.cur ud.heap.size (heap_alloc_new ud _) (by omega)).mono ?_
                  rintro e u1 ⟨⟨q, rfl⟩, hcN, hkN⟩
                  have HP1 : Hid (OSit w u1 cb ao n c (a + 140 + 2 + 2) pb (.slice asl N cs) (.slice al M cl) (.slice ab R cbk) y (.slice ag y.lgn cg)) := HB.out.on hcb hcN hkN
                  clear HB hcN hkN hlt HPd
                  have g11 := blk_cell HP1.out.box 11 _ rfl
                  have f11 := blk_free HP1.out.box 11
                  go_wp2
                  go_meet
                  exact ⟨{ y with now := q }, ag, cg, hy1, Nat.le_trans hy2 (by decide), (HP1.out.put11 hcb HL.out q).more (by omega)⟩
                · have d3 : ((r6 : Int) == 3) = false := by simpa using (show ¬ (r6 : Int) = 3 by omega)
                  by_cases c4 : r6 = 4
                  · subst c4
                    obtain ⟨n0, ni, nz0, nz1, nz2⟩ := info_parts Tryz.infoInt
                    have ho1 : (ud.alloc (.cells #[] 3)).ownsRow ud.heap.size 3 1 (.slice (some ⟨ud.heap.size, 0, none⟩) 0 0) 0 [] := ⟨rfl, .inr ⟨ud.heap.size, 0, #[], rfl, Nat.le_refl _, heap_alloc_new ud _, Nat.le_refl _, Nat.zero_le _, rfl, rfl⟩⟩
                    have HC1 : Hid (∀ ad, ag = some ad → ∀ j u, (intList y.lg y.lgn)[j]? = some u → (ud.alloc (.cells #[] 3)).cell? (ad.add j) = some u) := ints_cellsO ((own_ints HPd.out.legs).below (push (Below.refl _ _) _))
                    have HN1 : Hid (ag = none → y.lgn = 0 ∧ cg = 0) := (own_form' HPd.out.legs)
                    have g3 : (ud.alloc (.cells #[] 3)).cell? ⟨pb, 3, none⟩ = some (.slice ag y.lgn cg) := blk_cell (blk_alloc HPd.out.box _) 3 _ rfl
                    have hw9 : w.heap.size ≤ ud.heap.size := HPd.out.kept.size
                    go_wp2_with (first | (at_builtin; refine wpList_append_any _ (by rfl) (.tmp 115) (.tmp 117) 23 (by rfl) ud.heap.size 3 n0 (.int .i64 0) 1 8 Tryz.underlying23 ni nz0 nz1 nz2 rfl (by decide) _ 0 [] (by rfl) ho1 ag y.lgn cg (intList y.lg y.lgn) (by rfl) HN1.out (by rw [intList_length, Nat.mul_one]) HC1.out (intList_one _ _) (by unfold maxLen; omega) (by omega) (by first | exact Nat.le_refl _ | (simp; done) | (simp; omega)) ?_; intro v4 w4 ho4 hg4; have hb4 : Hid (Below ud.heap.size ud w4) := (push (Below.refl ud.heap.size ud) (.cells #[] 3)).grown hg4 (by simp) (fun j hj => (ho1.lt j hj).1); rw [Nat.zero_add, List.nil_append] at ho4; clear hg4) | (at_builtin; refine wpList_append_any _ (by rfl) (.tmp 118) (.tmp 119) 23 (by rfl) ud.heap.size 3 n0 (.int .i64 0) 1 8 Tryz.underlying23 ni nz0 nz1 nz2 rfl (by decide) _ y.lgn (intList y.lg y.lgn) (by rfl) (ho4.alloc _) (some ⟨w4.heap.size, 0, none⟩) 3 3 [.int .i64 1, .int .i64 1, .int .i64 1] (by rfl) (fun h => by cases h) (by rfl) (fun ad e => by cases e; exact World.news_of_block (heap_alloc_new w4 _)) (by intro v hv; simp at hv; subst hv; rfl) (by unfold maxLen; omega) (by omega) (by have := hb4.out.size; simp; omega) ?_; intro v5 w5 ho5 hg5; have hb5 : Hid (Below ud.heap.size ud w5) := (push hb4.out (.cells #[.int .i64 1, .int .i64 1, .int .i64 1] 3)).grown hg5 (by have := hb4.out.size; simp; omega) (fun j hj => (ho4.lt j hj).1); obtain ⟨av, cv, hv5, _⟩ := own_form ho5; subst hv5; have HPf : Hid (OSit w w5 cb ao n c (a + 140 + 2) pb (.slice asl N cs) (.slice al M cl) (.slice ab R cbk) y (.slice ag y.lgn cg)) := HPd.out.below hb5.out; have g3' : w5.cell? ⟨pb, 3, none⟩ = some (.slice ag y.lgn cg) := blk_cell HPf.out.box 3 _ rfl; have f3' := blk_free HPf.out.box 3; clear hg5))
                    go_meet
                    exact ⟨{ y with lgn := y.lgn + 3, lg := putI (putI (putI y.lg y.lgn 1) (y.lgn + 1) 1) (y.lgn + 2) 1 }, av, cv, hy1, by show y.lgn + 3 ≤ 7; omega, (HPf.out.put3 hcb HL.out _ (y.lgn + 3) _ (by rw [intList_3]; exact own_base ho5 hw9)).more (by omega)⟩
                  · have d4 : ((r6 : Int) == 4) = false := by simpa using (show ¬ (r6 : Int) = 4 by omega)
                    go_wp2
                    go_meet
                    exact ⟨y, ag, cg, hy1, Nat.le_trans hy2 (by decide), HPd.out.more (by omega)⟩
        case rest =>
          obtain ⟨y, ag, cg, hy1, hy2, HPe⟩ := hcut
          clear HPd
          have k0 : wc.cell? ⟨pb, 0, none⟩ = some (.int .i64 y.kind) := blk_cell HPe.out.box 0 _ rfl
          have m0 := blk_cell HPe.out.res 0 _ rfl
          have fr0 := blk_free HPe.out.res 0
          have k1 : wc.cell? ⟨pb, 1, none⟩ = some (.string y.own) := blk_cell HPe.out.box 1 _ rfl
          have m1 := blk_cell HPe.out.res 1 _ rfl
          have fr1 := blk_free HPe.out.res 1
          have k2 : wc.cell? ⟨pb, 2, none⟩ = some (.int .i64 y.name) := blk_cell HPe.out.box 2 _ rfl
          have m2 := blk_cell HPe.out.res 2 _ rfl
          have fr2 := blk_free HPe.out.res 2
          have k3 : wc.cell? ⟨pb, 3, none⟩ = some (.slice ag y.lgn cg) := blk_cell HPe.out.box 3 _ rfl
          have m3 := blk_cell HPe.out.res 3 _ rfl
          have fr3 := blk_free HPe.out.res 3
          have k4 : wc.cell? ⟨pb, 4, none⟩ = some (.int .i64 y.pe) := blk_cell HPe.out.box 4 _ rfl
          have m4 := blk_cell HPe.out.res 4 _ rfl
          have fr4 := blk_free HPe.out.res 4
          have k5 : wc.cell? ⟨pb, 5, none⟩ = some (.int .i64 y.len) := blk_cell HPe.out.box 5 _ rfl
          have m5 := blk_cell HPe.out.res 5 _ rfl
          have fr5 := blk_free HPe.out.res 5
          have k6 : wc.cell? ⟨pb, 6, none⟩ = some (.int .i64 y.hei) := blk_cell HPe.out.box 6 _ rfl
          have m6 := blk_cell HPe.out.res 6 _ rfl
          have fr6 := blk_free HPe.out.res 6
          have k7 : wc.cell? ⟨pb, 7, none⟩ = some (.int .i64 y.cl) := blk_cell HPe.out.box 7 _ rfl
          have m7 := blk_cell HPe.out.res 7 _ rfl
          have fr7 := blk_free HPe.out.res 7
          have k8 : wc.cell? ⟨pb, 8, none⟩ = some (.bool y.all) := blk_cell HPe.out.box 8 _ rfl
          have m8 := blk_cell HPe.out.res 8 _ rfl
          have fr8 := blk_free HPe.out.res 8
          have k9 : wc.cell? ⟨pb, 9, none⟩ = some (.int .i64 y.be) := blk_cell HPe.out.box 9 _ rfl
          have m9 := blk_cell HPe.out.res 9 _ rfl
          have fr9 := blk_free HPe.out.res 9
          have k10 : wc.cell? ⟨pb, 10, none⟩ = some (.int .i64 y.unt) := blk_cell HPe.out.box 10 _ rfl
          have m10 := blk_cell HPe.out.res 10 _ rfl
          have fr10 := blk_free HPe.out.res 10
          have k11 : wc.cell? ⟨pb, 11, none⟩ = some (.int .i64 y.now) := blk_cell HPe.out.box 11 _ rfl
          have m11 := blk_cell HPe.out.res 11 _ rfl
          have fr11 := blk_free HPe.out.res 11
          go_wp2
          have HE := HPe.out.fin hcb HL.out
          clear k0 m0 fr0 k1 m1 fr1 k2 m2 fr2 k3 m3 fr3 k4 m4 fr4 k5 m5 fr5 k6 m6 fr6 k7 m7 fr7 k8 m8 fr8 k9 m9 fr9 k10 m10 fr10 k11 m11 fr11
          have z0 : (endO wc (w.heap.size + 1) y (.slice ag y.lgn cg)).cell? ⟨w.heap.size + 1, 0, none⟩ = some (.int .i64 y.kind) := blk_cell HE.2.2.1 0 _ rfl
          have z1 : (endO wc (w.heap.size + 1) y (.slice ag y.lgn cg)).cell? ⟨w.heap.size + 1, 1, none⟩ = some (.string y.own) := blk_cell HE.2.2.1 1 _ rfl
          have z2 : (endO wc (w.heap.size + 1) y (.slice ag y.lgn cg)).cell? ⟨w.heap.size + 1, 2, none⟩ = some (.int .i64 y.name) := blk_cell HE.2.2.1 2 _ rfl
          have z3 : (endO wc (w.heap.size + 1) y (.slice ag y.lgn cg)).cell? ⟨w.heap.size + 1, 3, none⟩ = some (.slice ag y.lgn cg) := blk_cell HE.2.2.1 3 _ rfl
          have z4 : (endO wc (w.heap.size + 1) y (.slice ag y.lgn cg)).cell? ⟨w.heap.size + 1, 4, none⟩ = some (.int .i64 y.pe) := blk_cell HE.2.2.1 4 _ rfl
          have z5 : (endO wc (w.heap.size + 1) y (.slice ag y.lgn cg)).cell? ⟨w.heap.size + 1, 5, none⟩ = some (.int .i64 y.len) := blk_cell HE.2.2.1 5 _ rfl
          have z6 : (endO wc (w.heap.size + 1) y (.slice ag y.lgn cg)).cell? ⟨w.heap.size + 1, 6, none⟩ = some (.int .i64 y.hei) := blk_cell HE.2.2.1 6 _ rfl
          have z7 : (endO wc (w.heap.size + 1) y (.slice ag y.lgn cg)).cell? ⟨w.heap.size + 1, 7, none⟩ = some (.int .i64 y.cl) := blk_cell HE.2.2.1 7 _ rfl
          have z8 : (endO wc (w.heap.size + 1) y (.slice ag y.lgn cg)).cell? ⟨w.heap.size + 1, 8, none⟩ = some (.bool y.all) := blk_cell HE.2.2.1 8 _ rfl
          have z9 : (endO wc (w.heap.size + 1) y (.slice ag y.lgn cg)).cell? ⟨w.heap.size + 1, 9, none⟩ = some (.int .i64 y.be) := blk_cell HE.2.2.1 9 _ rfl
          have z10 : (endO wc (w.heap.size + 1) y (.slice ag y.lgn cg)).cell? ⟨w.heap.size + 1, 10, none⟩ = some (.int .i64 y.unt) := blk_cell HE.2.2.1 10 _ rfl
          have z11 : (endO wc (w.heap.size + 1) y (.slice ag y.lgn cg)).cell? ⟨w.heap.size + 1, 11, none⟩ = some (.int .i64 y.now) := blk_cell HE.2.2.1 11 _ rfl
          change bodyPost _ _ _ _ _ (endO wc (w.heap.size + 1) y (.slice ag y.lgn cg))
          generalize endO wc (w.heap.size + 1) y (.slice ag y.lgn cg) = wE at HE z0 z1 z2 z3 z4 z5 z6 z7 z8 z9 z10 z11 ⊢
          exact bodyPost_ret (v := .agg (opCells y (.slice ag y.lgn cg))) (by simp [results, Tryz.results29, go_sem, opCells, z0, z1, z2, z3, z4, z5, z6, z7, z8, z9, z10, z11]) rfl ⟨⟨y, ag, cg, rfl, hy1, hy2, HE.2.2.2⟩, HE.1, HE.2.1⟩

end Go.Proofs.YtfallpinmhbemaaGreatDoor
