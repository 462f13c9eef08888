/-
  OWN TEXT: KitPut7, KitOut, SpecIn.
-/
import Derived.Test.YtogbaoggebghdaaRows
import Derived.Deep.RegionHeld3
import Derived.Test.YtogbaoggebghdaaXerks03
import Derived.Test.YtogbaoggebghdaaB00
namespace Go.Proofs.Ytogbaoggebghdaa
open Go.RowKit Classical

theorem OwnClks.put7 {w : World} {base N c g k : Nat} {S : Nat → ClkD} {R : Nat → Value} (h : OwnClks w base (.slice (some ⟨g, 0, none⟩) N c) N S R) (x : ClkD) (hx : x.rwn = 0) : OwnClks (((((((w.setCell ⟨g, k * 7, none⟩ (.string x.nam)).setCell ⟨g, k * 7 + 1, none⟩ (.int .i64 x.num)).setCell ⟨g, k * 7 + 2, none⟩ (.bool x.opn)).setCell ⟨g, k * 7 + 3, none⟩ (.int .i64 x.code)).setCell ⟨g, k * 7 + 4, none⟩ (.int .i64 x.anam)).setCell ⟨g, k * 7 + 5, none⟩ (.int .i64 x.price)).setCell ⟨g, k * 7 + 6, none⟩ (.slice none 0 0)) base (.slice (some ⟨g, 0, none⟩) N c) N (putC S k x) (atV R k (.slice none 0 0)) := by
  have hk : Kept w (((((((w.setCell ⟨g, k * 7, none⟩ (.string x.nam)).setCell ⟨g, k * 7 + 1, none⟩ (.int .i64 x.num)).setCell ⟨g, k * 7 + 2, none⟩ (.bool x.opn)).setCell ⟨g, k * 7 + 3, none⟩ (.int .i64 x.code)).setCell ⟨g, k * 7 + 4, none⟩ (.int .i64 x.anam)).setCell ⟨g, k * 7 + 5, none⟩ (.int .i64 x.price)).setCell ⟨g, k * 7 + 6, none⟩ (.slice none 0 0)) (fun x => x = g) := ((((((((Kept.refl w (fun x => x = g)).set (a := ⟨g, k * 7, none⟩) rfl _).set (a := ⟨g, k * 7 + 1, none⟩) rfl _).set (a := ⟨g, k * 7 + 2, none⟩) rfl _).set (a := ⟨g, k * 7 + 3, none⟩) rfl _).set (a := ⟨g, k * 7 + 4, none⟩) rfl _).set (a := ⟨g, k * 7 + 5, none⟩) rfl _).set (a := ⟨g, k * 7 + 6, none⟩) rfl _)
  refine ⟨own_congr (own_store (own_store (own_store (own_store (own_store (own_store (own_store h.row (k * 7) (.string x.nam)) (k * 7 + 1) (.int .i64 x.num)) (k * 7 + 2) (.bool x.opn)) (k * 7 + 3) (.int .i64 x.code)) (k * 7 + 4) (.int .i64 x.anam)) (k * 7 + 5) (.int .i64 x.price)) (k * 7 + 6) (.slice none 0 0)) (fun j hj => ?_), fun i hi => ?_, fun i j hij hj b h1 h3 => ?_⟩
  · by_cases h6 : j = k * 7 + 6
    · subst h6; rw [if_pos rfl, clkCell_6, atV_at]
    rw [if_neg h6]
    by_cases h5 : j = k * 7 + 5
    · subst h5; rw [if_pos rfl, clkCell_5, putC_at]
    rw [if_neg h5]
    by_cases h4 : j = k * 7 + 4
    · subst h4; rw [if_pos rfl, clkCell_4, putC_at]
    rw [if_neg h4]
    by_cases h3 : j = k * 7 + 3
    · subst h3; rw [if_pos rfl, clkCell_3, putC_at]
    rw [if_neg h3]
    by_cases h2 : j = k * 7 + 2
    · subst h2; rw [if_pos rfl, clkCell_2, putC_at]
    rw [if_neg h2]
    by_cases h1 : j = k * 7 + 1
    · subst h1; rw [if_pos rfl, clkCell_1, putC_at]
    rw [if_neg h1]
    by_cases h0 : j = k * 7
    · subst h0; rw [if_pos rfl, clkCell_0, putC_at]
    rw [if_neg h0]
    unfold clkCell
    rw [putC_ne _ _ _ (show j / 7 ≠ k by omega), atV_ne _ _ _ _ (show j / 7 ≠ k by omega)]
  · by_cases e : i = k
    · subst e; rw [putC_at, atV_at, hx]; exact World.ownsRow_nil _ _ _ _
    · rw [putC_ne _ _ _ e, atV_ne _ _ _ _ e]
      exact hk.own (h.rows i hi) (fun q hq1 hq2 => own_apart h.row (h.rows i hi) (by decide) q (by rw [hq2]; rfl) hq1)
  · by_cases e : i = k
    · subst e; rw [atV_at] at h1; cases h1
    · by_cases e2 : j = k
      · subst e2; rw [atV_at] at h3; cases h3
      · rw [atV_ne _ _ _ _ e] at h1
        rw [atV_ne _ _ _ _ e2] at h3
        exact h.apart i j hij hj b h1 h3

end Go.Proofs.Ytogbaoggebghdaa

namespace Go.Proofs.Ytogbaoggebghdaa
open Go.RowKit Classical

/-- Clerks and an answer in memory of their own. -/
structure AskOut (w : World) (base : Nat) (v rv : Value) (N : Nat) (S : Nat → ClkD) (R : Nat → Value) (a : AnsD) : Prop where
  own : OwnClks w base v N S R
  ans : w.ownsRow base 84 5 rv a.rwn (rowList a.rw a.rwn)
  far : ∀ i, i < N → ∀ b, (R i).ownBlock = some b → rv.ownBlock ≠ some b
theorem AskOut.zero {w : World} {base b2 : Nat} {v : Value} {N : Nat} {S : Nat → ClkD} {R : Nat → Value} (h : OwnClks w base v N S R) (hb : b2 ≤ base) : AskOut w b2 v (.slice none 0 0) N S R ansZero :=
  ⟨h.lower hb, World.ownsRow_nil _ _ _ _, fun i hi b _ e => by cases e⟩

end Go.Proofs.Ytogbaoggebghdaa

namespace Go.Proofs.Ytogbaoggebghdaa
open Go.RowKit

theorem l1In_yes (x lo hi : Int) (w : World) (h1 : lo ≤ x) (h2 : x ≤ hi) :
    Calls Try.prog 46 #[.int .i64 x, .int .i64 lo, .int .i64 hi] w fun e w' => e = .returned (.bool true) ∧ w' = w := by
  have e1 : decide (lo ≤ x) = true := by simpa using h1
  have e2 : decide (x ≤ hi) = true := by simpa using h2
  go_enter Try.func46, Try.ntmps46
  go_wp2
  go_ret
  exact ⟨rfl, rfl⟩

theorem l1In_low (x lo hi : Int) (w : World) (h1 : x < lo) :
    Calls Try.prog 46 #[.int .i64 x, .int .i64 lo, .int .i64 hi] w fun e w' => e = .returned (.bool false) ∧ w' = w := by
  have e1 : decide (lo ≤ x) = false := by simpa using h1
  go_enter Try.func46, Try.ntmps46
  go_wp2
  go_ret
  exact ⟨rfl, rfl⟩

theorem l1In_high (x lo hi : Int) (w : World) (h1 : lo ≤ x) (h2 : hi < x) :
    Calls Try.prog 46 #[.int .i64 x, .int .i64 lo, .int .i64 hi] w fun e w' => e = .returned (.bool false) ∧ w' = w := by
  have e1 : decide (lo ≤ x) = true := by simpa using h1
  have e2 : decide (x ≤ hi) = false := by simpa using h2
  go_enter Try.func46, Try.ntmps46
  go_wp2
  go_ret
  exact ⟨rfl, rfl⟩

theorem l1In_no (x lo hi : Int) (w : World) (h : ¬ (lo ≤ x ∧ x ≤ hi)) :
    Calls Try.prog 46 #[.int .i64 x, .int .i64 lo, .int .i64 hi] w fun e w' => e = .returned (.bool false) ∧ w' = w := by
  by_cases h1 : lo ≤ x
  · exact l1In_high x lo hi w h1 (by omega)
  · exact l1In_low x lo hi w (by omega)

end Go.Proofs.Ytogbaoggebghdaa
