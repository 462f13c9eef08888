/-
  OWN TEXT: the contract of slices.Sort at a short list of unlike numbers that the call owns.
-/
import Derived.Test.YtompknfmlnlnfaaKitM
import Derived.Test.YtompknfmlnlnfaaPlainW
import Derived.Deep.LoopGhost
namespace Go.Proofs.Ytompknfmlnlnfaa
open Go.RowKit

/-- The first n of f are unlike. -/
def InjTo (f : Nat → Int) (n : Nat) : Prop := ∀ p q, p < q → q < n → f p ≠ f q
/-- The first n of f and of f0 are the same ones. -/
def SameTo (f f0 : Nat → Int) (n : Nat) : Prop := ∀ x, (∃ p, p < n ∧ f p = x) ↔ (∃ p, p < n ∧ f0 p = x)
def RiseTo (f : Nat → Int) (n : Nat) : Prop := ∀ p q, p < q → q < n → f p < f q
/-- Place j and the one ahead of it exchanged. -/
def swapI (j p : Nat) : Nat := if p = j then j - 1 else if p = j - 1 then j else p
def swapF (f : Nat → Int) (j p : Nat) : Int := if p = j then f (j - 1) else if p = j - 1 then f j else f p
theorem swapF_eq (f : Nat → Int) (j p : Nat) : swapF f j p = f (swapI j p) := by
  unfold swapF swapI
  by_cases h1 : p = j
  · rw [if_pos h1, if_pos h1]
  · rw [if_neg h1, if_neg h1]
    by_cases h2 : p = j - 1
    · rw [if_pos h2, if_pos h2]
    · rw [if_neg h2, if_neg h2]
theorem swapI_lt {j p n : Nat} (hj : j < n) (hp : p < n) : swapI j p < n := by
  unfold swapI
  split
  · omega
  · split <;> omega
theorem swapI_twice {j : Nat} (h0 : 0 < j) (p : Nat) : swapI j (swapI j p) = p := by
  unfold swapI
  by_cases h1 : p = j
  · rw [if_pos h1, if_neg (by omega), if_pos rfl]; exact h1.symm
  · rw [if_neg h1]
    by_cases h2 : p = j - 1
    · rw [if_pos h2, if_pos rfl]; exact h2.symm
    · rw [if_neg h2, if_neg h1, if_neg h2]
theorem injTo_ne {f : Nat → Int} {n : Nat} (h : InjTo f n) {p q : Nat} (hp : p < n) (hq : q < n) (hne : p ≠ q) : f p ≠ f q := by
  rcases Nat.lt_or_gt_of_ne hne with e | e
  · exact h p q e hq
  · exact fun e2 => h q p e hp e2.symm
theorem swap_inj {f : Nat → Int} {n j : Nat} (h : InjTo f n) (h0 : 0 < j) (hj : j < n) : InjTo (swapF f j) n := by
  intro p q hpq hq
  rw [swapF_eq, swapF_eq]
  refine injTo_ne h (swapI_lt hj (by omega)) (swapI_lt hj hq) (fun e => ?_)
  have := congrArg (swapI j) e
  rw [swapI_twice h0, swapI_twice h0] at this
  omega
theorem swap_same {f f0 : Nat → Int} {n j : Nat} (h : SameTo f f0 n) (h0 : 0 < j) (hj : j < n) : SameTo (swapF f j) f0 n := by
  intro x
  rw [← h x]
  constructor
  · rintro ⟨p, hp, e⟩
    exact ⟨swapI j p, swapI_lt hj hp, by rw [← swapF_eq f]; exact e⟩
  · rintro ⟨p, hp, e⟩
    exact ⟨swapI j p, swapI_lt hj hp, by rw [swapF_eq, swapI_twice h0]; exact e⟩
/-- All but the one at j rise up to place i, and those behind j are above it. -/
def MidTo (f : Nat → Int) (i j : Nat) : Prop := (∀ p q, p < q → q ≤ i → p ≠ j → q ≠ j → f p < f q) ∧ (∀ q, j < q → q ≤ i → f j < f q)
theorem mid_start {f : Nat → Int} {i : Nat} (h : RiseTo f i) : MidTo f i i := ⟨fun p q hpq hq _ hq2 => h p q hpq (by omega), fun q h1 h2 => by omega⟩
theorem mid_end {f : Nat → Int} {i j : Nat} (hm : MidTo f i j) (hj : j = 0 ∨ f (j - 1) < f j) : RiseTo f (i + 1) := by
  intro p q hpq hq
  by_cases e1 : q = j
  · subst e1
    rcases hj with e | e
    · omega
    · by_cases e2 : p = q - 1
      · rw [e2]; exact e
      · have := hm.1 p (q - 1) (by omega) (by omega) (by omega) (by omega); omega
  · by_cases e2 : p = j
    · subst e2; exact hm.2 q hpq (by omega)
    · exact hm.1 p q hpq (by omega) e2 e1
theorem mid_swap {f : Nat → Int} {i j : Nat} (hm : MidTo f i j) (h0 : 0 < j) (hj : j ≤ i) (hlt : f j < f (j - 1)) : MidTo (swapF f j) i (j - 1) := by
  constructor
  · intro p q hpq hq h1 h2
    unfold swapF
    by_cases e1 : p = j
    · rw [if_pos e1, if_neg (by omega), if_neg h2]
      exact hm.1 (j - 1) q (by omega) hq (by omega) (by omega)
    · rw [if_neg e1, if_neg h1]
      by_cases e2 : q = j
      · rw [if_pos e2]
        exact hm.1 p (j - 1) (by omega) (by omega) e1 (by omega)
      · rw [if_neg e2, if_neg h2]
        exact hm.1 p q hpq hq e1 e2
  · intro q h1 h2
    unfold swapF
    rw [if_neg (by omega), if_pos rfl]
    by_cases e : q = j
    · rw [if_pos e]; exact hlt
    · rw [if_neg e, if_neg (by omega)]; exact hm.2 q (by omega) h2

theorem isNaN_int (x : Int) (w : World) : Calls Try.prog 106 #[.int .i64 x] w fun e w' => e = .returned (.bool false) ∧ w' = w := by
  go_enter Try.func106, Try.ntmps106
  go_wp2
  go_ret
  exact ⟨rfl, rfl⟩
theorem less_int (x y : Int) (w : World) : Calls Try.prog 90 #[.int .i64 x, .int .i64 y] w fun e w' => e = .returned (.bool (decide (x < y))) ∧ w' = w := by
  go_enter Try.func90, Try.ntmps90
  go_wp2_with (first | (go_at_call 106; refine (isNaN_int _ _).mono ?_; rintro e w' ⟨rfl, rfl⟩))
  go_ret
  exact ⟨rfl, rfl⟩

theorem intList_swap {f : Nat → Int} {w : World} {base g n cap j : Nat} (h : w.ownsRow base 3 1 (.slice (some ⟨g, 0, none⟩) n cap) n (intList f n)) (h0 : 0 < j) :
    ((w.setCell ⟨g, j, none⟩ (.int .i64 (f (j - 1)))).setCell ⟨g, j - 1, none⟩ (.int .i64 (f j))).ownsRow base 3 1 (.slice (some ⟨g, 0, none⟩) n cap) n (intList (swapF f j) n) := by
  unfold intList at h ⊢
  refine own_congr (own_store (own_store h j _) (j - 1) _) (fun p _ => ?_)
  unfold swapF
  by_cases e1 : p = j - 1
  · rw [if_pos e1, if_neg (by omega), if_pos e1]
  · rw [if_neg e1]
    by_cases e2 : p = j
    · rw [if_pos e2, if_pos e2]
    · rw [if_neg e2, if_neg e2, if_neg e1]

set_option maxHeartbeats 1600000 in
set_option maxRecDepth 100000 in
theorem insertion_own (ao : Option Addr) (n c base : Nat) (f : Nat → Int) (w : World) (hn : n ≤ 12) (hi : InjTo f n) (ho : w.ownsRow base 3 1 (.slice ao n c) n (intList f n)) :
    Calls Try.prog 84 #[.slice ao n c, .int .i64 0, .int .i64 n] w fun e w' => e = .returned (.tuple #[]) ∧ (∃ f', w'.ownsRow base 3 1 (.slice ao n c) n (intList f' n) ∧ Hid (RiseTo f' n ∧ SameTo f' f n)) ∧ Kept w w' (fun b => (Value.slice ao n c).ownBlock = some b) := by
  have HI : Hid (InjTo f n) := hi
  clear hi
  by_cases hn0 : n = 0
  · subst hn0
    go_enter Try.func84, Try.ntmps84
    go_wp2
    go_loopg [6] 1 (fun g i wr => g = 1 ∧ i = .int .i64 1 ∧ wr = w)
    case atStart => exact ⟨rfl, rfl, rfl⟩
    case round =>
      obtain ⟨rfl, rfl, rfl⟩ := hrel
      go_wp2
      exact bodyPost_end (v := .tuple #[]) (by simp [results, Try.results84, go_sem]) rfl ⟨rfl, ⟨f, ho, ⟨fun p q _ _ => by omega, fun _ => Iff.rfl⟩⟩, Kept.refl _ _⟩
  · obtain ⟨g, rfl, hg1, hg2⟩ := own_addr ho (by omega)
    go_enter Try.func84, Try.ntmps84
    go_wp2
    go_loopg [6] (n - 1) (fun gh i wr => ∃ (k : Nat) (f1 : Nat → Int), 1 ≤ k ∧ k ≤ n ∧ gh = n - k ∧ i = .int .i64 k ∧ wr.ownsRow base 3 1 (.slice (some ⟨g, 0, none⟩) n c) n (intList f1 n) ∧ Hid (InjTo f1 n ∧ SameTo f1 f n ∧ RiseTo f1 k) ∧ Kept w wr (fun b => (Value.slice (some ⟨g, 0, none⟩) n c).ownBlock = some b))
    case atStart => exact ⟨1, f, Nat.le_refl _, by omega, rfl, rfl, ho, ⟨HI.out, fun _ => Iff.rfl, fun p q _ _ => by omega⟩, Kept.refl _ _⟩
    case round =>
      obtain ⟨k, f1, hk1, hk, rfl, rfl, ho1, HF, hk0⟩ := hrel
      by_cases hlt : k < n
      · have hkn : (k : Int) < (n : Int) := by omega
        go_wp2
        go_loopg [7] k (fun gh i wr2 => ∃ (f2 : Nat → Int), gh ≤ k ∧ i = .int .i64 gh ∧ wr2.ownsRow base 3 1 (.slice (some ⟨g, 0, none⟩) n c) n (intList f2 n) ∧ Hid (InjTo f2 n ∧ SameTo f2 f n ∧ MidTo f2 k gh) ∧ Kept w wr2 (fun b => (Value.slice (some ⟨g, 0, none⟩) n c).ownBlock = some b))
        case atStart => exact ⟨f1, Nat.le_refl _, rfl, ho1, ⟨HF.out.1, HF.out.2.1, mid_start HF.out.2.2⟩, hk0⟩
        case round =>
          clear ho1 hk0 HF
          obtain ⟨f2, hj, rfl, ho2, HF, hk2⟩ := hrel
          by_cases j0 : gk = 0
          · have HE : Hid (RiseTo f2 (k + 1)) := mid_end HF.out.2.2 (.inl j0)
            have d0 : decide (0 < gk) = false := by simp; omega
            clear j0
            go_wp2
            go_quiet (fail)
            go_wp2
            go_roundg (n - (k + 1))
            case measure => omega
            case rel => exact ⟨k + 1, f2, by omega, by omega, rfl, by go_num, own_below (below_drewN (Below.refl _ _) _) ho2, ⟨HF.out.1, HF.out.2.1, HE.out⟩, hk2.trans (Kept.of_below (below_drewN (Below.refl _ _) _))⟩
          · have d0 : decide (0 < gk) = true := by simp; omega
            have hj1 : (gk : Int) < (n : Int) := by omega
            have hj2 : ((gk : Int) - 1).toNat = gk - 1 := by omega
            have hj3 : (gk : Int) - 1 < (n : Int) := by omega
            have hj4 : (0 : Int) ≤ (gk : Int) - 1 := by omega
            have hj5 : IntKind.i64.wrap ((gk : Int) - 1) = (gk : Int) - 1 := by rw [IntKind.wrap_i64]; omega
            have hj6 : (0 : Int) ≤ (gk : Int) := by omega
            have c1 := own_cell ho2 gk (by omega) (by omega)
            have c2 := own_cell ho2 (gk - 1) (by omega) (by omega)
            have f1' := ho2.frozenAt gk
            have f2' := ho2.frozenAt (gk - 1)
            by_cases hl : f2 gk < f2 (gk - 1)
            · have HL : Hid (f2 gk < f2 (gk - 1)) := hl
              have d1 : decide (f2 gk < f2 (gk - 1)) = true := by simpa using hl
              clear hl
              go_wp2
              go_quiet (first | (go_at_call 90; refine Calls.quiet_of_same (less_int _ _ _)))
              go_wp2
              go_region
              go_wp2
              go_roundg (gk - 1)
              case measure => omega
              case rel =>
                have hod := own_below (below_drewN (Below.refl wr.heap.size wr) (nq + 1)) ho2
                have hkd := hk2.trans (Kept.of_below (below_drewN (Below.refl wr.heap.size wr) (nq + 1)))
                exact ⟨swapF f2 gk, by omega, by rw [show ((gk - 1 : Nat) : Int) = (gk : Int) - 1 by omega], intList_swap hod (by omega), ⟨swap_inj HF.out.1 (by omega) (by omega), swap_same HF.out.2.1 (by omega) (by omega), mid_swap HF.out.2.2 (by omega) hj HL.out⟩, (hkd.set (a := ⟨g, gk, none⟩) rfl _).set (a := ⟨g, gk - 1, none⟩) rfl _⟩
            · have HE : Hid (RiseTo f2 (k + 1)) := mid_end HF.out.2.2 (.inr (by have := injTo_ne HF.out.1 (p := gk) (q := gk - 1) (by omega) (by omega) (by omega); omega))
              have d1 : decide (f2 gk < f2 (gk - 1)) = false := by simpa using hl
              clear hl
              go_wp2
              go_quiet (first | (go_at_call 90; refine Calls.quiet_of_same (less_int _ _ _)))
              go_wp2
              go_roundg (n - (k + 1))
              case measure => omega
              case rel => exact ⟨k + 1, f2, by omega, by omega, rfl, by go_num, own_below (below_drewN (Below.refl _ _) _) ho2, ⟨HF.out.1, HF.out.2.1, HE.out⟩, hk2.trans (Kept.of_below (below_drewN (Below.refl _ _) _))⟩
      · obtain rfl : k = n := by omega
        go_wp2
        exact bodyPost_end (v := .tuple #[]) (by simp [results, Try.results84, go_sem]) rfl ⟨rfl, ⟨f1, ho1, ⟨HF.out.2.2, HF.out.2.1⟩⟩, hk0⟩

set_option maxHeartbeats 1600000 in
set_option maxRecDepth 100000 in
theorem len64_few (n : Nat) (w : World) (hn : n ≤ 12) : Calls Try.prog 94 #[.int .u64 n] w fun e w' => (∃ r : Int, e = .returned (.int .i64 r)) ∧ w' = w := by
  have hc : n = 0 ∨ n = 1 ∨ n = 2 ∨ n = 3 ∨ n = 4 ∨ n = 5 ∨ n = 6 ∨ n = 7 ∨ n = 8 ∨ n = 9 ∨ n = 10 ∨ n = 11 ∨ n = 12 := by omega
  rcases hc with rfl | rfl | rfl | rfl | rfl | rfl | rfl | rfl | rfl | rfl | rfl | rfl | rfl
  all_goals
    go_enter Try.func94, Try.ntmps94
    go_wp2
    go_ret
    exact ⟨⟨_, rfl⟩, rfl⟩

end Go.Proofs.Ytompknfmlnlnfaa
