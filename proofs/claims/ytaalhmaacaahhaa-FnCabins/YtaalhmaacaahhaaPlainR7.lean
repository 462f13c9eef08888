/-
  OWN TEXT: a room more behind good rooms; no theorem of the program.
-/
import Derived.Test.YtaalhmaacaahhaaPlainR6
namespace Go.Proofs.Ytaalhmaacaahhaa
open Go.RowKit

theorem roomCat_lt {S : Nat → Room} {n j : Nat} {r : Room} (h : j < n) : roomCat S n (fun _ => r) j = S j := by unfold roomCat; rw [if_pos h]
theorem roomCat_at {S : Nat → Room} {n : Nat} {r : Room} : roomCat S n (fun _ => r) n = r := by unfold roomCat; rw [if_neg (Nat.lt_irrefl _)]
theorem used_cat {S : Nat → Room} {n : Nat} {r : Room} {k : Nat} : ∀ i, i ≤ n → usedR (roomCat S n (fun _ => r)) k i = usedR S k i := by
  intro i
  induction i with
  | zero => intro _; rfl
  | succ i ih =>
    intro hi
    unfold usedR
    rw [ih (by omega), roomCat_lt (by omega)]
theorem left_cat {p : Pairs} {S : Nat → Room} {n : Nat} {r : Room} {k i : Nat} (h : i ≤ n) : leftR p (roomCat S n (fun _ => r)) i k = leftR p S i k := by
  unfold leftR; rw [used_cat i h]
theorem has_cat {S : Nat → Room} {n : Nat} {r : Room} {i : Nat} {x : Int} (h : i ≤ n) : Has (whoR (roomCat S n (fun _ => r))) i x ↔ Has (whoR S) i x := by
  unfold Has whoR
  constructor
  · rintro ⟨j, hj, e⟩; exact ⟨j, hj, by rw [roomCat_lt (by omega)] at e; exact e⟩
  · rintro ⟨j, hj, e⟩; exact ⟨j, hj, by rw [roomCat_lt (by omega)]; exact e⟩
theorem stands_congr {p : Pairs} {F G : Nat → Int} {r : Room} (h : ∀ k, F k = G k) : Stands p F r → Stands p G r := by
  unfold Stands
  rw [h]
  exact fun h => h
/-- One more that may stand there. -/
theorem rooms_more {p : Pairs} {n : Nat} {S : Nat → Room} {r : Room} (h : RoomsS p n S) (hw : In r.who 1 9999) (hh : ¬ Has (whoR S) n r.who) (hs : Stands p (leftR p S n) r) : RoomsS p (n + 1) (roomCat S n (fun _ => r)) := by
  have hf := rooms_few h
  obtain ⟨hg, _, hall⟩ := roomsI_of_S h
  refine roomsS_of_I ⟨hg, by omega, fun i hi => ?_⟩
  by_cases e : i = n
  · subst e
    rw [roomCat_at]
    exact ⟨hw, fun q => hh ((has_cat (Nat.le_refl _)).1 q), stands_congr (fun k => (left_cat (Nat.le_refl _)).symm) hs⟩
  · have hl : i < n := by omega
    rw [roomCat_lt hl]
    obtain ⟨a, b, c⟩ := hall i hl
    exact ⟨a, fun q => b ((has_cat (by omega)).1 q), stands_congr (fun k => (left_cat (by omega)).symm) c⟩
theorem left_more {p : Pairs} {n : Nat} {S : Nat → Room} {r : Room} {l : Nat} (h : r.cab = (l : Int)) : leftR p (roomCat S n (fun _ => r)) (n + 1) l = leftR p S n l - r.many := by
  rw [leftR_at p _ n l (by rw [roomCat_at]; exact h), roomCat_at, left_cat (Nat.le_refl _)]
/-- A cabin that is given whole is good and full. -/
theorem whole_good {p : Pairs} {n : Nat} {S : Nat → Room} {x cl q : Int} {k : Nat} (hg : WholeG p n S x cl q) (hf : FirstOf p.n (WholeP p n S cl q) k) :
    RoomsS p (n + 1) (roomCat S n (fun _ => ⟨x, (k : Int), p.B k, true⟩)) ∧ leftR p (roomCat S n (fun _ => ⟨x, (k : Int), p.B k, true⟩)) (n + 1) k = 0 := by
  have hl := hf.2.1.2.1
  constructor
  · refine rooms_more hg.1.1 hg.1.2.2.2 hg.1.2.2.1 ⟨?_, fun _ => ⟨?_, ?_⟩, fun h => by cases h⟩
    · have := hf.1
      unfold In
      show (0 : Int) ≤ (k : Int) ∧ (k : Int) ≤ (p.n : Int) - 1
      omega
    · exact hl
    · rfl
  · rw [left_more rfl, hl]
    show p.B k - p.B k = 0
    omega
/-- So are berths that are given. -/
theorem berth_good {p : Pairs} {n : Nat} {S : Nat → Room} {x cl q : Int} {k : Nat} (hg : BerthG p n S x cl q) (hf : FirstOf p.n (BerthP p n S cl q) k) :
    RoomsS p (n + 1) (roomCat S n (fun _ => ⟨x, (k : Int), q, false⟩)) ∧ leftR p (roomCat S n (fun _ => ⟨x, (k : Int), q, false⟩)) (n + 1) k = leftR p S n k - q ∧ 0 ≤ leftR p S n k - q := by
  have hl := hf.2.1.2
  refine ⟨?_, left_more rfl, by omega⟩
  refine rooms_more hg.1.1 hg.1.2.2.2 hg.1.2.2.1 ⟨?_, fun h => (by cases h), fun _ => ⟨hg.2.2.1, ?_⟩⟩
  · have := hf.1
    unfold In
    show (0 : Int) ≤ (k : Int) ∧ (k : Int) ≤ (p.n : Int) - 1
    omega
  · exact hl
theorem whole_some {p : Pairs} {n : Nat} {S : Nat → Room} {x cl q : Int} (h : wholeOk p n S x cl q = true) : ∃ k, (WholeG p n S x cl q ∧ FirstOf p.n (WholeP p n S cl q) k) ∧ wholeAt p n S x cl q = (k : Int) ∧ wholeLen p n S x cl q = n + 1 ∧ wholeRooms p n S x cl q = roomCat S n (fun _ => ⟨x, (k : Int), p.B k, true⟩) := by
  unfold wholeOk at h
  cases e : wholeIx p n S x cl q with
  | none => rw [e] at h; cases h
  | some k =>
    refine ⟨k, pickAt_some e, ?_, ?_, ?_⟩
    · unfold wholeAt; rw [e]; rfl
    · unfold wholeLen; rw [e]; rfl
    · unfold wholeRooms wholeAt; rw [e]; rfl
theorem berth_some {p : Pairs} {n : Nat} {S : Nat → Room} {x cl q : Int} (h : berthOk p n S x cl q = true) : ∃ k, (BerthG p n S x cl q ∧ FirstOf p.n (BerthP p n S cl q) k) ∧ berthAt p n S x cl q = (k : Int) ∧ berthLen p n S x cl q = n + 1 ∧ berthRooms p n S x cl q = roomCat S n (fun _ => ⟨x, (k : Int), q, false⟩) := by
  unfold berthOk at h
  cases e : berthIx p n S x cl q with
  | none => rw [e] at h; cases h
  | some k =>
    refine ⟨k, pickAt_some e, ?_, ?_, ?_⟩
    · unfold berthAt; rw [e]; rfl
    · unfold berthLen; rw [e]; rfl
    · unfold berthRooms berthAt; rw [e]; rfl

end Go.Proofs.Ytaalhmaacaahhaa
