/-
  OWN TEXT: PlainP, PlainWo, PlainWr, PlainCv, PlainR6.
-/
import Derived.Test.YtfallpinmhbemaaGreatDoorB09
namespace Go.Proofs.YtfallpinmhbemaaGreatDoor
open Go.RowKit

open Classical in
/-- The lane on which the car is placed. -/
noncomputable def placeAt (p : Pairs) (n : Nat) (S : Nat → Stay) (x len hei : Int) : Option Nat := if h : ∃ k, Places p n S x len hei k then some h.choose else none
theorem placeAt_yes {p : Pairs} {n : Nat} {S : Nat → Stay} {x len hei : Int} {k : Nat} (h : Places p n S x len hei k) : placeAt p n S x len hei = some k := by
  have he : ∃ k, Places p n S x len hei k := ⟨k, h⟩
  unfold placeAt
  rw [dif_pos he]
  obtain ⟨_, _, _, _, _, _, h1⟩ := h
  obtain ⟨_, _, _, _, _, _, h2⟩ := he.choose_spec
  rw [firstLane_one h2 h1]
theorem placeAt_no {p : Pairs} {n : Nat} {S : Nat → Stay} {x len hei : Int} (h : ∀ k, ¬ Places p n S x len hei k) : placeAt p n S x len hei = none := by
  unfold placeAt
  rw [dif_neg (fun ⟨k, hk⟩ => h k hk)]
theorem placeAt_some {p : Pairs} {n : Nat} {S : Nat → Stay} {x len hei : Int} {k : Nat} (h : placeAt p n S x len hei = some k) : Places p n S x len hei k := by
  unfold placeAt at h
  split at h
  · rename_i he
    have := he.choose_spec
    simp only [Option.some.injEq] at h
    rw [h] at this
    exact this
  · cases h
noncomputable def placeOk (p : Pairs) (n : Nat) (S : Nat → Stay) (x len hei : Int) : Bool := (placeAt p n S x len hei).isSome
noncomputable def placeLane (p : Pairs) (n : Nat) (S : Nat → Stay) (x len hei : Int) : Int := ((placeAt p n S x len hei).getD 0 : Nat)
noncomputable def placeLen (p : Pairs) (n : Nat) (S : Nat → Stay) (x len hei : Int) : Nat := if (placeAt p n S x len hei).isSome then n + 1 else 0
noncomputable def placed (p : Pairs) (n : Nat) (S : Nat → Stay) (x len hei : Int) : Nat → Stay := stayCat S n (fun _ => ⟨x, placeLane p n S x len hei, len, hei⟩)
theorem placeLen_le (p : Pairs) (n : Nat) (S : Nat → Stay) (x len hei : Int) : placeLen p n S x len hei ≤ 60 := by
  unfold placeLen
  cases h : placeAt p n S x len hei with
  | none => simp
  | some k =>
    have := placeAt_some h
    have h1 := this.1.2.1
    have h2 := this.2.1
    simp
    omega
/-- What PlaceCar answers. -/
def PlaceRes (w' : World) (base t : Nat) (p : Pairs) (n : Nat) (S : Nat → Stay) (x len hei : Int) (e : Ending) : Prop :=
  ∃ v, e = .returned (.tuple #[v, .int .i64 (placeLane p n S x len hei), .bool (placeOk p n S x len hei)]) ∧ w'.ownsRow base t 4 v (placeLen p n S x len hei) (stayList (placed p n S x len hei) (placeLen p n S x len hei))
theorem placeRes_no {w : World} {base t : Nat} {p : Pairs} {n : Nat} {S : Nat → Stay} {x len hei : Int} (h : ∀ k, ¬ Places p n S x len hei k) : PlaceRes w base t p n S x len hei (.returned (.tuple #[.slice none 0 0, .int .i64 0, .bool false])) := by
  have := placeAt_no h
  refine ⟨.slice none 0 0, ?_, ?_⟩
  · unfold placeLane placeOk; rw [this]; rfl
  · unfold placeLen; rw [this]; exact ⟨rfl, .inl ⟨rfl, rfl⟩⟩
theorem placeRes_yes {w : World} {base t : Nat} {p : Pairs} {n : Nat} {S : Nat → Stay} {x len hei : Int} {k : Nat} {v : Value} (h : Places p n S x len hei k)
    (ho : w.ownsRow base t 4 v (n + 1) (stayList (stayCat S n (fun _ => ⟨x, (k : Int), len, hei⟩)) (n + 1))) : PlaceRes w base t p n S x len hei (.returned (.tuple #[v, .int .i64 (k : Int), .bool true])) := by
  have := placeAt_yes h
  refine ⟨v, ?_, ?_⟩
  · unfold placeLane placeOk; rw [this]; rfl
  · unfold placed placeLane placeLen; rw [this]; exact ho

theorem fits_lane {p : Pairs} {n : Nat} {S : Nat → Stay} {x len hei : Int} {k : Nat} (hk : k < p.n) : Fits p (freeAt p S n) ⟨x, (k : Int), len, hei⟩ ↔ (In x 1 9999 ∧ In len 1 2000 ∧ In hei 1 500 ∧ hei ≤ p.B k ∧ len ≤ left p S n k) := by
  rw [fits_free]
  constructor
  · rintro ⟨a, b, c, _, e, f⟩
    exact ⟨a, b, c, e, f⟩
  · rintro ⟨a, b, c, e, f⟩
    exact ⟨a, b, c, ⟨by show (0 : Int) ≤ (k : Int); omega, by show (k : Int) ≤ _; omega⟩, e, f⟩
theorem places_fit {p : Pairs} {n : Nat} {S : Nat → Stay} {x len hei : Int} {k : Nat} (hd : DeckI p n S) (hn : n ≠ 60) (hh : ¬ Has (whoS S) n x) (hk : k < p.n) (hf : Fits p (freeAt p S n) ⟨x, (k : Int), len, hei⟩)
    (hb : ∀ j, j < k → ¬ Fits p (freeAt p S n) ⟨x, (j : Int), len, hei⟩) : Places p n S x len hei k := by
  obtain ⟨a, b, c, e, f⟩ := (fits_lane hk).1 hf
  exact ⟨hd, hn, hh, a, b, c, hk, ⟨e, f⟩, fun j hj h => hb j hj ((fits_lane (by omega)).2 ⟨a, b, c, h.1, h.2⟩)⟩
theorem places_none {p : Pairs} {n : Nat} {S : Nat → Stay} {x len hei : Int} (hb : ∀ j, j < p.n → ¬ Fits p (freeAt p S n) ⟨x, (j : Int), len, hei⟩) : ∀ k, ¬ Places p n S x len hei k := by
  rintro k ⟨_, _, _, a, b, c, hk, ⟨e, f⟩, _⟩
  exact hb k hk ((fits_lane hk).2 ⟨a, b, c, e, f⟩)

open Classical in
noncomputable def takeOk (p : Pairs) (n : Nat) (S : Nat → Stay) (x : Int) : Bool := decide (DeckI p n S ∧ Has (whoS S) n x)
noncomputable def takeLen (p : Pairs) (n : Nat) (S : Nat → Stay) (x : Int) : Nat := if takeOk p n S x then n - 1 else 0
noncomputable def taken (p : Pairs) (n : Nat) (S : Nat → Stay) (x : Int) : Nat → Stay := if takeOk p n S x then without S (ixOf (whoS S) x n) else S
theorem takeOk_yes {p : Pairs} {n : Nat} {S : Nat → Stay} {x : Int} (h1 : DeckI p n S) (h2 : Has (whoS S) n x) : takeOk p n S x = true := by unfold takeOk; simpa using ⟨h1, h2⟩
theorem takeOk_no {p : Pairs} {n : Nat} {S : Nat → Stay} {x : Int} (h : ¬ (DeckI p n S ∧ Has (whoS S) n x)) : takeOk p n S x = false := by unfold takeOk; simpa using h
theorem takeLen_le (p : Pairs) (n : Nat) (S : Nat → Stay) (x : Int) : takeLen p n S x ≤ 60 := by
  unfold takeLen
  by_cases h : DeckI p n S ∧ Has (whoS S) n x
  · have := h.1.2.1
    rw [takeOk_yes h.1 h.2]; simp; omega
  · rw [takeOk_no h]; simp
def TakeRes (w' : World) (base t : Nat) (p : Pairs) (n : Nat) (S : Nat → Stay) (x : Int) (e : Ending) : Prop :=
  ∃ v, e = .returned (.tuple #[v, .bool (takeOk p n S x)]) ∧ w'.ownsRow base t 4 v (takeLen p n S x) (stayList (taken p n S x) (takeLen p n S x))
theorem takeRes_no {w : World} {base t : Nat} {p : Pairs} {n : Nat} {S : Nat → Stay} {x : Int} (h : ¬ (DeckI p n S ∧ Has (whoS S) n x)) : TakeRes w base t p n S x (.returned (.tuple #[.slice none 0 0, .bool false])) := by
  refine ⟨.slice none 0 0, by rw [takeOk_no h], ?_⟩
  unfold takeLen taken; rw [takeOk_no h]; exact ⟨rfl, .inl ⟨rfl, rfl⟩⟩
theorem takeRes_yes {w : World} {base t : Nat} {p : Pairs} {n : Nat} {S : Nat → Stay} {x : Int} {v : Value} (h1 : DeckI p n S) (h2 : Has (whoS S) n x)
    (ho : w.ownsRow base t 4 v (n - 1) (stayList (without S (ixOf (whoS S) x n)) (n - 1))) : TakeRes w base t p n S x (.returned (.tuple #[v, .bool true])) := by
  refine ⟨v, by rw [takeOk_yes h1 h2], ?_⟩
  unfold takeLen taken; rw [takeOk_yes h1 h2]; exact ho
/-- On a good deck the others are of others. -/
theorem deck_other {p : Pairs} {n : Nat} {S : Nat → Stay} {x : Int} (h : DeckI p n S) {j : Nat} (hj : j < n) (hne : j ≠ ixOf (whoS S) x n) (hlt : ixOf (whoS S) x n < n) : whoS S j ≠ x := by
  intro e
  have ha := ixOf_at (whoS S) x n hlt
  by_cases c : j < ixOf (whoS S) x n
  · exact ixOf_before (whoS S) x n j c e
  · exact (h.2.2 j hj).1 ⟨ixOf (whoS S) x n, by omega, by rw [ha]; exact e.symm⟩
theorem cat_without (S : Nat → Stay) (r : Nat) : stayCat S r (fun i => S (r + 1 + i)) = without S r := by
  funext i
  unfold stayCat without
  split
  · rfl
  · show S (r + 1 + (i - r)) = S (i + 1)
    rw [show r + 1 + (i - r) = i + 1 by omega]

theorem used_congr {S S' : Nat → Stay} (k i : Nat) (h : ∀ j, j < i → S' j = S j) : used S' k i = used S k i := by
  induction i with
  | zero => rfl
  | succ i ih =>
    unfold used
    rw [ih (fun j hj => h j (by omega)), h i (by omega)]
theorem left_congr {p : Pairs} {S S' : Nat → Stay} (i : Nat) (h : ∀ j, j < i → S' j = S j) : left p S' i = left p S i := by
  funext k
  unfold left
  rw [used_congr k i h]
theorem has_congr {F F' : Nat → Int} {n : Nat} {x : Int} (h : ∀ j, j < n → F' j = F j) : Has F' n x ↔ Has F n x :=
  ⟨fun ⟨j, hj, e⟩ => ⟨j, hj, by rw [← h j hj]; exact e⟩, fun ⟨j, hj, e⟩ => ⟨j, hj, by rw [h j hj]; exact e⟩⟩
theorem cat_lt {S T : Nat → Stay} {n i : Nat} (h : i < n) : stayCat S n T i = S i := if_pos h
theorem cat_n {S : Nat → Stay} {n : Nat} {s : Stay} : stayCat S n (fun _ => s) n = s := if_neg (by omega)
/-- A deck with a car placed is good, and the car's is the last. -/
theorem place_deck {p : Pairs} {n : Nat} {S : Nat → Stay} {x len hei : Int} {k : Nat} (h : Places p n S x len hei k) :
    DeckI p (n + 1) (stayCat S n (fun _ => ⟨x, (k : Int), len, hei⟩)) ∧ Has (whoS (stayCat S n (fun _ => ⟨x, (k : Int), len, hei⟩))) (n + 1) x ∧ ixOf (whoS (stayCat S n (fun _ => ⟨x, (k : Int), len, hei⟩))) x (n + 1) = n := by
  obtain ⟨hd, hn, hh, h1, h2, h3, hk, ⟨h4, h5⟩, _⟩ := h
  have hw : ∀ j, j < n → whoS (stayCat S n (fun _ => ⟨x, (k : Int), len, hei⟩)) j = whoS S j := fun j hj => by unfold whoS; rw [cat_lt hj]
  have hwn : whoS (stayCat S n (fun _ => ⟨x, (k : Int), len, hei⟩)) n = x := by unfold whoS; rw [cat_n]
  refine ⟨⟨hd.1, by have := hd.2.1; omega, fun i hi => ?_⟩, ⟨n, Nat.lt_succ_self _, hwn⟩, ixOf_is (Nat.lt_succ_self _) hwn (fun j hj => by rw [hw j hj]; exact fun e => hh ⟨j, hj, e⟩)⟩
  by_cases e : i = n
  · subst e
    rw [cat_n, left_congr i (fun j hj => cat_lt hj)]
    refine ⟨fun c => hh ((has_congr hw).1 c), h1, h2, h3, ⟨by show (0 : Int) ≤ (k : Int); omega, by show (k : Int) ≤ _; omega⟩, h4, h5⟩
  · have hi' : i < n := by omega
    rw [cat_lt hi', left_congr i (fun j hj => cat_lt (by omega))]
    obtain ⟨a, b⟩ := hd.2.2 i hi'
    exact ⟨fun c => a ((has_congr (fun j hj => hw j (by omega))).1 c), b⟩
theorem without_cat {S : Nat → Stay} {n : Nat} {s : Stay} {i : Nat} (h : i < n) : without (stayCat S n (fun _ => s)) n i = S i := by
  unfold without
  rw [if_pos h, cat_lt h]

end Go.Proofs.YtfallpinmhbemaaGreatDoor

namespace Go.Proofs.YtfallpinmhbemaaGreatDoor
open Go.RowKit

theorem without_lt {S : Nat → Stay} {r i : Nat} (h : i < r) : without S r i = S i := if_pos h
theorem without_ge {S : Nat → Stay} {r i : Nat} (h : r ≤ i) : without S r i = S (i + 1) := if_neg (by omega)
/-- Whoever is among the first i without r is among the first i + 1. -/
theorem has_without {S : Nat → Stay} {r i : Nat} {x : Int} (h : Has (whoS (without S r)) i x) : Has (whoS S) (i + 1) x := by
  obtain ⟨j, hj, e⟩ := h
  by_cases c : j < r
  · exact ⟨j, by omega, by rw [← e]; unfold whoS; rw [without_lt c]⟩
  · exact ⟨j + 1, by omega, by rw [← e]; unfold whoS; rw [without_ge (by omega)]⟩
theorem used_without (S : Nat → Stay) (r k i : Nat) (h : r ≤ i) : used (without S r) k i + (if (S r).ln = (k : Int) then (S r).len else 0) = used S k (i + 1) := by
  induction i with
  | zero =>
    have e : r = 0 := by omega
    subst e
    rfl
  | succ i ih =>
    by_cases c : r = i + 1
    · subst c
      rw [used_congr k (i + 1) (fun j hj => without_lt hj)]
      rfl
    · have a := ih (by omega)
      rw [used, without_ge (by omega : r ≤ i)]
      rw [show used S k (i + 1 + 1) = used S k (i + 1) + (if (S (i + 1)).ln = (k : Int) then (S (i + 1)).len else 0) from rfl, ← a]
      omega
/-- A good deck without the stay at r is good. -/
theorem without_deck {p : Pairs} {n : Nat} {S : Nat → Stay} {r : Nat} (h : DeckI p (n + 1) S) (hr : r ≤ n) : DeckI p n (without S r) := by
  obtain ⟨hg, hn, ho, hf⟩ := (deck_iff p (n + 1) S).2 h
  refine (deck_iff p n _).1 ⟨hg, by omega, fun i hi => ?_, fun k hk => ?_⟩
  · by_cases c : i < r
    · obtain ⟨h1, h2, h3, h4, h5⟩ := ho i (by omega)
      unfold OkS
      rw [without_lt c]
      refine ⟨h1, h2, h3, h4, fun hh => h5 ((has_congr (fun j hj => ?_)).1 hh)⟩
      unfold whoS
      rw [without_lt (by omega)]
    · obtain ⟨h1, h2, h3, h4, h5⟩ := ho (i + 1) (by omega)
      unfold OkS
      rw [without_ge (by omega)]
      exact ⟨h1, h2, h3, h4, fun hh => h5 (has_without hh)⟩
  · have a := hf k hk
    have b := used_without S r k n hr
    have c := (ho r (by omega)).2.2.1
    unfold In at c
    unfold left at a ⊢
    split at b <;> omega
/-- And whose the stay was is no more there. -/
theorem without_gone {p : Pairs} {n : Nat} {S : Nat → Stay} {r : Nat} (h : DeckI p (n + 1) S) (hr : r ≤ n) : ¬ Has (whoS (without S r)) n (S r).who := by
  rintro ⟨j, hj, e⟩
  by_cases c : j < r
  · refine (h.2.2 r (by omega)).1 ⟨j, c, ?_⟩
    rw [← e]; unfold whoS; rw [without_lt c]
  · refine (h.2.2 (j + 1) (by omega)).1 ⟨r, by omega, ?_⟩
    unfold whoS at e ⊢
    rw [without_ge (by omega)] at e
    exact e.symm
/-- Another stays as it was there or not. -/
theorem without_other {S : Nat → Stay} {n r : Nat} {x : Int} (hr : r ≤ n) (hx : (S r).who ≠ x) : Has (whoS (without S r)) n x ↔ Has (whoS S) (n + 1) x := by
  refine ⟨has_without, ?_⟩
  rintro ⟨j, hj, e⟩
  by_cases c : j < r
  · exact ⟨j, by omega, by rw [← e]; unfold whoS; rw [without_lt c]⟩
  · have hne : j ≠ r := fun q => hx (by rw [← q]; exact e)
    refine ⟨j - 1, by omega, ?_⟩
    rw [← e]; unfold whoS; rw [without_ge (by omega), show j - 1 + 1 = j by omega]

end Go.Proofs.YtfallpinmhbemaaGreatDoor

namespace Go.Proofs.YtfallpinmhbemaaGreatDoor
open Go.RowKit

/-- A sequence without the one at place r. -/
def outOf {α : Type} (S : Nat → α) (r : Nat) (i : Nat) : α := if i < r then S i else S (i + 1)
theorem outOf_lt {α : Type} {S : Nat → α} {r i : Nat} (h : i < r) : outOf S r i = S i := if_pos h
theorem outOf_ge {α : Type} {S : Nat → α} {r i : Nat} (h : r ≤ i) : outOf S r i = S (i + 1) := if_neg (by omega)
theorem has_out {F : Nat → Int} {r i : Nat} {x : Int} (h : Has (outOf F r) i x) : Has F (i + 1) x := by
  obtain ⟨j, hj, e⟩ := h
  by_cases c : j < r
  · exact ⟨j, by omega, by rw [← e, outOf_lt c]⟩
  · exact ⟨j + 1, by omega, by rw [← e, outOf_ge (by omega)]⟩
theorem has_out_lt {F : Nat → Int} {r i : Nat} {x : Int} (hi : i ≤ r) (h : Has (outOf F r) i x) : Has F i x := by
  obtain ⟨j, hj, e⟩ := h
  exact ⟨j, hj, by rw [← e, outOf_lt (by omega)]⟩
/-- In a sequence without doubles, the one taken out is gone. -/
theorem out_gone {F : Nat → Int} {n r : Nat} (h : ∀ i, i < n + 1 → ¬ Has F i (F i)) (hr : r ≤ n) : ¬ Has (outOf F r) n (F r) := by
  rintro ⟨j, hj, e⟩
  by_cases c : j < r
  · rw [outOf_lt c] at e
    exact h r (by omega) ⟨j, c, e⟩
  · rw [outOf_ge (by omega)] at e
    exact h (j + 1) (by omega) ⟨r, by omega, e.symm⟩
theorem out_other {F : Nat → Int} {n r : Nat} {x : Int} (hr : r ≤ n) (hx : F r ≠ x) : Has (outOf F r) n x ↔ Has F (n + 1) x := by
  refine ⟨has_out, ?_⟩
  rintro ⟨j, hj, e⟩
  by_cases c : j < r
  · exact ⟨j, by omega, by rw [← e, outOf_lt c]⟩
  · have hne : j ≠ r := fun q => hx (by rw [← q]; exact e)
    exact ⟨j - 1, by omega, by rw [← e, outOf_ge (by omega), show j - 1 + 1 = j by omega]⟩
theorem whoR_out (S : Nat → Room) (r : Nat) : whoR (outOf S r) = outOf (whoR S) r := by
  funext i
  unfold whoR outOf
  split <;> rfl
theorem whoT_out (S : Nat → Seat) (r : Nat) : whoT (outOf S r) = outOf (whoT S) r := by
  funext i
  unfold whoT outOf
  split <;> rfl

theorem usedR_congr {S S' : Nat → Room} (k i : Nat) (h : ∀ j, j < i → S' j = S j) : usedR S' k i = usedR S k i := by
  induction i with
  | zero => rfl
  | succ i ih =>
    unfold usedR
    rw [ih (fun j hj => h j (by omega)), h i (by omega)]
theorem usedR_out (S : Nat → Room) (r k i : Nat) (h : r ≤ i) : usedR (outOf S r) k i + (if (S r).cab = (k : Int) then (S r).many else 0) = usedR S k (i + 1) := by
  induction i with
  | zero =>
    have e : r = 0 := by omega
    subst e
    rfl
  | succ i ih =>
    by_cases c : r = i + 1
    · subst c
      rw [usedR_congr k (i + 1) (fun j hj => outOf_lt hj)]
      rfl
    · have a := ih (by omega)
      rw [usedR, outOf_ge (by omega : r ≤ i)]
      rw [show usedR S k (i + 1 + 1) = usedR S k (i + 1) + (if (S (i + 1)).cab = (k : Int) then (S (i + 1)).many else 0) from rfl, ← a]
      omega
/-- Good rooms without one are good. -/
theorem out_rooms {p : Pairs} {n : Nat} {S : Nat → Room} {r : Nat} (h : RoomsS p (n + 1) S) (hr : r ≤ n) : RoomsS p n (outOf S r) := by
  obtain ⟨hg, hn, ho, hf⟩ := h
  refine ⟨hg, by omega, fun i hi => ?_, fun k hk => ?_⟩
  · by_cases c : i < r
    · obtain ⟨⟨h1, h2, h3, h4, h5⟩, h6⟩ := ho i (by omega)
      refine ⟨?_, fun j hj => ?_⟩
      · unfold OkR0
        rw [outOf_lt c, whoR_out]
        exact ⟨h1, fun hh => h2 (has_out_lt (by omega) hh), h3, h4, h5⟩
      · unfold OkR2
        rw [outOf_lt c, outOf_lt (by omega)]
        exact h6 j hj
    · obtain ⟨⟨h1, h2, h3, h4, h5⟩, h6⟩ := ho (i + 1) (by omega)
      refine ⟨?_, fun j hj => ?_⟩
      · unfold OkR0
        rw [outOf_ge (by omega), whoR_out]
        exact ⟨h1, fun hh => h2 (has_out hh), h3, h4, h5⟩
      · unfold OkR2
        rw [outOf_ge (by omega : r ≤ i)]
        by_cases d : j < r
        · rw [outOf_lt d]; exact h6 j (by omega)
        · rw [outOf_ge (by omega)]; exact h6 (j + 1) (by omega)
  · have a := hf k hk
    have b := usedR_out S r k n hr
    have c := (ho r (by omega)).1.2.2.2.1
    unfold In at c
    unfold leftR at a ⊢
    split at b <;> omega

theorem sits_congr {S S' : Nat → Seat} (i : Nat) (h : ∀ j, j < i → S' j = S j) : sits S' i = sits S i := by
  induction i with
  | zero => rfl
  | succ i ih =>
    unfold sits
    rw [ih (fun j hj => h j (by omega)), h i (by omega)]
theorem sits_out (S : Nat → Seat) (r i : Nat) (h : r ≤ i) : sits (outOf S r) i + (S r).many = sits S (i + 1) := by
  induction i with
  | zero =>
    have e : r = 0 := by omega
    subst e
    rfl
  | succ i ih =>
    by_cases c : r = i + 1
    · subst c
      rw [sits_congr (i + 1) (fun j hj => outOf_lt hj)]
      rfl
    · have a := ih (by omega)
      rw [sits, outOf_ge (by omega : r ≤ i)]
      rw [show sits S (i + 1 + 1) = sits S (i + 1) + (S (i + 1)).many from rfl, ← a]
      omega
/-- Good seats without one are good. -/
theorem out_seats {most : Int} {n : Nat} {S : Nat → Seat} {r : Nat} (h : SeatsOk most (n + 1) S) (hr : r ≤ n) : SeatsOk most n (outOf S r) := by
  obtain ⟨hg, hn, ho, hf⟩ := h
  refine ⟨hg, by omega, fun i hi => ?_, ?_⟩
  · by_cases c : i < r
    · obtain ⟨h1, h2, h3⟩ := ho i (by omega)
      rw [outOf_lt c, whoT_out]
      exact ⟨h1, fun hh => h2 (has_out_lt (by omega) hh), h3⟩
    · obtain ⟨h1, h2, h3⟩ := ho (i + 1) (by omega)
      rw [outOf_ge (by omega), whoT_out]
      exact ⟨h1, fun hh => h2 (has_out hh), h3⟩
  · have b := sits_out S r n hr
    have c := (ho r (by omega)).2.2
    unfold In at c
    omega

end Go.Proofs.YtfallpinmhbemaaGreatDoor

namespace Go.Proofs.YtfallpinmhbemaaGreatDoor
open Go.RowKit

/-- As many places as there are that are asked for, each by another: every place is asked for. -/
theorem cover {P : Nat → Prop} {B : Nat → Int} (m : Nat) : ∀ (n : Nat) (F : Nat → Int), cnt P m = n → (∀ i, i < m → P i → Has F n (B i)) → (∀ i, i < m → ∀ j, j < i → B j ≠ B i) → ∀ j, j < n → ∃ i, i < m ∧ P i ∧ B i = F j := by
  induction m with
  | zero => intro n F hc _ _ j hj; rw [cnt] at hc; omega
  | succ m ih =>
    intro n F hc hh hd j hj
    by_cases c : P m
    · rw [cnt_yes c] at hc
      obtain ⟨r, hr, er⟩ := hh m (by omega) c
      obtain ⟨n, rfl⟩ : ∃ n', n = n' + 1 := ⟨n - 1, by omega⟩
      have key := ih n (outOf F r) (by omega) (fun i hi hp => (out_other (by omega) (fun e => hd m (by omega) i hi (by rw [← e, er]))).2 (hh i (by omega) hp)) (fun i hi j hj => hd i (by omega) j hj)
      by_cases e : j = r
      · exact ⟨m, by omega, c, by rw [e, er]⟩
      · by_cases d : j < r
        · obtain ⟨i, hi, hp, hb⟩ := key j (by omega)
          exact ⟨i, by omega, hp, by rw [hb, outOf_lt d]⟩
        · obtain ⟨i, hi, hp, hb⟩ := key (j - 1) (by omega)
          exact ⟨i, by omega, hp, by rw [hb, outOf_ge (by omega), show j - 1 + 1 = j by omega]⟩
    · rw [cnt_no c] at hc
      obtain ⟨i, hi, hp, hb⟩ := ih n F hc (fun i hi hp => hh i (by omega) hp) (fun i hi j hj => hd i (by omega) j hj) j hj
      exact ⟨i, by omega, hp, hb⟩
theorem OffOk.whos {o : Off} (h : OffOk o) : ∀ i, i < o.bkn → ∀ j, j < i → (o.bk j).who ≠ (o.bk i).who := fun i hi j hj => (h.2.2.2.2.1 i hi).2.2.2.2.2.2.2.1 j hj
/-- Whoever sits on sailing k has a live booking there. -/
theorem OffOk.seat_of {o : Off} (h : OffOk o) {k : Nat} (hk : k < o.san) {j : Nat} (hj : j < (o.ld k).sen) : ∃ i, i < o.bkn ∧ On o k i ∧ (o.bk i).who = ((o.ld k).se j).who := by
  obtain ⟨ht, _, _, hc⟩ := h.2.2.2.2.2 k hk
  refine cover (P := On o k) (B := fun i => (o.bk i).who) o.bkn _ (whoT (o.ld k).se) hc.symm (fun i hi hp => ?_) h.whos j hj
  obtain ⟨q, hq, e, _⟩ := (ht i hi hp).1
  exact ⟨q, hq, e⟩
theorem OffOk.stay_of {o : Off} (h : OffOk o) {k : Nat} (hk : k < o.san) {j : Nat} (hj : j < (o.ld k).stn) : ∃ i, i < o.bkn ∧ (On o k i ∧ 0 < (o.bk i).len) ∧ (o.bk i).who = ((o.ld k).st j).who := by
  obtain ⟨ht, hc, _, _⟩ := h.2.2.2.2.2 k hk
  refine cover (P := fun i => On o k i ∧ 0 < (o.bk i).len) (B := fun i => (o.bk i).who) o.bkn _ (whoS (o.ld k).st) hc.symm (fun i hi hp => ?_) h.whos j hj
  rcases (ht i hi hp.1).2.1 with e | ⟨q, hq, e, _⟩
  · have := hp.2; omega
  · exact ⟨q, hq, e⟩
theorem OffOk.room_of {o : Off} (h : OffOk o) {k : Nat} (hk : k < o.san) {j : Nat} (hj : j < (o.ld k).ron) : ∃ i, i < o.bkn ∧ (On o k i ∧ 0 < (o.bk i).cl) ∧ (o.bk i).who = ((o.ld k).ro j).who := by
  obtain ⟨ht, _, hc, _⟩ := h.2.2.2.2.2 k hk
  refine cover (P := fun i => On o k i ∧ 0 < (o.bk i).cl) (B := fun i => (o.bk i).who) o.bkn _ (whoR (o.ld k).ro) hc.symm (fun i hi hp => ?_) h.whos j hj
  rcases (ht i hi hp.1).2.2 with e | ⟨q, hq, e, _⟩
  · have := hp.2; omega
  · exact ⟨q, hq, e⟩
/-- One who has no booking is in no load. -/
theorem OffOk.fresh {o : Off} (h : OffOk o) {x : Int} (hx : ∀ i, i < o.bkn → (o.bk i).who ≠ x) {k : Nat} (hk : k < o.san) :
    ¬ Has (whoT (o.ld k).se) (o.ld k).sen x ∧ ¬ Has (whoS (o.ld k).st) (o.ld k).stn x ∧ ¬ Has (whoR (o.ld k).ro) (o.ld k).ron x := by
  refine ⟨?_, ?_, ?_⟩
  · rintro ⟨j, hj, e⟩
    obtain ⟨i, hi, _, hb⟩ := h.seat_of hk hj
    exact hx i hi (hb.trans e)
  · rintro ⟨j, hj, e⟩
    obtain ⟨i, hi, _, hb⟩ := h.stay_of hk hj
    exact hx i hi (hb.trans e)
  · rintro ⟨j, hj, e⟩
    obtain ⟨i, hi, _, hb⟩ := h.room_of hk hj
    exact hx i hi (hb.trans e)

/-- In a sequence without doubles one who is there is at one place alone. -/
theorem one_place {F : Nat → Int} {n : Nat} {x : Int} (h : ∀ i, i < n → ¬ Has F i (F i)) (hx : Has F n x) : ∃ r, r < n ∧ F r = x ∧ ∀ j, j < n → j ≠ r → F j ≠ x := by
  obtain ⟨r, hr, e⟩ := hx
  refine ⟨r, hr, e, fun j hj hne e2 => ?_⟩
  by_cases c : j < r
  · exact h r hr ⟨j, c, by rw [e2, e]⟩
  · exact h j hj ⟨r, by omega, by rw [e, e2]⟩
theorem LoadOk.seats_one {s : Sail} {x : Load} (h : LoadOk s x) : ∀ i, i < x.sen → ¬ Has (whoT x.se) i (whoT x.se i) := fun i hi => (h.2.2.2.2.1 i hi).2.1
theorem LoadOk.stays_one {s : Sail} {x : Load} (h : LoadOk s x) : ∀ i, i < x.stn → ¬ Has (whoS x.st) i (whoS x.st i) := fun i hi => (h.1.2.2.1 i hi).2.2.2.2
theorem LoadOk.rooms_one {s : Sail} {x : Load} (h : LoadOk s x) : ∀ i, i < x.ron → ¬ Has (whoR x.ro) i (whoR x.ro i) := fun i hi => (h.2.1.2.2.1 i hi).1.2.1
/-- A live booking is in its load's seats, and, with a car or a cabin, among its stays and rooms. -/
theorem OffOk.here {o : Off} (h : OffOk o) {k i : Nat} (hk : k < o.san) (hi : i < o.bkn) (hp : On o k i) :
    Has (whoT (o.ld k).se) (o.ld k).sen (o.bk i).who ∧ (0 < (o.bk i).len → Has (whoS (o.ld k).st) (o.ld k).stn (o.bk i).who) ∧ (0 < (o.bk i).cl → Has (whoR (o.ld k).ro) (o.ld k).ron (o.bk i).who) := by
  obtain ⟨h1, h2, h3⟩ := (h.2.2.2.2.2 k hk).1 i hi hp
  refine ⟨?_, fun c => ?_, fun c => ?_⟩
  · obtain ⟨q, hq, e, _⟩ := h1
    exact ⟨q, hq, e⟩
  · rcases h2 with e | ⟨q, hq, e, _⟩
    · omega
    · exact ⟨q, hq, e⟩
  · rcases h3 with e | ⟨q, hq, e, _⟩
    · omega
    · exact ⟨q, hq, e⟩

end Go.Proofs.YtfallpinmhbemaaGreatDoor

namespace Go.Proofs.YtfallpinmhbemaaGreatDoor
open Go.RowKit

/-- The room may stand where so much is free. -/
def Stands (p : Pairs) (F : Nat → Int) (r : Room) : Prop :=
  In r.cab 0 ((p.n : Int) - 1) ∧ (r.all = true → F r.cab.toNat = p.B r.cab.toNat ∧ r.many = p.B r.cab.toNat) ∧ (r.all = false → In r.many 1 (F r.cab.toNat))
/-- What is free in a row of six, 0 behind the cabins. -/
def freeR (p : Pairs) (S : Nat → Room) (i k : Nat) : Int := if k < p.n then leftR p S i k else 0
theorem freeR_0 (p : Pairs) (S : Nat → Room) (k : Nat) : freeR p S 0 k = upto p.n p.B 0 k := by
  unfold freeR upto
  split
  · rw [leftR_0]
  · rfl
theorem freeR_lt {p : Pairs} {S : Nat → Room} {i k : Nat} (h : k < p.n) : freeR p S i k = leftR p S i k := if_pos h
theorem freeR_step (p : Pairs) (S : Nat → Room) (i l j : Nat) (hl : l < p.n) (h : (S i).cab = (l : Int)) : (if j = l then freeR p S i l - (S i).many else freeR p S i j) = freeR p S (i + 1) j := by
  by_cases e : j = l
  · subst e; rw [if_pos rfl, freeR_lt hl, freeR_lt hl, leftR_at p S i j h]
  · rw [if_neg e]
    unfold freeR
    split
    · rw [leftR_ne p S i j (by rw [h]; omega)]
    · rfl
theorem stands_free {p : Pairs} {S : Nat → Room} {i : Nat} {r : Room} : Stands p (freeR p S i) r ↔ Stands p (leftR p S i) r := by
  unfold Stands
  constructor
  · rintro ⟨h, h1, h2⟩
    have hl : r.cab.toNat < p.n := by unfold In at h; omega
    rw [freeR_lt hl] at h1 h2
    exact ⟨h, h1, h2⟩
  · rintro ⟨h, h1, h2⟩
    have hl : r.cab.toNat < p.n := by unfold In at h; omega
    rw [freeR_lt hl]
    exact ⟨h, h1, h2⟩
/-- Rooms are good, looked at one after the other. -/
def RoomsI (p : Pairs) (n : Nat) (S : Nat → Room) : Prop :=
  GoodC p ∧ n ≤ 60 ∧ ∀ i, i < n → In (S i).who 1 9999 ∧ ¬ Has (whoR S) i (S i).who ∧ Stands p (leftR p S i) (S i)
theorem used_none {S : Nat → Room} {k i : Nat} (h : ∀ j, j < i → (S j).cab ≠ (k : Int)) : usedR S k i = 0 := by
  induction i with
  | zero => rfl
  | succ i ih => unfold usedR; rw [ih (fun j hj => h j (by omega)), if_neg (h i (by omega))]; rfl
theorem left_le (p : Pairs) (S : Nat → Room) (k i : Nat) (h : ∀ j, j < i → In (S j).many 1 4) : leftR p S i k ≤ p.B k := by
  have := leftR_mono p S k 0 i (Nat.zero_le _) h
  rw [leftR_0] at this
  exact this
theorem rooms_steps {p : Pairs} {n : Nat} {S : Nat → Room} (hg : GoodC p) (hs : ∀ i, i < n → Stands p (leftR p S i) (S i)) : ∀ i, i ≤ n → (∀ j, j < i → In (S j).many 1 4) ∧ ∀ k, k < p.n → 0 ≤ leftR p S i k := by
  intro i
  induction i with
  | zero =>
    intro _
    refine ⟨fun j hj => by omega, fun k hk => ?_⟩
    have := (hg.2 k hk).2
    unfold In at this
    rw [leftR_0]; omega
  | succ i ih =>
    intro hi
    obtain ⟨a, b⟩ := ih (by omega)
    obtain ⟨hc, h1, h2⟩ := hs i (by omega)
    obtain ⟨l, hl⟩ : ∃ l : Nat, (S i).cab = l := ⟨(S i).cab.toNat, by unfold In at hc; omega⟩
    have hlt : l < p.n := by unfold In at hc; omega
    have et : (S i).cab.toNat = l := by omega
    rw [et] at h1 h2
    have hB := (hg.2 l hlt).2
    have hle := left_le p S l i a
    have hstep := leftR_at p S i l hl
    have hm : In (S i).many 1 4 ∧ 0 ≤ leftR p S (i + 1) l := by
      cases hall : (S i).all with
      | true =>
        have := h1 hall
        unfold In at hB ⊢
        omega
      | false =>
        have := h2 hall
        unfold In at hB this ⊢
        omega
    refine ⟨fun j hj => ?_, fun k hk => ?_⟩
    · by_cases e : j = i
      · subst e; exact hm.1
      · exact a j (by omega)
    · by_cases e : k = l
      · subst e; exact hm.2
      · rw [leftR_ne p S i k (by rw [hl]; omega)]; exact b k hk
theorem roomsS_of_I {p : Pairs} {n : Nat} {S : Nat → Room} (h : RoomsI p n S) : RoomsS p n S := by
  obtain ⟨hg, hn, hall⟩ := h
  have st := rooms_steps hg (fun i hi => (hall i hi).2.2)
  refine ⟨hg, hn, fun i hi => ⟨⟨(hall i hi).1, (hall i hi).2.1, (hall i hi).2.2.1, (st n (Nat.le_refl _)).1 i hi, fun ha => ((hall i hi).2.2.2.1 ha).2⟩, fun j hj he => ?_⟩, fun k hk => (st n (Nat.le_refl _)).2 k hk⟩
  obtain ⟨hc, h1, h2⟩ := (hall i hi).2.2
  obtain ⟨_, k1, k2⟩ := (hall j (by omega)).2.2
  obtain ⟨l, hl⟩ : ∃ l : Nat, (S i).cab = l := ⟨(S i).cab.toNat, by unfold In at hc; omega⟩
  have et : (S i).cab.toNat = l := by omega
  have ej : (S j).cab = (l : Int) := he.trans hl
  have ejt : (S j).cab.toNat = l := by omega
  rw [et] at h1 h2
  rw [ejt] at k1 k2
  have hmj := (st n (Nat.le_refl _)).1 j (by omega)
  have hle := left_le p S l j (fun t ht => (st n (Nat.le_refl _)).1 t (by omega))
  have hstep := leftR_at p S j l ej
  have hmono := leftR_mono p S l (j + 1) i (by omega) (fun t ht => (st n (Nat.le_refl _)).1 t (by omega))
  unfold In at hmj
  have hi0 : (S i).all = false := by
    cases ha : (S i).all with
    | false => rfl
    | true => have := (h1 ha).1; omega
  refine ⟨?_, hi0⟩
  cases ha : (S j).all with
  | false => rfl
  | true =>
    have := k1 ha
    have h3 := h2 hi0
    unfold In at h3
    omega
theorem roomsI_of_S {p : Pairs} {n : Nat} {S : Nat → Room} (h : RoomsS p n S) : RoomsI p n S := by
  have hm := h.manys
  obtain ⟨hg, hn, hall, hleft⟩ := h
  refine ⟨hg, hn, fun i hi => ?_⟩
  obtain ⟨⟨h1, h2, hc, h4, h5⟩, h6⟩ := hall i hi
  refine ⟨h1, h2, hc, fun ha => ⟨?_, h5 ha⟩, fun _ => ⟨h4.1, ?_⟩⟩
  · have : usedR S (S i).cab.toNat i = 0 := used_none (fun j hj e => by
      have := (h6 j hj (by unfold In at hc; omega)).2
      rw [ha] at this; cases this)
    unfold leftR; rw [this]; omega
  · have hlt : (S i).cab.toNat < p.n := by unfold In at hc; omega
    have hstep := leftR_at p S i (S i).cab.toNat (by unfold In at hc; omega)
    have hmono := leftR_mono p S (S i).cab.toNat (i + 1) n (by omega) hm
    have := hleft _ hlt
    omega
theorem rooms_iff {p : Pairs} {n : Nat} {S : Nat → Room} : RoomsI p n S ↔ RoomsS p n S := ⟨roomsS_of_I, roomsI_of_S⟩
/-- Good rooms are fewer than the berths of six cabins. -/
theorem rooms_few {p : Pairs} {n : Nat} {S : Nat → Room} (h : RoomsS p n S) : n ≤ 24 := by
  have hm := h.manys
  obtain ⟨hg, hn, hall, hleft⟩ := h
  have hcab : ∀ i, i < n → ∃ l : Nat, (S i).cab = l ∧ l < p.n := fun i hi => by
    have hc := (hall i hi).1.2.2.1
    exact ⟨(S i).cab.toNat, by unfold In at hc; omega, by unfold In at hc; omega⟩
  have hp := hg.1
  have hsum : ∀ i, i ≤ n → (i : Int) ≤ usedR S 0 i + usedR S 1 i + usedR S 2 i + usedR S 3 i + usedR S 4 i + usedR S 5 i := by
    intro i
    induction i with
    | zero => intro _; simp [usedR]
    | succ i ih =>
      intro hi
      have := ih (by omega)
      obtain ⟨l, hl, hlt⟩ := hcab i (by omega)
      have h1 := (hm i (by omega)).1
      have hl6 : l = 0 ∨ l = 1 ∨ l = 2 ∨ l = 3 ∨ l = 4 ∨ l = 5 := by omega
      unfold usedR
      rw [hl]
      rcases hl6 with rfl | rfl | rfl | rfl | rfl | rfl <;> simp <;> omega
  have hu : ∀ k, usedR S k n ≤ 4 := fun k => by
    by_cases hk : k < p.n
    · have h1 := hleft k hk
      have h2 := (hg.2 k hk).2
      unfold In at h2
      unfold leftR at h1
      omega
    · rw [used_none (fun j hj e => by obtain ⟨l, hl, hlt⟩ := hcab j hj; rw [hl] at e; omega)]; omega
  have := hsum n (Nat.le_refl _)
  have := hu 0
  have := hu 1
  have := hu 2
  have := hu 3
  have := hu 4
  have := hu 5
  omega

end Go.Proofs.YtfallpinmhbemaaGreatDoor
