/-
  OWN TEXT: what PlaceCar and TakeOff answer, in plain words; no theorem of the program.
-/
import Derived.Test.YtaalhmaacaahhaaPlainD
namespace Go.Proofs.Ytaalhmaacaahhaa
open Go.RowKit

open Classical in
/-- The lane on which the car is placed. -/
noncomputable def placeAt (p : Pairs) (n : Nat) (S : Nat → Stay) (x len hei : Int) : Option Nat := if h : ∃ k, Places p n S x len hei k then some h.choose else none
theorem placeAt_yes {p : Pairs} {n : Nat} {S : Nat → Stay} {x len hei : Int} {k : Nat} (h : Places p n S x len hei k) : placeAt p n S x len hei = some k := by
  have he : ∃ k, Places p n S x len hei k := ⟨k, h⟩
  unfold placeAt
  rw [dif_pos he]
  obtain ⟨_, _, _, _, _, _, h1⟩ := h
  obtain ⟨_, _, _, _, _, _, h2⟩ := he.choose_spec
  rw [firstLane_one h2 h1]
theorem placeAt_no {p : Pairs} {n : Nat} {S : Nat → Stay} {x len hei : Int} (h : ∀ k, ¬ Places p n S x len hei k) : placeAt p n S x len hei = none := by
  unfold placeAt
  rw [dif_neg (fun ⟨k, hk⟩ => h k hk)]
theorem placeAt_some {p : Pairs} {n : Nat} {S : Nat → Stay} {x len hei : Int} {k : Nat} (h : placeAt p n S x len hei = some k) : Places p n S x len hei k := by
  unfold placeAt at h
  split at h
  · rename_i he
    have := he.choose_spec
    simp only [Option.some.injEq] at h
    rw [h] at this
    exact this
  · cases h
noncomputable def placeOk (p : Pairs) (n : Nat) (S : Nat → Stay) (x len hei : Int) : Bool := (placeAt p n S x len hei).isSome
noncomputable def placeLane (p : Pairs) (n : Nat) (S : Nat → Stay) (x len hei : Int) : Int := ((placeAt p n S x len hei).getD 0 : Nat)
noncomputable def placeLen (p : Pairs) (n : Nat) (S : Nat → Stay) (x len hei : Int) : Nat := if (placeAt p n S x len hei).isSome then n + 1 else 0
noncomputable def placed (p : Pairs) (n : Nat) (S : Nat → Stay) (x len hei : Int) : Nat → Stay := stayCat S n (fun _ => ⟨x, placeLane p n S x len hei, len, hei⟩)
theorem placeLen_le (p : Pairs) (n : Nat) (S : Nat → Stay) (x len hei : Int) : placeLen p n S x len hei ≤ 60 := by
  unfold placeLen
  cases h : placeAt p n S x len hei with
  | none => simp
  | some k =>
    have := placeAt_some h
    have h1 := this.1.2.1
    have h2 := this.2.1
    simp
    omega
/-- What PlaceCar answers. -/
def PlaceRes (w' : World) (base t : Nat) (p : Pairs) (n : Nat) (S : Nat → Stay) (x len hei : Int) (e : Ending) : Prop :=
  ∃ v, e = .returned (.tuple #[v, .int .i64 (placeLane p n S x len hei), .bool (placeOk p n S x len hei)]) ∧ w'.ownsRow base t 4 v (placeLen p n S x len hei) (stayList (placed p n S x len hei) (placeLen p n S x len hei))
theorem placeRes_no {w : World} {base t : Nat} {p : Pairs} {n : Nat} {S : Nat → Stay} {x len hei : Int} (h : ∀ k, ¬ Places p n S x len hei k) : PlaceRes w base t p n S x len hei (.returned (.tuple #[.slice none 0 0, .int .i64 0, .bool false])) := by
  have := placeAt_no h
  refine ⟨.slice none 0 0, ?_, ?_⟩
  · unfold placeLane placeOk; rw [this]; rfl
  · unfold placeLen; rw [this]; exact ⟨rfl, .inl ⟨rfl, rfl⟩⟩
theorem placeRes_yes {w : World} {base t : Nat} {p : Pairs} {n : Nat} {S : Nat → Stay} {x len hei : Int} {k : Nat} {v : Value} (h : Places p n S x len hei k)
    (ho : w.ownsRow base t 4 v (n + 1) (stayList (stayCat S n (fun _ => ⟨x, (k : Int), len, hei⟩)) (n + 1))) : PlaceRes w base t p n S x len hei (.returned (.tuple #[v, .int .i64 (k : Int), .bool true])) := by
  have := placeAt_yes h
  refine ⟨v, ?_, ?_⟩
  · unfold placeLane placeOk; rw [this]; rfl
  · unfold placed placeLane placeLen; rw [this]; exact ho

theorem fits_lane {p : Pairs} {n : Nat} {S : Nat → Stay} {x len hei : Int} {k : Nat} (hk : k < p.n) : Fits p (freeAt p S n) ⟨x, (k : Int), len, hei⟩ ↔ (In x 1 9999 ∧ In len 1 2000 ∧ In hei 1 500 ∧ hei ≤ p.B k ∧ len ≤ left p S n k) := by
  rw [fits_free]
  constructor
  · rintro ⟨a, b, c, _, e, f⟩
    exact ⟨a, b, c, e, f⟩
  · rintro ⟨a, b, c, e, f⟩
    exact ⟨a, b, c, ⟨by show (0 : Int) ≤ (k : Int); omega, by show (k : Int) ≤ _; omega⟩, e, f⟩
theorem places_fit {p : Pairs} {n : Nat} {S : Nat → Stay} {x len hei : Int} {k : Nat} (hd : DeckI p n S) (hn : n ≠ 60) (hh : ¬ Has (whoS S) n x) (hk : k < p.n) (hf : Fits p (freeAt p S n) ⟨x, (k : Int), len, hei⟩)
    (hb : ∀ j, j < k → ¬ Fits p (freeAt p S n) ⟨x, (j : Int), len, hei⟩) : Places p n S x len hei k := by
  obtain ⟨a, b, c, e, f⟩ := (fits_lane hk).1 hf
  exact ⟨hd, hn, hh, a, b, c, hk, ⟨e, f⟩, fun j hj h => hb j hj ((fits_lane (by omega)).2 ⟨a, b, c, h.1, h.2⟩)⟩
theorem places_none {p : Pairs} {n : Nat} {S : Nat → Stay} {x len hei : Int} (hb : ∀ j, j < p.n → ¬ Fits p (freeAt p S n) ⟨x, (j : Int), len, hei⟩) : ∀ k, ¬ Places p n S x len hei k := by
  rintro k ⟨_, _, _, a, b, c, hk, ⟨e, f⟩, _⟩
  exact hb k hk ((fits_lane hk).2 ⟨a, b, c, e, f⟩)

open Classical in
noncomputable def takeOk (p : Pairs) (n : Nat) (S : Nat → Stay) (x : Int) : Bool := decide (DeckI p n S ∧ Has (whoS S) n x)
noncomputable def takeLen (p : Pairs) (n : Nat) (S : Nat → Stay) (x : Int) : Nat := if takeOk p n S x then n - 1 else 0
noncomputable def taken (p : Pairs) (n : Nat) (S : Nat → Stay) (x : Int) : Nat → Stay := if takeOk p n S x then without S (ixOf (whoS S) x n) else S
theorem takeOk_yes {p : Pairs} {n : Nat} {S : Nat → Stay} {x : Int} (h1 : DeckI p n S) (h2 : Has (whoS S) n x) : takeOk p n S x = true := by unfold takeOk; simpa using ⟨h1, h2⟩
theorem takeOk_no {p : Pairs} {n : Nat} {S : Nat → Stay} {x : Int} (h : ¬ (DeckI p n S ∧ Has (whoS S) n x)) : takeOk p n S x = false := by unfold takeOk; simpa using h
theorem takeLen_le (p : Pairs) (n : Nat) (S : Nat → Stay) (x : Int) : takeLen p n S x ≤ 60 := by
  unfold takeLen
  by_cases h : DeckI p n S ∧ Has (whoS S) n x
  · have := h.1.2.1
    rw [takeOk_yes h.1 h.2]; simp; omega
  · rw [takeOk_no h]; simp
def TakeRes (w' : World) (base t : Nat) (p : Pairs) (n : Nat) (S : Nat → Stay) (x : Int) (e : Ending) : Prop :=
  ∃ v, e = .returned (.tuple #[v, .bool (takeOk p n S x)]) ∧ w'.ownsRow base t 4 v (takeLen p n S x) (stayList (taken p n S x) (takeLen p n S x))
theorem takeRes_no {w : World} {base t : Nat} {p : Pairs} {n : Nat} {S : Nat → Stay} {x : Int} (h : ¬ (DeckI p n S ∧ Has (whoS S) n x)) : TakeRes w base t p n S x (.returned (.tuple #[.slice none 0 0, .bool false])) := by
  refine ⟨.slice none 0 0, by rw [takeOk_no h], ?_⟩
  unfold takeLen taken; rw [takeOk_no h]; exact ⟨rfl, .inl ⟨rfl, rfl⟩⟩
theorem takeRes_yes {w : World} {base t : Nat} {p : Pairs} {n : Nat} {S : Nat → Stay} {x : Int} {v : Value} (h1 : DeckI p n S) (h2 : Has (whoS S) n x)
    (ho : w.ownsRow base t 4 v (n - 1) (stayList (without S (ixOf (whoS S) x n)) (n - 1))) : TakeRes w base t p n S x (.returned (.tuple #[v, .bool true])) := by
  refine ⟨v, by rw [takeOk_yes h1 h2], ?_⟩
  unfold takeLen taken; rw [takeOk_yes h1 h2]; exact ho
/-- On a good deck the others are of others. -/
theorem deck_other {p : Pairs} {n : Nat} {S : Nat → Stay} {x : Int} (h : DeckI p n S) {j : Nat} (hj : j < n) (hne : j ≠ ixOf (whoS S) x n) (hlt : ixOf (whoS S) x n < n) : whoS S j ≠ x := by
  intro e
  have ha := ixOf_at (whoS S) x n hlt
  by_cases c : j < ixOf (whoS S) x n
  · exact ixOf_before (whoS S) x n j c e
  · exact (h.2.2 j hj).1 ⟨ixOf (whoS S) x n, by omega, by rw [ha]; exact e.symm⟩
theorem cat_without (S : Nat → Stay) (r : Nat) : stayCat S r (fun i => S (r + 1 + i)) = without S r := by
  funext i
  unfold stayCat without
  split
  · rfl
  · show S (r + 1 + (i - r)) = S (i + 1)
    rw [show r + 1 + (i - r) = i + 1 by omega]

theorem used_congr {S S' : Nat → Stay} (k i : Nat) (h : ∀ j, j < i → S' j = S j) : used S' k i = used S k i := by
  induction i with
  | zero => rfl
  | succ i ih =>
    unfold used
    rw [ih (fun j hj => h j (by omega)), h i (by omega)]
theorem left_congr {p : Pairs} {S S' : Nat → Stay} (i : Nat) (h : ∀ j, j < i → S' j = S j) : left p S' i = left p S i := by
  funext k
  unfold left
  rw [used_congr k i h]
theorem has_congr {F F' : Nat → Int} {n : Nat} {x : Int} (h : ∀ j, j < n → F' j = F j) : Has F' n x ↔ Has F n x :=
  ⟨fun ⟨j, hj, e⟩ => ⟨j, hj, by rw [← h j hj]; exact e⟩, fun ⟨j, hj, e⟩ => ⟨j, hj, by rw [h j hj]; exact e⟩⟩
theorem cat_lt {S T : Nat → Stay} {n i : Nat} (h : i < n) : stayCat S n T i = S i := if_pos h
theorem cat_n {S : Nat → Stay} {n : Nat} {s : Stay} : stayCat S n (fun _ => s) n = s := if_neg (by omega)
/-- A deck with a car placed is good, and the car's is the last. -/
theorem place_deck {p : Pairs} {n : Nat} {S : Nat → Stay} {x len hei : Int} {k : Nat} (h : Places p n S x len hei k) :
    DeckI p (n + 1) (stayCat S n (fun _ => ⟨x, (k : Int), len, hei⟩)) ∧ Has (whoS (stayCat S n (fun _ => ⟨x, (k : Int), len, hei⟩))) (n + 1) x ∧ ixOf (whoS (stayCat S n (fun _ => ⟨x, (k : Int), len, hei⟩))) x (n + 1) = n := by
  obtain ⟨hd, hn, hh, h1, h2, h3, hk, ⟨h4, h5⟩, _⟩ := h
  have hw : ∀ j, j < n → whoS (stayCat S n (fun _ => ⟨x, (k : Int), len, hei⟩)) j = whoS S j := fun j hj => by unfold whoS; rw [cat_lt hj]
  have hwn : whoS (stayCat S n (fun _ => ⟨x, (k : Int), len, hei⟩)) n = x := by unfold whoS; rw [cat_n]
  refine ⟨⟨hd.1, by have := hd.2.1; omega, fun i hi => ?_⟩, ⟨n, Nat.lt_succ_self _, hwn⟩, ixOf_is (Nat.lt_succ_self _) hwn (fun j hj => by rw [hw j hj]; exact fun e => hh ⟨j, hj, e⟩)⟩
  by_cases e : i = n
  · subst e
    rw [cat_n, left_congr i (fun j hj => cat_lt hj)]
    refine ⟨fun c => hh ((has_congr hw).1 c), h1, h2, h3, ⟨by show (0 : Int) ≤ (k : Int); omega, by show (k : Int) ≤ _; omega⟩, h4, h5⟩
  · have hi' : i < n := by omega
    rw [cat_lt hi', left_congr i (fun j hj => cat_lt (by omega))]
    obtain ⟨a, b⟩ := hd.2.2 i hi'
    exact ⟨fun c => a ((has_congr (fun j hj => hw j (by omega))).1 c), b⟩
theorem without_cat {S : Nat → Stay} {n : Nat} {s : Stay} {i : Nat} (h : i < n) : without (stayCat S n (fun _ => s)) n i = S i := by
  unfold without
  rw [if_pos h, cat_lt h]

end Go.Proofs.Ytaalhmaacaahhaa
