/-
  OWN TEXT: PlainD, PlainR5, PlainSe, PlainOff, SpecNwO.
-/
import Derived.Test.YtfallpinmhbemaaGreatDoorB03
import Derived.Test.YtfallpinmhbemaaGreatDoorB08
import Derived.Test.YtfallpinmhbemaaGreatDoorB05
import Derived.Test.YtfallpinmhbemaaGreatDoorB01
import Derived.Test.YtfallpinmhbemaaGreatDoorB07
namespace Go.Proofs.YtfallpinmhbemaaGreatDoor
open Go.RowKit

/-- Who brought the stay j. -/
def whoS (S : Nat → Stay) (j : Nat) : Int := (S j).who
/-- How much of lane k the first i stays take. -/
def used (S : Nat → Stay) (k : Nat) : Nat → Int
  | 0 => 0
  | i + 1 => used S k i + (if (S i).ln = (k : Int) then (S i).len else 0)
/-- What the first i stays leave free of lane k. -/
def left (p : Pairs) (S : Nat → Stay) (i : Nat) (k : Nat) : Int := p.A k - used S k i
theorem left_0 (p : Pairs) (S : Nat → Stay) (k : Nat) : left p S 0 k = p.A k := by unfold left used; omega
theorem left_at (p : Pairs) (S : Nat → Stay) (i k : Nat) (h : (S i).ln = (k : Int)) : left p S (i + 1) k = left p S i k - (S i).len := by
  unfold left; rw [used, if_pos h]; omega
theorem left_ne (p : Pairs) (S : Nat → Stay) (i k : Nat) (h : (S i).ln ≠ (k : Int)) : left p S (i + 1) k = left p S i k := by
  unfold left; rw [used, if_neg h]; omega
theorem used_bounds (S : Nat → Stay) (k i : Nat) (h : ∀ j, j < i → In (S j).len 1 2000) : 0 ≤ used S k i ∧ used S k i ≤ 2000 * i := by
  induction i with
  | zero => exact ⟨Int.le_refl _, by unfold used; omega⟩
  | succ i ih =>
    have := ih (fun j hj => h j (by omega))
    have hi := h i (by omega)
    unfold In at hi
    unfold used
    split <;> omega
theorem left_mono (p : Pairs) (S : Nat → Stay) (k i n : Nat) (hin : i ≤ n) (h : ∀ j, j < n → In (S j).len 1 2000) : left p S n k ≤ left p S i k := by
  induction n with
  | zero => rw [show i = 0 by omega]; exact Int.le_refl _
  | succ n ih =>
    by_cases e : i = n + 1
    · rw [e]; exact Int.le_refl _
    · have := ih (by omega) (fun j hj => h j (by omega))
      have hn := h n (by omega)
      unfold In at hn
      by_cases c : (S n).ln = (k : Int)
      · rw [left_at p S n k c]; omega
      · rw [left_ne p S n k c]; exact this

/-- The stay may stand where it says, with F free. -/
structure Fits (p : Pairs) (F : Nat → Int) (s : Stay) : Prop where
  who : In s.who 1 9999
  len : In s.len 1 2000
  hei : In s.hei 1 500
  ln : In s.ln 0 ((p.n : Int) - 1)
  high : s.hei ≤ p.B s.ln.toNat
  room : s.len ≤ F s.ln.toNat
def GoodL (p : Pairs) : Prop := GoodPairs p 4 1 5000 100 500
/-- A good deck, as the program looks at it. -/
def DeckI (p : Pairs) (n : Nat) (S : Nat → Stay) : Prop := GoodL p ∧ n ≤ 60 ∧ ∀ i, i < n → ¬ Has (whoS S) i (S i).who ∧ Fits p (left p S i) (S i)
def OkS (p : Pairs) (S : Nat → Stay) (i : Nat) : Prop := In (S i).who 1 9999 ∧ In (S i).ln 0 ((p.n : Int) - 1) ∧ In (S i).len 1 2000 ∧ In (S i).hei 1 (p.B (S i).ln.toNat) ∧ ¬ Has (whoS S) i (S i).who
/-- A good deck, as the specification looks at it. -/
def DeckS (p : Pairs) (n : Nat) (S : Nat → Stay) : Prop := GoodL p ∧ n ≤ 60 ∧ (∀ i, i < n → OkS p S i) ∧ ∀ k, k < p.n → 0 ≤ left p S n k
theorem deck_iff (p : Pairs) (n : Nat) (S : Nat → Stay) : DeckS p n S ↔ DeckI p n S := by
  constructor
  · rintro ⟨hg, hn, ho, hf⟩
    refine ⟨hg, hn, fun i hi => ?_⟩
    obtain ⟨h1, h2, h3, h4, h5⟩ := ho i hi
    have hln : (S i).ln.toNat < p.n := by unfold In at h2; omega
    have hB := (hg.2 _ hln).2
    have hcast : (S i).ln = ((S i).ln.toNat : Int) := by unfold In at h2; omega
    refine ⟨h5, h1, h3, ⟨h4.1, ?_⟩, h2, h4.2, ?_⟩
    · unfold In at hB h4; omega
    · have a := hf _ hln
      have b := left_mono p S (S i).ln.toNat (i + 1) n (by omega) (fun j hj => (ho j hj).2.2.1)
      rw [left_at p S i _ hcast] at b
      omega
  · rintro ⟨hg, hn, ho⟩
    have key : ∀ i, i ≤ n → ∀ k, k < p.n → 0 ≤ left p S i k := by
      intro i
      induction i with
      | zero => intro _ k hk; rw [left_0]; have := (hg.2 k hk).1; unfold In at this; omega
      | succ i ih =>
        intro hi k hk
        have hp := ih (by omega) k hk
        have hfit := (ho i (by omega)).2
        by_cases c : (S i).ln = (k : Int)
        · rw [left_at p S i k c]
          have := hfit.room
          rw [c] at this
          simp at this
          omega
        · rw [left_ne p S i k c]; exact hp
    refine ⟨hg, hn, fun i hi => ?_, key n (Nat.le_refl _)⟩
    obtain ⟨h1, h2⟩ := ho i hi
    exact ⟨h2.who, h2.ln, h2.len, ⟨h2.hei.1, h2.high⟩, h1⟩
theorem DeckI.lens {p : Pairs} {n : Nat} {S : Nat → Stay} (h : DeckI p n S) : ∀ j, j < n → In (S j).len 1 2000 := fun j hj => (h.2.2 j hj).2.len
theorem left_bounds {p : Pairs} {n : Nat} {S : Nat → Stay} {k : Nat} (hg : GoodL p) (hn : n ≤ 60) (hl : ∀ j, j < n → In (S j).len 1 2000) (hk : k < p.n) : -120000 ≤ left p S n k ∧ left p S n k ≤ 5000 := by
  have a := (hg.2 k hk).1
  have b := used_bounds S k n hl
  unfold In at a
  unfold left
  omega

/-- What is free in lane k of a deck; 0 behind the lanes. -/
def freeAt (p : Pairs) (S : Nat → Stay) (i k : Nat) : Int := if k < p.n then left p S i k else 0
theorem freeAt_0 (p : Pairs) (S : Nat → Stay) (k : Nat) : freeAt p S 0 k = upto p.n p.A 0 k := by
  unfold freeAt upto
  rw [left_0]
theorem freeAt_step (p : Pairs) (S : Nat → Stay) (i m j : Nat) (hm : m < p.n) (h : (S i).ln = (m : Int)) : (if j = m then freeAt p S i m - (S i).len else freeAt p S i j) = freeAt p S (i + 1) j := by
  unfold freeAt
  by_cases e : j = m
  · subst e; rw [if_pos rfl, if_pos hm, if_pos hm, left_at p S i j h]
  · rw [if_neg e, left_ne p S i j (fun c => e (by omega))]
theorem fits_free {p : Pairs} {S : Nat → Stay} {i : Nat} {s : Stay} : Fits p (freeAt p S i) s ↔ Fits p (left p S i) s := by
  constructor
  · rintro ⟨a, b, c, d, e, f⟩
    refine ⟨a, b, c, d, e, ?_⟩
    have : freeAt p S i s.ln.toNat = left p S i s.ln.toNat := if_pos (by unfold In at d; omega)
    rw [← this]; exact f
  · rintro ⟨a, b, c, d, e, f⟩
    refine ⟨a, b, c, d, e, ?_⟩
    have : freeAt p S i s.ln.toNat = left p S i s.ln.toNat := if_pos (by unfold In at d; omega)
    rw [this]; exact f
theorem freeAt_bounds {p : Pairs} {n : Nat} {S : Nat → Stay} (k : Nat) (hg : GoodL p) (hn : n ≤ 60) (hl : ∀ j, j < n → In (S j).len 1 2000) : -120000 ≤ freeAt p S n k ∧ freeAt p S n k ≤ 5000 := by
  unfold freeAt
  split
  · exact left_bounds hg hn hl (by assumption)
  · omega

/-- The lane k is the first that has the height and the room. -/
def FirstLane (p : Pairs) (F : Nat → Int) (len hei : Int) (k : Nat) : Prop := k < p.n ∧ (hei ≤ p.B k ∧ len ≤ F k) ∧ ∀ j, j < k → ¬ (hei ≤ p.B j ∧ len ≤ F j)
theorem firstLane_one {p : Pairs} {F : Nat → Int} {len hei : Int} {k j : Nat} (h1 : FirstLane p F len hei k) (h2 : FirstLane p F len hei j) : k = j := by
  by_cases c : k < j
  · exact absurd h1.2.1 (h2.2.2 k c)
  · by_cases c2 : j < k
    · exact absurd h2.2.1 (h1.2.2 j c2)
    · omega
/-- A car can be placed, on lane k. -/
def Places (p : Pairs) (n : Nat) (S : Nat → Stay) (x len hei : Int) (k : Nat) : Prop :=
  DeckI p n S ∧ n ≠ 60 ∧ ¬ Has (whoS S) n x ∧ In x 1 9999 ∧ In len 1 2000 ∧ In hei 1 500 ∧ FirstLane p (left p S n) len hei k
/-- The stays with one more behind them. -/
def withStay (S : Nat → Stay) (n : Nat) (s : Stay) (i : Nat) : Stay := if i < n then S i else s
/-- The stays without the one at place r. -/
def without (S : Nat → Stay) (r : Nat) (i : Nat) : Stay := if i < r then S i else S (i + 1)

end Go.Proofs.YtfallpinmhbemaaGreatDoor

namespace Go.Proofs.YtfallpinmhbemaaGreatDoor
open Go.RowKit

/-- Who has the room j. -/
def whoR (S : Nat → Room) (j : Nat) : Int := (S j).who
/-- How many berths of cabin k the first i rooms take. -/
def usedR (S : Nat → Room) (k : Nat) : Nat → Int
  | 0 => 0
  | i + 1 => usedR S k i + (if (S i).cab = (k : Int) then (S i).many else 0)
/-- What the first i rooms leave free of cabin k. -/
def leftR (p : Pairs) (S : Nat → Room) (i : Nat) (k : Nat) : Int := p.B k - usedR S k i
theorem leftR_0 (p : Pairs) (S : Nat → Room) (k : Nat) : leftR p S 0 k = p.B k := by unfold leftR usedR; omega
theorem leftR_at (p : Pairs) (S : Nat → Room) (i k : Nat) (h : (S i).cab = (k : Int)) : leftR p S (i + 1) k = leftR p S i k - (S i).many := by
  unfold leftR; rw [usedR, if_pos h]; omega
theorem leftR_ne (p : Pairs) (S : Nat → Room) (i k : Nat) (h : (S i).cab ≠ (k : Int)) : leftR p S (i + 1) k = leftR p S i k := by
  unfold leftR; rw [usedR, if_neg h]; omega
theorem usedR_bounds (S : Nat → Room) (k i : Nat) (h : ∀ j, j < i → In (S j).many 1 4) : 0 ≤ usedR S k i ∧ usedR S k i ≤ 4 * i := by
  induction i with
  | zero => exact ⟨Int.le_refl _, by unfold usedR; omega⟩
  | succ i ih =>
    have := ih (fun j hj => h j (by omega))
    have hi := h i (by omega)
    unfold In at hi
    unfold usedR
    split <;> omega
theorem leftR_mono (p : Pairs) (S : Nat → Room) (k i n : Nat) (hin : i ≤ n) (h : ∀ j, j < n → In (S j).many 1 4) : leftR p S n k ≤ leftR p S i k := by
  induction n with
  | zero => rw [show i = 0 by omega]; exact Int.le_refl _
  | succ n ih =>
    by_cases e : i = n + 1
    · rw [e]; exact Int.le_refl _
    · have := ih (by omega) (fun j hj => h j (by omega))
      have hn := h n (by omega)
      unfold In at hn
      by_cases c : (S n).cab = (k : Int)
      · rw [leftR_at p S n k c]; omega
      · rw [leftR_ne p S n k c]; exact this
def GoodC (p : Pairs) : Prop := GoodPairs p 6 1 3 1 4
/-- The room i by itself is as it should be. -/
def OkR0 (p : Pairs) (S : Nat → Room) (i : Nat) : Prop := In (S i).who 1 9999 ∧ ¬ Has (whoR S) i (S i).who ∧ In (S i).cab 0 ((p.n : Int) - 1) ∧ In (S i).many 1 4 ∧ ((S i).all = true → (S i).many = p.B (S i).cab.toNat)
/-- It and one before it do not bar each other. -/
def OkR2 (S : Nat → Room) (i j : Nat) : Prop := (S j).cab = (S i).cab → (S j).all = false ∧ (S i).all = false
def OkR (p : Pairs) (S : Nat → Room) (i : Nat) : Prop := OkR0 p S i ∧ ∀ j, j < i → OkR2 S i j
/-- Rooms are good for the cabins. -/
def RoomsS (p : Pairs) (n : Nat) (S : Nat → Room) : Prop := GoodC p ∧ n ≤ 60 ∧ (∀ i, i < n → OkR p S i) ∧ ∀ k, k < p.n → 0 ≤ leftR p S n k
theorem RoomsS.manys {p : Pairs} {n : Nat} {S : Nat → Room} (h : RoomsS p n S) : ∀ j, j < n → In (S j).many 1 4 := fun j hj => (h.2.2.1 j hj).1.2.2.2.1
theorem leftR_bounds {p : Pairs} {n : Nat} {S : Nat → Room} {k : Nat} (hg : GoodC p) (hn : n ≤ 60) (hl : ∀ j, j < n → In (S j).many 1 4) (hk : k < p.n) : -240 ≤ leftR p S n k ∧ leftR p S n k ≤ 4 := by
  have a := (hg.2 k hk).2
  have b := usedR_bounds S k n hl
  unfold In at a
  unfold leftR
  omega

open Classical in
noncomputable def roomsOk (p : Pairs) (n : Nat) (S : Nat → Room) : Bool := decide (RoomsS p n S)
noncomputable def berthsLen (p : Pairs) (n : Nat) (S : Nat → Room) : Nat := if roomsOk p n S then p.n else 0
theorem roomsOk_yes {p : Pairs} {n : Nat} {S : Nat → Room} (h : RoomsS p n S) : roomsOk p n S = true := by unfold roomsOk; simpa using h
theorem roomsOk_no {p : Pairs} {n : Nat} {S : Nat → Room} (h : ¬ RoomsS p n S) : roomsOk p n S = false := by unfold roomsOk; simpa using h
theorem berthsLen_yes {p : Pairs} {n : Nat} {S : Nat → Room} (h : RoomsS p n S) : berthsLen p n S = p.n := by unfold berthsLen; rw [roomsOk_yes h]; rfl
theorem berthsLen_no {p : Pairs} {n : Nat} {S : Nat → Room} (h : ¬ RoomsS p n S) : berthsLen p n S = 0 := by unfold berthsLen; rw [roomsOk_no h]; rfl
theorem berthsLen_le (p : Pairs) (n : Nat) (S : Nat → Room) : berthsLen p n S ≤ 6 := by
  by_cases h : RoomsS p n S
  · rw [berthsLen_yes h]; exact h.1.1
  · rw [berthsLen_no h]; omega
/-- What FreeBerths answers. -/
def BerthsRes (w' : World) (base t : Nat) (p : Pairs) (n : Nat) (S : Nat → Room) (e : Ending) : Prop :=
  ∃ v, e = .returned (.tuple #[v, .bool (roomsOk p n S)]) ∧ w'.ownsRow base t 1 v (berthsLen p n S) (intList (leftR p S n) (berthsLen p n S))
theorem berthsRes_no {w : World} {base t : Nat} {p : Pairs} {n : Nat} {S : Nat → Room} (h : ¬ RoomsS p n S) : BerthsRes w base t p n S (.returned (.tuple #[.slice none 0 0, .bool false])) :=
  ⟨.slice none 0 0, by rw [roomsOk_no h], by rw [berthsLen_no h]; exact ⟨rfl, .inl ⟨rfl, rfl⟩⟩⟩
theorem berthsRes_yes {w : World} {base t m : Nat} {p : Pairs} {n : Nat} {S : Nat → Room} {v : Value} (h : RoomsS p n S) (hm : p.n = m) (ho : w.ownsRow base t 1 v m (intList (leftR p S n) m)) : BerthsRes w base t p n S (.returned (.tuple #[v, .bool true])) :=
  ⟨v, by rw [roomsOk_yes h], by rw [berthsLen_yes h, hm]; exact ho⟩

/-- k is the first below m that P holds of. -/
def FirstOf (m : Nat) (P : Nat → Prop) (k : Nat) : Prop := k < m ∧ P k ∧ ∀ j, j < k → ¬ P j
theorem firstOf_one {m : Nat} {P : Nat → Prop} {k j : Nat} (h1 : FirstOf m P k) (h2 : FirstOf m P j) : k = j := by
  by_cases c : k < j
  · exact absurd h1.2.1 (h2.2.2 k c)
  · by_cases c2 : j < k
    · exact absurd h2.2.1 (h1.2.2 j c2)
    · omega
open Classical in
/-- The first, where G holds. -/
noncomputable def pickAt (G : Prop) (m : Nat) (P : Nat → Prop) : Option Nat := if h : G ∧ ∃ k, FirstOf m P k then some h.2.choose else none
theorem pickAt_yes {G : Prop} {m : Nat} {P : Nat → Prop} {k : Nat} (hg : G) (h : FirstOf m P k) : pickAt G m P = some k := by
  have he : G ∧ ∃ k, FirstOf m P k := ⟨hg, k, h⟩
  unfold pickAt
  rw [dif_pos he, firstOf_one he.2.choose_spec h]
theorem pickAt_no {G : Prop} {m : Nat} {P : Nat → Prop} (h : ∀ k, ¬ (G ∧ FirstOf m P k)) : pickAt G m P = none := by
  unfold pickAt
  rw [dif_neg (fun ⟨g, k, hk⟩ => h k ⟨g, hk⟩)]
theorem pickAt_some {G : Prop} {m : Nat} {P : Nat → Prop} {k : Nat} (h : pickAt G m P = some k) : G ∧ FirstOf m P k := by
  unfold pickAt at h
  split at h
  · rename_i he
    have := he.2.choose_spec
    simp only [Option.some.injEq] at h
    rw [h] at this
    exact ⟨he.1, this⟩
  · cases h

def PlaceG (p : Pairs) (n : Nat) (S : Nat → Room) (x : Int) : Prop := RoomsS p n S ∧ n ≠ 60 ∧ ¬ Has (whoR S) n x ∧ In x 1 9999
/-- A party gets a cabin whole. -/
def WholeG (p : Pairs) (n : Nat) (S : Nat → Room) (x cl q : Int) : Prop := PlaceG p n S x ∧ In cl 1 3 ∧ In q 1 20
def WholeP (p : Pairs) (n : Nat) (S : Nat → Room) (cl q : Int) (k : Nat) : Prop := p.A k = cl ∧ leftR p S n k = p.B k ∧ (q ≤ p.B k ∨ ¬ ∃ j, j < p.n ∧ p.A j = cl ∧ q ≤ p.B j)
noncomputable def wholeIx (p : Pairs) (n : Nat) (S : Nat → Room) (x cl q : Int) : Option Nat := pickAt (WholeG p n S x cl q) p.n (WholeP p n S cl q)
noncomputable def wholeOk (p : Pairs) (n : Nat) (S : Nat → Room) (x cl q : Int) : Bool := (wholeIx p n S x cl q).isSome
noncomputable def wholeAt (p : Pairs) (n : Nat) (S : Nat → Room) (x cl q : Int) : Int := ((wholeIx p n S x cl q).getD 0 : Nat)
noncomputable def wholeLen (p : Pairs) (n : Nat) (S : Nat → Room) (x cl q : Int) : Nat := if (wholeIx p n S x cl q).isSome then n + 1 else 0
noncomputable def wholeRooms (p : Pairs) (n : Nat) (S : Nat → Room) (x cl q : Int) : Nat → Room := roomCat S n (fun _ => ⟨x, wholeAt p n S x cl q, p.B ((wholeIx p n S x cl q).getD 0), true⟩)
theorem wholeLen_le (p : Pairs) (n : Nat) (S : Nat → Room) (x cl q : Int) : wholeLen p n S x cl q ≤ 60 := by
  unfold wholeLen
  cases h : wholeIx p n S x cl q with
  | none => simp
  | some k =>
    have := (pickAt_some h).1.1
    have h1 := this.1.2.1
    have h2 := this.2.1
    simp
    omega
def WholeRes (w' : World) (base t : Nat) (p : Pairs) (n : Nat) (S : Nat → Room) (x cl q : Int) (e : Ending) : Prop :=
  ∃ v, e = .returned (.tuple #[v, .int .i64 (wholeAt p n S x cl q), .bool (wholeOk p n S x cl q)]) ∧ w'.ownsRow base t 4 v (wholeLen p n S x cl q) (roomList (wholeRooms p n S x cl q) (wholeLen p n S x cl q))
theorem wholeRes_no {w : World} {base t : Nat} {p : Pairs} {n : Nat} {S : Nat → Room} {x cl q : Int} (h : ∀ k, ¬ (WholeG p n S x cl q ∧ FirstOf p.n (WholeP p n S cl q) k)) : WholeRes w base t p n S x cl q (.returned (.tuple #[.slice none 0 0, .int .i64 0, .bool false])) := by
  have e : wholeIx p n S x cl q = none := pickAt_no h
  refine ⟨.slice none 0 0, ?_, ?_⟩
  · unfold wholeAt wholeOk; rw [e]; rfl
  · unfold wholeLen; rw [e]; exact ⟨rfl, .inl ⟨rfl, rfl⟩⟩
theorem wholeRes_yes {w : World} {base t : Nat} {p : Pairs} {n : Nat} {S : Nat → Room} {x cl q : Int} {k : Nat} {v : Value} (hg : WholeG p n S x cl q) (h : FirstOf p.n (WholeP p n S cl q) k)
    (ho : w.ownsRow base t 4 v (n + 1) (roomList (roomCat S n (fun _ => ⟨x, (k : Int), p.B k, true⟩)) (n + 1))) : WholeRes w base t p n S x cl q (.returned (.tuple #[v, .int .i64 (k : Int), .bool true])) := by
  have e : wholeIx p n S x cl q = some k := pickAt_yes hg h
  refine ⟨v, ?_, ?_⟩
  · unfold wholeAt wholeOk; rw [e]; rfl
  · unfold wholeRooms wholeAt wholeLen; rw [e]; exact ho
/-- So many berths are given. -/
def BerthG (p : Pairs) (n : Nat) (S : Nat → Room) (x cl q : Int) : Prop := PlaceG p n S x ∧ In cl 1 3 ∧ In q 1 4
def BerthP (p : Pairs) (n : Nat) (S : Nat → Room) (cl q : Int) (k : Nat) : Prop := p.A k = cl ∧ q ≤ leftR p S n k
noncomputable def berthIx (p : Pairs) (n : Nat) (S : Nat → Room) (x cl q : Int) : Option Nat := pickAt (BerthG p n S x cl q) p.n (BerthP p n S cl q)
noncomputable def berthOk (p : Pairs) (n : Nat) (S : Nat → Room) (x cl q : Int) : Bool := (berthIx p n S x cl q).isSome
noncomputable def berthAt (p : Pairs) (n : Nat) (S : Nat → Room) (x cl q : Int) : Int := ((berthIx p n S x cl q).getD 0 : Nat)
noncomputable def berthLen (p : Pairs) (n : Nat) (S : Nat → Room) (x cl q : Int) : Nat := if (berthIx p n S x cl q).isSome then n + 1 else 0
noncomputable def berthRooms (p : Pairs) (n : Nat) (S : Nat → Room) (x cl q : Int) : Nat → Room := roomCat S n (fun _ => ⟨x, berthAt p n S x cl q, q, false⟩)
theorem berthLen_le (p : Pairs) (n : Nat) (S : Nat → Room) (x cl q : Int) : berthLen p n S x cl q ≤ 60 := by
  unfold berthLen
  cases h : berthIx p n S x cl q with
  | none => simp
  | some k =>
    have := (pickAt_some h).1.1
    have h1 := this.1.2.1
    have h2 := this.2.1
    simp
    omega
def BerthRes (w' : World) (base t : Nat) (p : Pairs) (n : Nat) (S : Nat → Room) (x cl q : Int) (e : Ending) : Prop :=
  ∃ v, e = .returned (.tuple #[v, .int .i64 (berthAt p n S x cl q), .bool (berthOk p n S x cl q)]) ∧ w'.ownsRow base t 4 v (berthLen p n S x cl q) (roomList (berthRooms p n S x cl q) (berthLen p n S x cl q))
theorem berthRes_no {w : World} {base t : Nat} {p : Pairs} {n : Nat} {S : Nat → Room} {x cl q : Int} (h : ∀ k, ¬ (BerthG p n S x cl q ∧ FirstOf p.n (BerthP p n S cl q) k)) : BerthRes w base t p n S x cl q (.returned (.tuple #[.slice none 0 0, .int .i64 0, .bool false])) := by
  have e : berthIx p n S x cl q = none := pickAt_no h
  refine ⟨.slice none 0 0, ?_, ?_⟩
  · unfold berthAt berthOk; rw [e]; rfl
  · unfold berthLen; rw [e]; exact ⟨rfl, .inl ⟨rfl, rfl⟩⟩
theorem berthRes_yes {w : World} {base t : Nat} {p : Pairs} {n : Nat} {S : Nat → Room} {x cl q : Int} {k : Nat} {v : Value} (hg : BerthG p n S x cl q) (h : FirstOf p.n (BerthP p n S cl q) k)
    (ho : w.ownsRow base t 4 v (n + 1) (roomList (roomCat S n (fun _ => ⟨x, (k : Int), q, false⟩)) (n + 1))) : BerthRes w base t p n S x cl q (.returned (.tuple #[v, .int .i64 (k : Int), .bool true])) := by
  have e : berthIx p n S x cl q = some k := pickAt_yes hg h
  refine ⟨v, ?_, ?_⟩
  · unfold berthAt berthOk; rw [e]; rfl
  · unfold berthRooms berthAt berthLen; rw [e]; exact ho
end Go.Proofs.YtfallpinmhbemaaGreatDoor

namespace Go.Proofs.YtfallpinmhbemaaGreatDoor
open Go.RowKit

/-- Who has the seats j. -/
def whoT (S : Nat → Seat) (j : Nat) : Int := (S j).who
/-- How many sit, the first i together. -/
def sits (S : Nat → Seat) : Nat → Int
  | 0 => 0
  | i + 1 => sits S i + (S i).many
/-- Seats are good for most. -/
def SeatsOk (most : Int) (n : Nat) (S : Nat → Seat) : Prop :=
  In most 0 500 ∧ n ≤ 60 ∧ (∀ i, i < n → In (S i).who 1 9999 ∧ ¬ Has (whoT S) i (S i).who ∧ In (S i).many 1 20) ∧ sits S n ≤ most
theorem sits_bounds (S : Nat → Seat) (i : Nat) (h : ∀ j, j < i → In (S j).many 1 20) : 0 ≤ sits S i ∧ sits S i ≤ 20 * i := by
  induction i with
  | zero => exact ⟨Int.le_refl _, by unfold sits; omega⟩
  | succ i ih =>
    have := ih (fun j hj => h j (by omega))
    have hi := h i (by omega)
    unfold In at hi
    unfold sits
    omega
/-- The seats with these behind them. -/
def seatsWith (S : Nat → Seat) (n : Nat) (x many : Int) : Nat → Seat := seatCat S n (fun _ => ⟨x, many⟩)
/-- TakeSeats takes them. -/
def SeatsTake (most : Int) (n : Nat) (S : Nat → Seat) (x many : Int) : Prop := SeatsOk most n S ∧ SeatsOk most (n + 1) (seatsWith S n x many)
open Classical in
noncomputable def takeSOk (most : Int) (n : Nat) (S : Nat → Seat) (x many : Int) : Bool := decide (SeatsTake most n S x many)
noncomputable def takeSLen (most : Int) (n : Nat) (S : Nat → Seat) (x many : Int) : Nat := if takeSOk most n S x many then n + 1 else 0
theorem takeSOk_yes {most : Int} {n : Nat} {S : Nat → Seat} {x many : Int} (h : SeatsTake most n S x many) : takeSOk most n S x many = true := by unfold takeSOk; simpa using h
theorem takeSOk_no {most : Int} {n : Nat} {S : Nat → Seat} {x many : Int} (h : ¬ SeatsTake most n S x many) : takeSOk most n S x many = false := by unfold takeSOk; simpa using h
theorem takeSLen_le (most : Int) (n : Nat) (S : Nat → Seat) (x many : Int) : takeSLen most n S x many ≤ 60 := by
  unfold takeSLen
  by_cases h : SeatsTake most n S x many
  · have := h.2.2.1
    rw [takeSOk_yes h]; simp; omega
  · rw [takeSOk_no h]; simp
def SeatsRes (w' : World) (base t : Nat) (most : Int) (n : Nat) (S : Nat → Seat) (x many : Int) (e : Ending) : Prop :=
  ∃ v, e = .returned (.tuple #[v, .bool (takeSOk most n S x many)]) ∧ w'.ownsRow base t 2 v (takeSLen most n S x many) (seatList (seatsWith S n x many) (takeSLen most n S x many))
theorem seatsRes_no {w : World} {base t : Nat} {most : Int} {n : Nat} {S : Nat → Seat} {x many : Int} (h : ¬ SeatsTake most n S x many) : SeatsRes w base t most n S x many (.returned (.tuple #[.slice none 0 0, .bool false])) := by
  refine ⟨.slice none 0 0, by rw [takeSOk_no h], ?_⟩
  unfold takeSLen; rw [takeSOk_no h]; exact ⟨rfl, .inl ⟨rfl, rfl⟩⟩
theorem seatsRes_yes {w : World} {base t : Nat} {most : Int} {n : Nat} {S : Nat → Seat} {x many : Int} {v : Value} (h : SeatsTake most n S x many)
    (ho : w.ownsRow base t 2 v (n + 1) (seatList (seatsWith S n x many) (n + 1))) : SeatsRes w base t most n S x many (.returned (.tuple #[v, .bool true])) := by
  refine ⟨v, by rw [takeSOk_yes h], ?_⟩
  unfold takeSLen; rw [takeSOk_yes h]; exact ho

end Go.Proofs.YtfallpinmhbemaaGreatDoor

namespace Go.Proofs.YtfallpinmhbemaaGreatDoor
open Go.RowKit

def Book.p (b : Book) : Party := ⟨b.pe, b.len, b.hei, b.cl, b.all, b.be⟩
def Live (b : Book) : Prop := b.state = 1 ∨ b.state = 2
instance (b : Book) : Decidable (Live b) := by unfold Live; exact inferInstance
def HasLeg (b : Book) (x : Int) : Prop := ∃ j, j < b.lgn ∧ b.lg j = x
def UntilB (b : Book) : Prop := if b.state = 1 ∨ b.state = 4 then In b.unt 0 10000 else b.unt = 0
instance (b : Book) : Decidable (UntilB b) := by unfold UntilB; exact inferInstance
/-- A booking is good, but for its loads. -/
def BookOk (o : Off) (i : Nat) : Prop :=
  (o.bk i).name = i + 1 ∧ In (o.bk i).who 1 9999 ∧ IsName (o.bk i).own ∧ LegsOk o.san o.sa (o.bk i).lgn (o.bk i).lg ∧ PartyOk (o.bk i).p ∧ In (o.bk i).state 1 4 ∧ In (o.bk i).price 0 1000000 ∧
    (∀ j, j < i → (o.bk j).who ≠ (o.bk i).who) ∧ UntilB (o.bk i)
def SeatIn (x : Load) (b : Book) (n : Nat) : Prop := ∃ j, j < n ∧ (x.se j).who = b.who ∧ (x.se j).many = b.pe
def StayIn (x : Load) (b : Book) (n : Nat) : Prop := ∃ j, j < n ∧ (x.st j).who = b.who ∧ (x.st j).len = b.len ∧ (x.st j).hei = b.hei
def RoomFits (s : Sail) (b : Book) (r : Room) : Prop := r.who = b.who ∧ r.all = b.all ∧ s.ca.A r.cab.toNat = b.cl ∧ (b.all = true ∨ r.many = b.be)
def RoomIn (s : Sail) (x : Load) (b : Book) (n : Nat) : Prop := ∃ j, j < n ∧ RoomFits s b (x.ro j)
/-- A booking stands in a load as it must. -/
def StandsB (s : Sail) (x : Load) (b : Book) : Prop := SeatIn x b x.sen ∧ (b.len = 0 ∨ StayIn x b x.stn) ∧ (b.cl = 0 ∨ RoomIn s x b x.ron)
open Classical in
/-- How many of the first n are so. -/
noncomputable def cnt (P : Nat → Prop) : Nat → Nat
  | 0 => 0
  | n + 1 => cnt P n + (if P n then 1 else 0)
theorem cnt_yes {P : Nat → Prop} {n : Nat} (h : P n) : cnt P (n + 1) = cnt P n + 1 := by rw [cnt, if_pos h]
theorem cnt_no {P : Nat → Prop} {n : Nat} (h : ¬ P n) : cnt P (n + 1) = cnt P n := by rw [cnt, if_neg h]; rfl
theorem cnt_le (P : Nat → Prop) (n : Nat) : cnt P n ≤ n := by
  induction n with
  | zero => exact Nat.le_refl _
  | succ n ih =>
    by_cases h : P n
    · rw [cnt_yes h]; omega
    · rw [cnt_no h]; omega
def LoadOk (s : Sail) (x : Load) : Prop := DeckS s.la x.stn x.st ∧ RoomsS s.ca x.ron x.ro ∧ SeatsOk s.most x.sen x.se
theorem rooms_cab {p : Pairs} {n : Nat} {S : Nat → Room} (h : RoomsS p n S) : ∀ j, j < n → 0 ≤ (S j).cab ∧ (S j).cab < p.n := fun j hj => by
  have := (h.2.2.1 j hj).1
  unfold OkR0 In at this
  omega
/-- The booking i is live and sails on the sailing k. -/
def On (o : Off) (k i : Nat) : Prop := Live (o.bk i) ∧ HasLeg (o.bk i) (o.sa k).id
def Tallies (o : Off) (k : Nat) : Prop :=
  (∀ i, i < o.bkn → On o k i → StandsB (o.sa k) (o.ld k) (o.bk i)) ∧ (o.ld k).stn = cnt (fun i => On o k i ∧ 0 < (o.bk i).len) o.bkn ∧ (o.ld k).ron = cnt (fun i => On o k i ∧ 0 < (o.bk i).cl) o.bkn ∧ (o.ld k).sen = cnt (On o k) o.bkn
/-- A good office. -/
def OffOk (o : Off) : Prop :=
  GoodTab o.san o.sa ∧ o.ldn = o.san ∧ o.bkn ≤ 30 ∧ (∀ k, k < o.san → LoadOk (o.sa k) (o.ld k)) ∧ (∀ i, i < o.bkn → BookOk o i) ∧ ∀ k, k < o.san → Tallies o k

end Go.Proofs.YtfallpinmhbemaaGreatDoor

namespace Go.Proofs.YtfallpinmhbemaaGreatDoor
open Go.RowKit

def noLoad : Load := ⟨0, fun _ => ⟨0, 0, 0, 0⟩, 0, fun _ => ⟨0, 0, 0, false⟩, 0, fun _ => ⟨0, 0⟩⟩
def noBook : Book := ⟨0, 0, ⟨#[]⟩, 0, fun _ => 0, 0, 0, 0, 0, false, 0, 0, 0, 0⟩
/-- An office in which nothing was done. -/
def newOff (N : Nat) (S : Nat → Sail) : Off := ⟨N, S, N, fun _ => noLoad, 0, fun _ => noBook⟩
def nilV : Nat → Value := fun _ => .slice none 0 0
theorem made_ld (n : Nat) : (madeCells (Value.agg #[.slice none 0 0, .slice none 0 0, .slice none 0 0]).cells (n * 3)).toList = ldRow nilV nilV nilV n := by
  have hz : (Value.agg #[.slice none 0 0, .slice none 0 0, .slice none 0 0]).cells = #[.slice none 0 0, .slice none 0 0, .slice none 0 0] := rfl
  rw [hz]
  unfold ldRow madeCells
  rw [Array.toList_map, Array.toList_range]
  refine List.map_congr_left fun j _ => ?_
  have : j % 3 = 0 ∨ j % 3 = 1 ∨ j % 3 = 2 := by omega
  unfold recCell ldC nilV
  rcases this with h | h | h <;> simp [h]
theorem own_nilV (w : World) (base e size : Nat) (F : Nat → List Value) (h : F 0 = []) (i : Nat) : w.ownsRow base e size (nilV i) 0 (F 0) := by
  rw [h]
  exact ⟨by simp, .inl ⟨rfl, rfl⟩⟩
theorem far_nilV (N : Nat) : FarV N nilV := fun i j _ _ _ b h => by simp [nilV, Value.ownBlock] at h
theorem lds_made {w : World} {base n : Nat} {v : Value} (h : w.ownsRow base 136 3 v n (ldRow nilV nilV nilV n)) : OwnLds w base v n (fun _ => noLoad) nilV nilV nilV :=
  ⟨h, fun i _ => own_nilV w base 186 4 (fun k => stayList noLoad.st k) rfl i, fun i _ => own_nilV w base 190 4 (fun k => roomList noLoad.ro k) rfl i, fun i _ => own_nilV w base 138 2 (fun k => seatList noLoad.se k) rfl i, far_nilV n, far_nilV n, far_nilV n⟩
theorem newOff_short {N : Nat} {S : Nat → Sail} {B : Nat} (hN : N ≤ B) (hs : ShortAll N S B) : Off.Short (newOff N S) B :=
  ⟨⟨hN, hs⟩, ⟨hN, fun _ _ => ⟨Nat.zero_le _, Nat.zero_le _, Nat.zero_le _⟩⟩, ⟨Nat.zero_le _, fun _ hi => absurd hi (Nat.not_lt_zero _)⟩⟩
theorem off3_n {w : World} {g t : Nat} {u0 u1 u2 : Value} (h : w.heap[g]? = some (.cells #[u0, u1, u2] t (0, 0))) (v0 v1 v2 : Value) :
    (((w.setCell ⟨g, 0, none⟩ v0).setCell ⟨g, 1, none⟩ v1).setCell ⟨g, 2, none⟩ v2).heap[g]? = some (.cells #[v0, v1, v2] t (0, 0)) := by
  have a : (w.setCell ⟨g, 0, none⟩ v0).heap[g]? = some (.cells #[v0, u1, u2] t (0, 0)) := by simpa using blk_set h 0 v0
  have b : ((w.setCell ⟨g, 0, none⟩ v0).setCell ⟨g, 1, none⟩ v1).heap[g]? = some (.cells #[v0, v1, u2] t (0, 0)) := by simpa using blk_set a 1 v1
  simpa using blk_set b 2 v2
/-- What the specification's NewOffice answers: an office in memory of its own, with the timetable or with nothing. -/
def NewO (N : Nat) (S : Nat → Sail) (base : Nat) (e : Ending) (w : World) : Prop :=
  ∃ a1 c1 a2 c2 a3 c3 M L C A B D E t, M ≤ N ∧ e = .returned (.tuple #[.agg #[.slice a1 M c1, .slice a2 M c2, .slice a3 0 c3], .bool t]) ∧ OwnOff w base (.slice a1 M c1) (.slice a2 M c2) (.slice a3 0 c3) M M 0 (newOff M S) L C A B D E

set_option maxHeartbeats 3200000 in
set_option maxRecDepth 100000 in
theorem specNewO_any (ao : Option Addr) (N c : Nat) (S : Nat → Sail) (w : World) (hN : N ≤ 1048576) (hs : ShortAll N S 1048576) (hz : SailsAt w ao N S) :
    Calls Tryz.prog 78 #[.slice ao N c] w fun e w' => NewO N S w.heap.size e w' ∧ Below w.heap.size w w' := by
  obtain ⟨i0, hi, hz0, hz1, hz2⟩ := info_parts Tryz.infoLoadO
  have HS : Hid (ShortAll N S 1048576) := hs
  have HZ : Hid (SailsAt w ao N S) := hz
  clear hs hz
  have hb0 : Below w.heap.size w (w.alloc (.cells #[.slice none 0 0, .slice none 0 0, .slice none 0 0] 66)) := push (Below.refl _ _) _
  have bR := heap_alloc_new w (.cells #[.slice none 0 0, .slice none 0 0, .slice none 0 0] 66)
  go_enter Tryz.func78, Tryz.ntmps78
  go_wp2_with fail
  generalize w.alloc (.cells #[.slice none 0 0, .slice none 0 0, .slice none 0 0] 66) = V at hb0 bR ⊢
  refine (specTab_any ao N c S _ hN HS.out (HZ.out.below hb0)).mono ?_
  rintro e X ⟨⟨t, rfl, ht⟩, hbv⟩
  have bR1 := blk_below bR hbv
  have hb1 := after hb0 hbv
  clear ht bR hb0 hbv
  cases t with
  | false =>
    have r0 := blk_cell bR1 0 _ rfl
    have r1 := blk_cell bR1 1 _ rfl
    have r2 := blk_cell bR1 2 _ rfl
    have f0 := blk_free bR1 0
    have f1 := blk_free bR1 1
    have f2 := blk_free bR1 2
    go_wp2
    have rF := off3_n bR1 (.slice none 0 0) (.slice none 0 0) (.slice none 0 0)
    have z0 := blk_cell rF 0 _ rfl
    have z1 := blk_cell rF 1 _ rfl
    have z2 := blk_cell rF 2 _ rfl
    exact bodyPost_ret (v := .tuple #[.agg #[.slice none 0 0, .slice none 0 0, .slice none 0 0], .bool false]) (by simp [results, Tryz.results78, go_sem, z0, z1, z2]) rfl ⟨⟨none, 0, none, 0, none, 0, 0, nilV, nilV, nilV, nilV, nilV, nilV, false, Nat.zero_le _, rfl, OwnSails.nil _ _ _ _ _, OwnLds.nil _ _ _ _ _ _, OwnBks.nil _ _ _ _⟩, ((hb1.setCell (Nat.le_refl _) _).setCell (Nat.le_refl _) _).setCell (Nat.le_refl _) _⟩
  | true =>
  go_wp2_with (first | (at_make; refine wpList_make_full _ rfl _ _ 63 rfl 0 136 i0 _ 3 Tryz.underlying63 hi hz0 hz1 .i64 .i64 _ _ N rfl rfl rfl rfl (by rw [hz2]; omega) (by unfold maxLen; omega) (Nat.zero_le _) ?_; intro w1 hown1 hgrow1))
  rw [made_ld] at hown1
  have hb2 := (Below.refl X.heap.size X).grown hgrow1 (Nat.le_refl _) (by simp)
  refine (l7Own_any ao _ none N N 0 c N 0 (newOff N S) _ rfl rfl rfl (newOff_short hN HS.out) (HZ.out.below (after hb1 hb2)) (OwnLds.at (lds_made hown1)) (OwnBks.at (OwnBks.nil _ 0 _ nilV))).mono ?_
  rintro e w2 ⟨⟨a1, c1, a2, c2, a3, c3, L, C, A, B, D, E, rfl, hO⟩, hb3⟩
  have bR2 := blk_below (blk_below bR1 hb2) hb3
  have hb4 := after (after hb1 hb2) hb3
  have hlt : w.heap.size < w1.heap.size := blk_lt (blk_below bR1 hb2)
  have HO : Hid (OwnOff w2 w1.heap.size (.slice a1 N c1) (.slice a2 N c2) (.slice a3 0 c3) N N 0 (newOff N S) L C A B D E) := hO
  clear hO hb3 hown1 hgrow1
  have r0 := blk_cell bR2 0 _ rfl
  have r1 := blk_cell bR2 1 _ rfl
  have r2 := blk_cell bR2 2 _ rfl
  have f0 := blk_free bR2 0
  have f1 := blk_free bR2 1
  have f2 := blk_free bR2 2
  go_wp2
  have rF := off3_n bR2 (.slice a1 N c1) (.slice a2 N c2) (.slice a3 0 c3)
  have z0 := blk_cell rF 0 _ rfl
  have z1 := blk_cell rF 1 _ rfl
  have z2 := blk_cell rF 2 _ rfl
  have hkR := ((((Kept.refl _ (fun b => b = w.heap.size)).set (a := ⟨w.heap.size, 0, none⟩) rfl (.slice a1 N c1)).set (a := ⟨w.heap.size, 1, none⟩) rfl (.slice a2 N c2)).set (a := ⟨w.heap.size, 2, none⟩) rfl (.slice a3 0 c3) : Kept w2 _ _)
  have hO2 := (HO.out.box hkR bR2 (by decide)).lower (by omega : w.heap.size ≤ w1.heap.size)
  exact bodyPost_ret (v := .tuple #[.agg #[.slice a1 N c1, .slice a2 N c2, .slice a3 0 c3], .bool true]) (by simp [results, Tryz.results78, go_sem, z0, z1, z2]) rfl ⟨⟨a1, c1, a2, c2, a3, c3, N, L, C, A, B, D, E, true, Nat.le_refl _, rfl, hO2⟩, ((hb4.setCell (p := ⟨w.heap.size, 0, none⟩) (Nat.le_refl _) _).setCell (p := ⟨w.heap.size, 1, none⟩) (Nat.le_refl _) _).setCell (p := ⟨w.heap.size, 2, none⟩) (Nat.le_refl _) _⟩

end Go.Proofs.YtfallpinmhbemaaGreatDoor
