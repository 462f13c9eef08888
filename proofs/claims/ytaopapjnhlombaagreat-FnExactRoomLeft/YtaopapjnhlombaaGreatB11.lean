/-
  OWN TEXT: PlainH2, PlainD, PlainR5.
-/
import Derived.Test.YtaopapjnhlombaaGreatB08
import Derived.Test.YtaopapjnhlombaaGreatB02
import Derived.Test.YtaopapjnhlombaaGreatB03
namespace Go.Proofs.YtaopapjnhlombaaGreat
open Go.RowKit

/-- One of the first n is x. -/
def Has (F : Nat → Int) (n : Nat) (x : Int) : Prop := ∃ j, j < n ∧ F j = x
/-- The first place of x among the first n; n where it isn't there. -/
def ixOf (F : Nat → Int) (x : Int) : Nat → Nat
  | 0 => 0
  | n + 1 => if ixOf F x n < n then ixOf F x n else if F n = x then n else n + 1
theorem ixOf_le (F : Nat → Int) (x : Int) (n : Nat) : ixOf F x n ≤ n := by
  induction n with
  | zero => exact Nat.le_refl _
  | succ n ih => unfold ixOf; split <;> (try split) <;> omega
theorem ixOf_before (F : Nat → Int) (x : Int) (n : Nat) : ∀ j, j < ixOf F x n → F j ≠ x := by
  induction n with
  | zero => intro j hj; unfold ixOf at hj; omega
  | succ n ih =>
    intro j hj
    unfold ixOf at hj
    have hl := ixOf_le F x n
    by_cases h1 : ixOf F x n < n
    · rw [if_pos h1] at hj; exact ih j hj
    · rw [if_neg h1] at hj
      have he : ixOf F x n = n := by omega
      by_cases h2 : F n = x
      · rw [if_pos h2] at hj; exact ih j (by omega)
      · rw [if_neg h2] at hj
        by_cases e : j = n
        · subst e; exact h2
        · exact ih j (by omega)
theorem ixOf_at (F : Nat → Int) (x : Int) (n : Nat) (h : ixOf F x n < n) : F (ixOf F x n) = x := by
  induction n with
  | zero => omega
  | succ n ih =>
    unfold ixOf at h ⊢
    by_cases h1 : ixOf F x n < n
    · rw [if_pos h1]; exact ih h1
    · rw [if_neg h1] at h ⊢
      by_cases h2 : F n = x
      · rw [if_pos h2]; exact h2
      · rw [if_neg h2] at h; omega
theorem ixOf_is {F : Nat → Int} {x : Int} {n r : Nat} (hr : r < n) (he : F r = x) (hb : ∀ j, j < r → F j ≠ x) : ixOf F x n = r := by
  have h1 := ixOf_before F x n
  by_cases c : ixOf F x n < r
  · exact absurd (ixOf_at F x n (by omega)) (hb _ c)
  · by_cases c2 : r < ixOf F x n
    · exact absurd he (h1 r c2)
    · omega
theorem ixOf_none {F : Nat → Int} {x : Int} {n : Nat} (hb : ∀ j, j < n → F j ≠ x) : ixOf F x n = n := by
  have h1 := ixOf_le F x n
  by_cases c : ixOf F x n < n
  · exact absurd (ixOf_at F x n c) (hb _ c)
  · omega
theorem has_iff (F : Nat → Int) (n : Nat) (x : Int) : Has F n x ↔ ixOf F x n < n := by
  constructor
  · rintro ⟨j, hj, e⟩
    by_cases c : ixOf F x n < n
    · exact c
    · have := ixOf_le F x n
      exact absurd e (ixOf_before F x n j (by omega))
  · intro h
    exact ⟨_, h, ixOf_at F x n h⟩
theorem not_has {F : Nat → Int} {n : Nat} {x : Int} (h : ∀ j, j < n → F j ≠ x) : ¬ Has F n x := fun ⟨j, hj, e⟩ => h j hj e

/-- The first place of x, -1 where it isn't there. -/
def ixAns (F : Nat → Int) (x : Int) (n : Nat) : Int := if ixOf F x n < n then (ixOf F x n : Int) else -1
theorem ixAns_has (F : Nat → Int) (x : Int) (n : Nat) : 0 ≤ ixAns F x n ↔ Has F n x := by
  rw [has_iff]
  unfold ixAns
  split <;> omega
theorem ixAns_yes {F : Nat → Int} {x : Int} {n : Nat} (h : Has F n x) : ixAns F x n = (ixOf F x n : Int) ∧ ixOf F x n < n := by
  have := (has_iff F n x).1 h
  exact ⟨if_pos this, this⟩
theorem ixAns_no {F : Nat → Int} {x : Int} {n : Nat} (h : ¬ Has F n x) : ixAns F x n = -1 := if_neg (fun c => h ((has_iff F n x).2 c))

end Go.Proofs.YtaopapjnhlombaaGreat

namespace Go.Proofs.YtaopapjnhlombaaGreat
open Go.RowKit

/-- Who brought the stay j. -/
def whoS (S : Nat → Stay) (j : Nat) : Int := (S j).who
/-- How much of lane k the first i stays take. -/
def used (S : Nat → Stay) (k : Nat) : Nat → Int
  | 0 => 0
  | i + 1 => used S k i + (if (S i).ln = (k : Int) then (S i).len else 0)
/-- What the first i stays leave free of lane k. -/
def left (p : Pairs) (S : Nat → Stay) (i : Nat) (k : Nat) : Int := p.A k - used S k i
theorem left_0 (p : Pairs) (S : Nat → Stay) (k : Nat) : left p S 0 k = p.A k := by unfold left used; omega
theorem left_at (p : Pairs) (S : Nat → Stay) (i k : Nat) (h : (S i).ln = (k : Int)) : left p S (i + 1) k = left p S i k - (S i).len := by
  unfold left; rw [used, if_pos h]; omega
theorem left_ne (p : Pairs) (S : Nat → Stay) (i k : Nat) (h : (S i).ln ≠ (k : Int)) : left p S (i + 1) k = left p S i k := by
  unfold left; rw [used, if_neg h]; omega
theorem used_bounds (S : Nat → Stay) (k i : Nat) (h : ∀ j, j < i → In (S j).len 1 2000) : 0 ≤ used S k i ∧ used S k i ≤ 2000 * i := by
  induction i with
  | zero => exact ⟨Int.le_refl _, by unfold used; omega⟩
  | succ i ih =>
    have := ih (fun j hj => h j (by omega))
    have hi := h i (by omega)
    unfold In at hi
    unfold used
    split <;> omega
theorem left_mono (p : Pairs) (S : Nat → Stay) (k i n : Nat) (hin : i ≤ n) (h : ∀ j, j < n → In (S j).len 1 2000) : left p S n k ≤ left p S i k := by
  induction n with
  | zero => rw [show i = 0 by omega]; exact Int.le_refl _
  | succ n ih =>
    by_cases e : i = n + 1
    · rw [e]; exact Int.le_refl _
    · have := ih (by omega) (fun j hj => h j (by omega))
      have hn := h n (by omega)
      unfold In at hn
      by_cases c : (S n).ln = (k : Int)
      · rw [left_at p S n k c]; omega
      · rw [left_ne p S n k c]; exact this

/-- The stay may stand where it says, with F free. -/
structure Fits (p : Pairs) (F : Nat → Int) (s : Stay) : Prop where
  who : In s.who 1 9999
  len : In s.len 1 2000
  hei : In s.hei 1 500
  ln : In s.ln 0 ((p.n : Int) - 1)
  high : s.hei ≤ p.B s.ln.toNat
  room : s.len ≤ F s.ln.toNat
def GoodL (p : Pairs) : Prop := GoodPairs p 4 1 5000 100 500
/-- A good deck, as the program looks at it. -/
def DeckI (p : Pairs) (n : Nat) (S : Nat → Stay) : Prop := GoodL p ∧ n ≤ 60 ∧ ∀ i, i < n → ¬ Has (whoS S) i (S i).who ∧ Fits p (left p S i) (S i)
def OkS (p : Pairs) (S : Nat → Stay) (i : Nat) : Prop := In (S i).who 1 9999 ∧ In (S i).ln 0 ((p.n : Int) - 1) ∧ In (S i).len 1 2000 ∧ In (S i).hei 1 (p.B (S i).ln.toNat) ∧ ¬ Has (whoS S) i (S i).who
/-- A good deck, as the specification looks at it. -/
def DeckS (p : Pairs) (n : Nat) (S : Nat → Stay) : Prop := GoodL p ∧ n ≤ 60 ∧ (∀ i, i < n → OkS p S i) ∧ ∀ k, k < p.n → 0 ≤ left p S n k
theorem deck_iff (p : Pairs) (n : Nat) (S : Nat → Stay) : DeckS p n S ↔ DeckI p n S := by
  constructor
  · rintro ⟨hg, hn, ho, hf⟩
    refine ⟨hg, hn, fun i hi => ?_⟩
    obtain ⟨h1, h2, h3, h4, h5⟩ := ho i hi
    have hln : (S i).ln.toNat < p.n := by unfold In at h2; omega
    have hB := (hg.2 _ hln).2
    have hcast : (S i).ln = ((S i).ln.toNat : Int) := by unfold In at h2; omega
    refine ⟨h5, h1, h3, ⟨h4.1, ?_⟩, h2, h4.2, ?_⟩
    · unfold In at hB h4; omega
    · have a := hf _ hln
      have b := left_mono p S (S i).ln.toNat (i + 1) n (by omega) (fun j hj => (ho j hj).2.2.1)
      rw [left_at p S i _ hcast] at b
      omega
  · rintro ⟨hg, hn, ho⟩
    have key : ∀ i, i ≤ n → ∀ k, k < p.n → 0 ≤ left p S i k := by
      intro i
      induction i with
      | zero => intro _ k hk; rw [left_0]; have := (hg.2 k hk).1; unfold In at this; omega
      | succ i ih =>
        intro hi k hk
        have hp := ih (by omega) k hk
        have hfit := (ho i (by omega)).2
        by_cases c : (S i).ln = (k : Int)
        · rw [left_at p S i k c]
          have := hfit.room
          rw [c] at this
          simp at this
          omega
        · rw [left_ne p S i k c]; exact hp
    refine ⟨hg, hn, fun i hi => ?_, key n (Nat.le_refl _)⟩
    obtain ⟨h1, h2⟩ := ho i hi
    exact ⟨h2.who, h2.ln, h2.len, ⟨h2.hei.1, h2.high⟩, h1⟩
theorem DeckI.lens {p : Pairs} {n : Nat} {S : Nat → Stay} (h : DeckI p n S) : ∀ j, j < n → In (S j).len 1 2000 := fun j hj => (h.2.2 j hj).2.len
theorem left_bounds {p : Pairs} {n : Nat} {S : Nat → Stay} {k : Nat} (hg : GoodL p) (hn : n ≤ 60) (hl : ∀ j, j < n → In (S j).len 1 2000) (hk : k < p.n) : -120000 ≤ left p S n k ∧ left p S n k ≤ 5000 := by
  have a := (hg.2 k hk).1
  have b := used_bounds S k n hl
  unfold In at a
  unfold left
  omega

/-- What is free in lane k of a deck; 0 behind the lanes. -/
def freeAt (p : Pairs) (S : Nat → Stay) (i k : Nat) : Int := if k < p.n then left p S i k else 0
theorem freeAt_0 (p : Pairs) (S : Nat → Stay) (k : Nat) : freeAt p S 0 k = upto p.n p.A 0 k := by
  unfold freeAt upto
  rw [left_0]
theorem freeAt_step (p : Pairs) (S : Nat → Stay) (i m j : Nat) (hm : m < p.n) (h : (S i).ln = (m : Int)) : (if j = m then freeAt p S i m - (S i).len else freeAt p S i j) = freeAt p S (i + 1) j := by
  unfold freeAt
  by_cases e : j = m
  · subst e; rw [if_pos rfl, if_pos hm, if_pos hm, left_at p S i j h]
  · rw [if_neg e, left_ne p S i j (fun c => e (by omega))]
theorem fits_free {p : Pairs} {S : Nat → Stay} {i : Nat} {s : Stay} : Fits p (freeAt p S i) s ↔ Fits p (left p S i) s := by
  constructor
  · rintro ⟨a, b, c, d, e, f⟩
    refine ⟨a, b, c, d, e, ?_⟩
    have : freeAt p S i s.ln.toNat = left p S i s.ln.toNat := if_pos (by unfold In at d; omega)
    rw [← this]; exact f
  · rintro ⟨a, b, c, d, e, f⟩
    refine ⟨a, b, c, d, e, ?_⟩
    have : freeAt p S i s.ln.toNat = left p S i s.ln.toNat := if_pos (by unfold In at d; omega)
    rw [this]; exact f
theorem freeAt_bounds {p : Pairs} {n : Nat} {S : Nat → Stay} (k : Nat) (hg : GoodL p) (hn : n ≤ 60) (hl : ∀ j, j < n → In (S j).len 1 2000) : -120000 ≤ freeAt p S n k ∧ freeAt p S n k ≤ 5000 := by
  unfold freeAt
  split
  · exact left_bounds hg hn hl (by assumption)
  · omega

/-- The lane k is the first that has the height and the room. -/
def FirstLane (p : Pairs) (F : Nat → Int) (len hei : Int) (k : Nat) : Prop := k < p.n ∧ (hei ≤ p.B k ∧ len ≤ F k) ∧ ∀ j, j < k → ¬ (hei ≤ p.B j ∧ len ≤ F j)
theorem firstLane_one {p : Pairs} {F : Nat → Int} {len hei : Int} {k j : Nat} (h1 : FirstLane p F len hei k) (h2 : FirstLane p F len hei j) : k = j := by
  by_cases c : k < j
  · exact absurd h1.2.1 (h2.2.2 k c)
  · by_cases c2 : j < k
    · exact absurd h2.2.1 (h1.2.2 j c2)
    · omega
/-- A car can be placed, on lane k. -/
def Places (p : Pairs) (n : Nat) (S : Nat → Stay) (x len hei : Int) (k : Nat) : Prop :=
  DeckI p n S ∧ n ≠ 60 ∧ ¬ Has (whoS S) n x ∧ In x 1 9999 ∧ In len 1 2000 ∧ In hei 1 500 ∧ FirstLane p (left p S n) len hei k
/-- The stays with one more behind them. -/
def withStay (S : Nat → Stay) (n : Nat) (s : Stay) (i : Nat) : Stay := if i < n then S i else s
/-- The stays without the one at place r. -/
def without (S : Nat → Stay) (r : Nat) (i : Nat) : Stay := if i < r then S i else S (i + 1)

end Go.Proofs.YtaopapjnhlombaaGreat

namespace Go.Proofs.YtaopapjnhlombaaGreat
open Go.RowKit

/-- Who has the room j. -/
def whoR (S : Nat → Room) (j : Nat) : Int := (S j).who
/-- How many berths of cabin k the first i rooms take. -/
def usedR (S : Nat → Room) (k : Nat) : Nat → Int
  | 0 => 0
  | i + 1 => usedR S k i + (if (S i).cab = (k : Int) then (S i).many else 0)
/-- What the first i rooms leave free of cabin k. -/
def leftR (p : Pairs) (S : Nat → Room) (i : Nat) (k : Nat) : Int := p.B k - usedR S k i
theorem leftR_0 (p : Pairs) (S : Nat → Room) (k : Nat) : leftR p S 0 k = p.B k := by unfold leftR usedR; omega
theorem leftR_at (p : Pairs) (S : Nat → Room) (i k : Nat) (h : (S i).cab = (k : Int)) : leftR p S (i + 1) k = leftR p S i k - (S i).many := by
  unfold leftR; rw [usedR, if_pos h]; omega
theorem leftR_ne (p : Pairs) (S : Nat → Room) (i k : Nat) (h : (S i).cab ≠ (k : Int)) : leftR p S (i + 1) k = leftR p S i k := by
  unfold leftR; rw [usedR, if_neg h]; omega
theorem usedR_bounds (S : Nat → Room) (k i : Nat) (h : ∀ j, j < i → In (S j).many 1 4) : 0 ≤ usedR S k i ∧ usedR S k i ≤ 4 * i := by
  induction i with
  | zero => exact ⟨Int.le_refl _, by unfold usedR; omega⟩
  | succ i ih =>
    have := ih (fun j hj => h j (by omega))
    have hi := h i (by omega)
    unfold In at hi
    unfold usedR
    split <;> omega
theorem leftR_mono (p : Pairs) (S : Nat → Room) (k i n : Nat) (hin : i ≤ n) (h : ∀ j, j < n → In (S j).many 1 4) : leftR p S n k ≤ leftR p S i k := by
  induction n with
  | zero => rw [show i = 0 by omega]; exact Int.le_refl _
  | succ n ih =>
    by_cases e : i = n + 1
    · rw [e]; exact Int.le_refl _
    · have := ih (by omega) (fun j hj => h j (by omega))
      have hn := h n (by omega)
      unfold In at hn
      by_cases c : (S n).cab = (k : Int)
      · rw [leftR_at p S n k c]; omega
      · rw [leftR_ne p S n k c]; exact this
def GoodC (p : Pairs) : Prop := GoodPairs p 6 1 3 1 4
/-- The room i by itself is as it should be. -/
def OkR0 (p : Pairs) (S : Nat → Room) (i : Nat) : Prop := In (S i).who 1 9999 ∧ ¬ Has (whoR S) i (S i).who ∧ In (S i).cab 0 ((p.n : Int) - 1) ∧ In (S i).many 1 4 ∧ ((S i).all = true → (S i).many = p.B (S i).cab.toNat)
/-- It and one before it do not bar each other. -/
def OkR2 (S : Nat → Room) (i j : Nat) : Prop := (S j).cab = (S i).cab → (S j).all = false ∧ (S i).all = false
def OkR (p : Pairs) (S : Nat → Room) (i : Nat) : Prop := OkR0 p S i ∧ ∀ j, j < i → OkR2 S i j
/-- Rooms are good for the cabins. -/
def RoomsS (p : Pairs) (n : Nat) (S : Nat → Room) : Prop := GoodC p ∧ n ≤ 60 ∧ (∀ i, i < n → OkR p S i) ∧ ∀ k, k < p.n → 0 ≤ leftR p S n k
theorem RoomsS.manys {p : Pairs} {n : Nat} {S : Nat → Room} (h : RoomsS p n S) : ∀ j, j < n → In (S j).many 1 4 := fun j hj => (h.2.2.1 j hj).1.2.2.2.1
theorem leftR_bounds {p : Pairs} {n : Nat} {S : Nat → Room} {k : Nat} (hg : GoodC p) (hn : n ≤ 60) (hl : ∀ j, j < n → In (S j).many 1 4) (hk : k < p.n) : -240 ≤ leftR p S n k ∧ leftR p S n k ≤ 4 := by
  have a := (hg.2 k hk).2
  have b := usedR_bounds S k n hl
  unfold In at a
  unfold leftR
  omega

open Classical in
noncomputable def roomsOk (p : Pairs) (n : Nat) (S : Nat → Room) : Bool := decide (RoomsS p n S)
noncomputable def berthsLen (p : Pairs) (n : Nat) (S : Nat → Room) : Nat := if roomsOk p n S then p.n else 0
theorem roomsOk_yes {p : Pairs} {n : Nat} {S : Nat → Room} (h : RoomsS p n S) : roomsOk p n S = true := by unfold roomsOk; simpa using h
theorem roomsOk_no {p : Pairs} {n : Nat} {S : Nat → Room} (h : ¬ RoomsS p n S) : roomsOk p n S = false := by unfold roomsOk; simpa using h
theorem berthsLen_yes {p : Pairs} {n : Nat} {S : Nat → Room} (h : RoomsS p n S) : berthsLen p n S = p.n := by unfold berthsLen; rw [roomsOk_yes h]; rfl
theorem berthsLen_no {p : Pairs} {n : Nat} {S : Nat → Room} (h : ¬ RoomsS p n S) : berthsLen p n S = 0 := by unfold berthsLen; rw [roomsOk_no h]; rfl
theorem berthsLen_le (p : Pairs) (n : Nat) (S : Nat → Room) : berthsLen p n S ≤ 6 := by
  by_cases h : RoomsS p n S
  · rw [berthsLen_yes h]; exact h.1.1
  · rw [berthsLen_no h]; omega
/-- What FreeBerths answers. -/
def BerthsRes (w' : World) (base t : Nat) (p : Pairs) (n : Nat) (S : Nat → Room) (e : Ending) : Prop :=
  ∃ v, e = .returned (.tuple #[v, .bool (roomsOk p n S)]) ∧ w'.ownsRow base t 1 v (berthsLen p n S) (intList (leftR p S n) (berthsLen p n S))
theorem berthsRes_no {w : World} {base t : Nat} {p : Pairs} {n : Nat} {S : Nat → Room} (h : ¬ RoomsS p n S) : BerthsRes w base t p n S (.returned (.tuple #[.slice none 0 0, .bool false])) :=
  ⟨.slice none 0 0, by rw [roomsOk_no h], by rw [berthsLen_no h]; exact ⟨rfl, .inl ⟨rfl, rfl⟩⟩⟩
theorem berthsRes_yes {w : World} {base t m : Nat} {p : Pairs} {n : Nat} {S : Nat → Room} {v : Value} (h : RoomsS p n S) (hm : p.n = m) (ho : w.ownsRow base t 1 v m (intList (leftR p S n) m)) : BerthsRes w base t p n S (.returned (.tuple #[v, .bool true])) :=
  ⟨v, by rw [roomsOk_yes h], by rw [berthsLen_yes h, hm]; exact ho⟩

/-- k is the first below m that P holds of. -/
def FirstOf (m : Nat) (P : Nat → Prop) (k : Nat) : Prop := k < m ∧ P k ∧ ∀ j, j < k → ¬ P j
theorem firstOf_one {m : Nat} {P : Nat → Prop} {k j : Nat} (h1 : FirstOf m P k) (h2 : FirstOf m P j) : k = j := by
  by_cases c : k < j
  · exact absurd h1.2.1 (h2.2.2 k c)
  · by_cases c2 : j < k
    · exact absurd h2.2.1 (h1.2.2 j c2)
    · omega
open Classical in
/-- The first, where G holds. -/
noncomputable def pickAt (G : Prop) (m : Nat) (P : Nat → Prop) : Option Nat := if h : G ∧ ∃ k, FirstOf m P k then some h.2.choose else none
theorem pickAt_yes {G : Prop} {m : Nat} {P : Nat → Prop} {k : Nat} (hg : G) (h : FirstOf m P k) : pickAt G m P = some k := by
  have he : G ∧ ∃ k, FirstOf m P k := ⟨hg, k, h⟩
  unfold pickAt
  rw [dif_pos he, firstOf_one he.2.choose_spec h]
theorem pickAt_no {G : Prop} {m : Nat} {P : Nat → Prop} (h : ∀ k, ¬ (G ∧ FirstOf m P k)) : pickAt G m P = none := by
  unfold pickAt
  rw [dif_neg (fun ⟨g, k, hk⟩ => h k ⟨g, hk⟩)]
theorem pickAt_some {G : Prop} {m : Nat} {P : Nat → Prop} {k : Nat} (h : pickAt G m P = some k) : G ∧ FirstOf m P k := by
  unfold pickAt at h
  split at h
  · rename_i he
    have := he.2.choose_spec
    simp only [Option.some.injEq] at h
    rw [h] at this
    exact ⟨he.1, this⟩
  · cases h

def PlaceG (p : Pairs) (n : Nat) (S : Nat → Room) (x : Int) : Prop := RoomsS p n S ∧ n ≠ 60 ∧ ¬ Has (whoR S) n x ∧ In x 1 9999
/-- A party gets a cabin whole. -/
def WholeG (p : Pairs) (n : Nat) (S : Nat → Room) (x cl q : Int) : Prop := PlaceG p n S x ∧ In cl 1 3 ∧ In q 1 20
def WholeP (p : Pairs) (n : Nat) (S : Nat → Room) (cl q : Int) (k : Nat) : Prop := p.A k = cl ∧ leftR p S n k = p.B k ∧ (q ≤ p.B k ∨ ¬ ∃ j, j < p.n ∧ p.A j = cl ∧ q ≤ p.B j)
noncomputable def wholeIx (p : Pairs) (n : Nat) (S : Nat → Room) (x cl q : Int) : Option Nat := pickAt (WholeG p n S x cl q) p.n (WholeP p n S cl q)
noncomputable def wholeOk (p : Pairs) (n : Nat) (S : Nat → Room) (x cl q : Int) : Bool := (wholeIx p n S x cl q).isSome
noncomputable def wholeAt (p : Pairs) (n : Nat) (S : Nat → Room) (x cl q : Int) : Int := ((wholeIx p n S x cl q).getD 0 : Nat)
noncomputable def wholeLen (p : Pairs) (n : Nat) (S : Nat → Room) (x cl q : Int) : Nat := if (wholeIx p n S x cl q).isSome then n + 1 else 0
noncomputable def wholeRooms (p : Pairs) (n : Nat) (S : Nat → Room) (x cl q : Int) : Nat → Room := roomCat S n (fun _ => ⟨x, wholeAt p n S x cl q, p.B ((wholeIx p n S x cl q).getD 0), true⟩)
theorem wholeLen_le (p : Pairs) (n : Nat) (S : Nat → Room) (x cl q : Int) : wholeLen p n S x cl q ≤ 60 := by
  unfold wholeLen
  cases h : wholeIx p n S x cl q with
  | none => simp
  | some k =>
    have := (pickAt_some h).1.1
    have h1 := this.1.2.1
    have h2 := this.2.1
    simp
    omega
def WholeRes (w' : World) (base t : Nat) (p : Pairs) (n : Nat) (S : Nat → Room) (x cl q : Int) (e : Ending) : Prop :=
  ∃ v, e = .returned (.tuple #[v, .int .i64 (wholeAt p n S x cl q), .bool (wholeOk p n S x cl q)]) ∧ w'.ownsRow base t 4 v (wholeLen p n S x cl q) (roomList (wholeRooms p n S x cl q) (wholeLen p n S x cl q))
theorem wholeRes_no {w : World} {base t : Nat} {p : Pairs} {n : Nat} {S : Nat → Room} {x cl q : Int} (h : ∀ k, ¬ (WholeG p n S x cl q ∧ FirstOf p.n (WholeP p n S cl q) k)) : WholeRes w base t p n S x cl q (.returned (.tuple #[.slice none 0 0, .int .i64 0, .bool false])) := by
  have e : wholeIx p n S x cl q = none := pickAt_no h
  refine ⟨.slice none 0 0, ?_, ?_⟩
  · unfold wholeAt wholeOk; rw [e]; rfl
  · unfold wholeLen; rw [e]; exact ⟨rfl, .inl ⟨rfl, rfl⟩⟩
theorem wholeRes_yes {w : World} {base t : Nat} {p : Pairs} {n : Nat} {S : Nat → Room} {x cl q : Int} {k : Nat} {v : Value} (hg : WholeG p n S x cl q) (h : FirstOf p.n (WholeP p n S cl q) k)
    (ho : w.ownsRow base t 4 v (n + 1) (roomList (roomCat S n (fun _ => ⟨x, (k : Int), p.B k, true⟩)) (n + 1))) : WholeRes w base t p n S x cl q (.returned (.tuple #[v, .int .i64 (k : Int), .bool true])) := by
  have e : wholeIx p n S x cl q = some k := pickAt_yes hg h
  refine ⟨v, ?_, ?_⟩
  · unfold wholeAt wholeOk; rw [e]; rfl
  · unfold wholeRooms wholeAt wholeLen; rw [e]; exact ho
/-- So many berths are given. -/
def BerthG (p : Pairs) (n : Nat) (S : Nat → Room) (x cl q : Int) : Prop := PlaceG p n S x ∧ In cl 1 3 ∧ In q 1 4
def BerthP (p : Pairs) (n : Nat) (S : Nat → Room) (cl q : Int) (k : Nat) : Prop := p.A k = cl ∧ q ≤ leftR p S n k
noncomputable def berthIx (p : Pairs) (n : Nat) (S : Nat → Room) (x cl q : Int) : Option Nat := pickAt (BerthG p n S x cl q) p.n (BerthP p n S cl q)
noncomputable def berthOk (p : Pairs) (n : Nat) (S : Nat → Room) (x cl q : Int) : Bool := (berthIx p n S x cl q).isSome
noncomputable def berthAt (p : Pairs) (n : Nat) (S : Nat → Room) (x cl q : Int) : Int := ((berthIx p n S x cl q).getD 0 : Nat)
noncomputable def berthLen (p : Pairs) (n : Nat) (S : Nat → Room) (x cl q : Int) : Nat := if (berthIx p n S x cl q).isSome then n + 1 else 0
noncomputable def berthRooms (p : Pairs) (n : Nat) (S : Nat → Room) (x cl q : Int) : Nat → Room := roomCat S n (fun _ => ⟨x, berthAt p n S x cl q, q, false⟩)
theorem berthLen_le (p : Pairs) (n : Nat) (S : Nat → Room) (x cl q : Int) : berthLen p n S x cl q ≤ 60 := by
  unfold berthLen
  cases h : berthIx p n S x cl q with
  | none => simp
  | some k =>
    have := (pickAt_some h).1.1
    have h1 := this.1.2.1
    have h2 := this.2.1
    simp
    omega
def BerthRes (w' : World) (base t : Nat) (p : Pairs) (n : Nat) (S : Nat → Room) (x cl q : Int) (e : Ending) : Prop :=
  ∃ v, e = .returned (.tuple #[v, .int .i64 (berthAt p n S x cl q), .bool (berthOk p n S x cl q)]) ∧ w'.ownsRow base t 4 v (berthLen p n S x cl q) (roomList (berthRooms p n S x cl q) (berthLen p n S x cl q))
theorem berthRes_no {w : World} {base t : Nat} {p : Pairs} {n : Nat} {S : Nat → Room} {x cl q : Int} (h : ∀ k, ¬ (BerthG p n S x cl q ∧ FirstOf p.n (BerthP p n S cl q) k)) : BerthRes w base t p n S x cl q (.returned (.tuple #[.slice none 0 0, .int .i64 0, .bool false])) := by
  have e : berthIx p n S x cl q = none := pickAt_no h
  refine ⟨.slice none 0 0, ?_, ?_⟩
  · unfold berthAt berthOk; rw [e]; rfl
  · unfold berthLen; rw [e]; exact ⟨rfl, .inl ⟨rfl, rfl⟩⟩
theorem berthRes_yes {w : World} {base t : Nat} {p : Pairs} {n : Nat} {S : Nat → Room} {x cl q : Int} {k : Nat} {v : Value} (hg : BerthG p n S x cl q) (h : FirstOf p.n (BerthP p n S cl q) k)
    (ho : w.ownsRow base t 4 v (n + 1) (roomList (roomCat S n (fun _ => ⟨x, (k : Int), q, false⟩)) (n + 1))) : BerthRes w base t p n S x cl q (.returned (.tuple #[v, .int .i64 (k : Int), .bool true])) := by
  have e : berthIx p n S x cl q = some k := pickAt_yes hg h
  refine ⟨v, ?_, ?_⟩
  · unfold berthAt berthOk; rw [e]; rfl
  · unfold berthRooms berthAt berthLen; rw [e]; exact ho
end Go.Proofs.YtaopapjnhlombaaGreat
