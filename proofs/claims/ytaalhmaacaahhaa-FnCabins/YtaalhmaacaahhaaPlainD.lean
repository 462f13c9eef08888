/-
  OWN TEXT: decks in plain words: who stands there, what is free, when a deck is good; no theorem of the program.
-/
import Derived.Test.YtaalhmaacaahhaaKitStay
import Derived.Test.YtaalhmaacaahhaaPlainH2
namespace Go.Proofs.Ytaalhmaacaahhaa
open Go.RowKit

/-- Who brought the stay j. -/
def whoS (S : Nat → Stay) (j : Nat) : Int := (S j).who
/-- How much of lane k the first i stays take. -/
def used (S : Nat → Stay) (k : Nat) : Nat → Int
  | 0 => 0
  | i + 1 => used S k i + (if (S i).ln = (k : Int) then (S i).len else 0)
/-- What the first i stays leave free of lane k. -/
def left (p : Pairs) (S : Nat → Stay) (i : Nat) (k : Nat) : Int := p.A k - used S k i
theorem left_0 (p : Pairs) (S : Nat → Stay) (k : Nat) : left p S 0 k = p.A k := by unfold left used; omega
theorem left_at (p : Pairs) (S : Nat → Stay) (i k : Nat) (h : (S i).ln = (k : Int)) : left p S (i + 1) k = left p S i k - (S i).len := by
  unfold left; rw [used, if_pos h]; omega
theorem left_ne (p : Pairs) (S : Nat → Stay) (i k : Nat) (h : (S i).ln ≠ (k : Int)) : left p S (i + 1) k = left p S i k := by
  unfold left; rw [used, if_neg h]; omega
theorem used_bounds (S : Nat → Stay) (k i : Nat) (h : ∀ j, j < i → In (S j).len 1 2000) : 0 ≤ used S k i ∧ used S k i ≤ 2000 * i := by
  induction i with
  | zero => exact ⟨Int.le_refl _, by unfold used; omega⟩
  | succ i ih =>
    have := ih (fun j hj => h j (by omega))
    have hi := h i (by omega)
    unfold In at hi
    unfold used
    split <;> omega
theorem left_mono (p : Pairs) (S : Nat → Stay) (k i n : Nat) (hin : i ≤ n) (h : ∀ j, j < n → In (S j).len 1 2000) : left p S n k ≤ left p S i k := by
  induction n with
  | zero => rw [show i = 0 by omega]; exact Int.le_refl _
  | succ n ih =>
    by_cases e : i = n + 1
    · rw [e]; exact Int.le_refl _
    · have := ih (by omega) (fun j hj => h j (by omega))
      have hn := h n (by omega)
      unfold In at hn
      by_cases c : (S n).ln = (k : Int)
      · rw [left_at p S n k c]; omega
      · rw [left_ne p S n k c]; exact this

/-- The stay may stand where it says, with F free. -/
structure Fits (p : Pairs) (F : Nat → Int) (s : Stay) : Prop where
  who : In s.who 1 9999
  len : In s.len 1 2000
  hei : In s.hei 1 500
  ln : In s.ln 0 ((p.n : Int) - 1)
  high : s.hei ≤ p.B s.ln.toNat
  room : s.len ≤ F s.ln.toNat
def GoodL (p : Pairs) : Prop := GoodPairs p 4 1 5000 100 500
/-- A good deck, as the program looks at it. -/
def DeckI (p : Pairs) (n : Nat) (S : Nat → Stay) : Prop := GoodL p ∧ n ≤ 60 ∧ ∀ i, i < n → ¬ Has (whoS S) i (S i).who ∧ Fits p (left p S i) (S i)
def OkS (p : Pairs) (S : Nat → Stay) (i : Nat) : Prop := In (S i).who 1 9999 ∧ In (S i).ln 0 ((p.n : Int) - 1) ∧ In (S i).len 1 2000 ∧ In (S i).hei 1 (p.B (S i).ln.toNat) ∧ ¬ Has (whoS S) i (S i).who
/-- A good deck, as the specification looks at it. -/
def DeckS (p : Pairs) (n : Nat) (S : Nat → Stay) : Prop := GoodL p ∧ n ≤ 60 ∧ (∀ i, i < n → OkS p S i) ∧ ∀ k, k < p.n → 0 ≤ left p S n k
theorem deck_iff (p : Pairs) (n : Nat) (S : Nat → Stay) : DeckS p n S ↔ DeckI p n S := by
  constructor
  · rintro ⟨hg, hn, ho, hf⟩
    refine ⟨hg, hn, fun i hi => ?_⟩
    obtain ⟨h1, h2, h3, h4, h5⟩ := ho i hi
    have hln : (S i).ln.toNat < p.n := by unfold In at h2; omega
    have hB := (hg.2 _ hln).2
    have hcast : (S i).ln = ((S i).ln.toNat : Int) := by unfold In at h2; omega
    refine ⟨h5, h1, h3, ⟨h4.1, ?_⟩, h2, h4.2, ?_⟩
    · unfold In at hB h4; omega
    · have a := hf _ hln
      have b := left_mono p S (S i).ln.toNat (i + 1) n (by omega) (fun j hj => (ho j hj).2.2.1)
      rw [left_at p S i _ hcast] at b
      omega
  · rintro ⟨hg, hn, ho⟩
    have key : ∀ i, i ≤ n → ∀ k, k < p.n → 0 ≤ left p S i k := by
      intro i
      induction i with
      | zero => intro _ k hk; rw [left_0]; have := (hg.2 k hk).1; unfold In at this; omega
      | succ i ih =>
        intro hi k hk
        have hp := ih (by omega) k hk
        have hfit := (ho i (by omega)).2
        by_cases c : (S i).ln = (k : Int)
        · rw [left_at p S i k c]
          have := hfit.room
          rw [c] at this
          simp at this
          omega
        · rw [left_ne p S i k c]; exact hp
    refine ⟨hg, hn, fun i hi => ?_, key n (Nat.le_refl _)⟩
    obtain ⟨h1, h2⟩ := ho i hi
    exact ⟨h2.who, h2.ln, h2.len, ⟨h2.hei.1, h2.high⟩, h1⟩
theorem DeckI.lens {p : Pairs} {n : Nat} {S : Nat → Stay} (h : DeckI p n S) : ∀ j, j < n → In (S j).len 1 2000 := fun j hj => (h.2.2 j hj).2.len
theorem left_bounds {p : Pairs} {n : Nat} {S : Nat → Stay} {k : Nat} (hg : GoodL p) (hn : n ≤ 60) (hl : ∀ j, j < n → In (S j).len 1 2000) (hk : k < p.n) : -120000 ≤ left p S n k ∧ left p S n k ≤ 5000 := by
  have a := (hg.2 k hk).1
  have b := used_bounds S k n hl
  unfold In at a
  unfold left
  omega

/-- What is free in lane k of a deck; 0 behind the lanes. -/
def freeAt (p : Pairs) (S : Nat → Stay) (i k : Nat) : Int := if k < p.n then left p S i k else 0
theorem freeAt_0 (p : Pairs) (S : Nat → Stay) (k : Nat) : freeAt p S 0 k = upto p.n p.A 0 k := by
  unfold freeAt upto
  rw [left_0]
theorem freeAt_step (p : Pairs) (S : Nat → Stay) (i m j : Nat) (hm : m < p.n) (h : (S i).ln = (m : Int)) : (if j = m then freeAt p S i m - (S i).len else freeAt p S i j) = freeAt p S (i + 1) j := by
  unfold freeAt
  by_cases e : j = m
  · subst e; rw [if_pos rfl, if_pos hm, if_pos hm, left_at p S i j h]
  · rw [if_neg e, left_ne p S i j (fun c => e (by omega))]
theorem fits_free {p : Pairs} {S : Nat → Stay} {i : Nat} {s : Stay} : Fits p (freeAt p S i) s ↔ Fits p (left p S i) s := by
  constructor
  · rintro ⟨a, b, c, d, e, f⟩
    refine ⟨a, b, c, d, e, ?_⟩
    have : freeAt p S i s.ln.toNat = left p S i s.ln.toNat := if_pos (by unfold In at d; omega)
    rw [← this]; exact f
  · rintro ⟨a, b, c, d, e, f⟩
    refine ⟨a, b, c, d, e, ?_⟩
    have : freeAt p S i s.ln.toNat = left p S i s.ln.toNat := if_pos (by unfold In at d; omega)
    rw [this]; exact f
theorem freeAt_bounds {p : Pairs} {n : Nat} {S : Nat → Stay} (k : Nat) (hg : GoodL p) (hn : n ≤ 60) (hl : ∀ j, j < n → In (S j).len 1 2000) : -120000 ≤ freeAt p S n k ∧ freeAt p S n k ≤ 5000 := by
  unfold freeAt
  split
  · exact left_bounds hg hn hl (by assumption)
  · omega

/-- The lane k is the first that has the height and the room. -/
def FirstLane (p : Pairs) (F : Nat → Int) (len hei : Int) (k : Nat) : Prop := k < p.n ∧ (hei ≤ p.B k ∧ len ≤ F k) ∧ ∀ j, j < k → ¬ (hei ≤ p.B j ∧ len ≤ F j)
theorem firstLane_one {p : Pairs} {F : Nat → Int} {len hei : Int} {k j : Nat} (h1 : FirstLane p F len hei k) (h2 : FirstLane p F len hei j) : k = j := by
  by_cases c : k < j
  · exact absurd h1.2.1 (h2.2.2 k c)
  · by_cases c2 : j < k
    · exact absurd h2.2.1 (h1.2.2 j c2)
    · omega
/-- A car can be placed, on lane k. -/
def Places (p : Pairs) (n : Nat) (S : Nat → Stay) (x len hei : Int) (k : Nat) : Prop :=
  DeckI p n S ∧ n ≠ 60 ∧ ¬ Has (whoS S) n x ∧ In x 1 9999 ∧ In len 1 2000 ∧ In hei 1 500 ∧ FirstLane p (left p S n) len hei k
/-- The stays with one more behind them. -/
def withStay (S : Nat → Stay) (n : Nat) (s : Stay) (i : Nat) : Stay := if i < n then S i else s
/-- The stays without the one at place r. -/
def without (S : Nat → Stay) (r : Nat) (i : Nat) : Stay := if i < r then S i else S (i + 1)

end Go.Proofs.Ytaalhmaacaahhaa
