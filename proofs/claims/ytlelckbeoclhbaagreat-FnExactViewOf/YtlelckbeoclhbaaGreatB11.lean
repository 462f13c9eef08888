/-
  OWN TEXT: PlainD, PlainR5, PlainSe, PlainOff.
-/
import Derived.Test.YtlelckbeoclhbaaGreatB09
import Derived.Test.YtlelckbeoclhbaaGreatB10
import Derived.Test.YtlelckbeoclhbaaGreatB07
set_option maxHeartbeats 12800000
set_option maxRecDepth 100000
namespace Go.Proofs.YtlelckbeoclhbaaGreat
open Go.RowKit
def whoS (S : Nat → Stay) (j : Nat) : Int := (S j).who
def used (S : Nat → Stay) (k : Nat) : Nat → Int
  | 0 => 0
  | i + 1 => used S k i + (if (S i).ln = (k : Int) then (S i).len else 0)
def left (p : Pairs) (S : Nat → Stay) (i : Nat) (k : Nat) : Int := p.A k - used S k i
theorem left_0 (p : Pairs) (S : Nat → Stay) (k : Nat) : left p S 0 k = p.A k := by unfold left used; omega
theorem left_at (p : Pairs) (S : Nat → Stay) (i k : Nat) (h : (S i).ln = (k : Int)) : left p S (i + 1) k = left p S i k - (S i).len := by
  unfold left; rw [used, if_pos h]; omega
theorem left_ne (p : Pairs) (S : Nat → Stay) (i k : Nat) (h : (S i).ln ≠ (k : Int)) : left p S (i + 1) k = left p S i k := by
  unfold left; rw [used, if_neg h]; omega
theorem used_bounds (S : Nat → Stay) (k i : Nat) (h : ∀ j, j < i → In (S j).len 1 2000) : 0 ≤ used S k i ∧ used S k i ≤ 2000 * i := by
  induction i with
  | zero => exact ⟨Int.le_refl _, by unfold used; omega⟩
  | succ i ih =>
    have := ih (fun j hj => h j (by omega))
    have hi := h i (by omega)
    unfold In at hi
    unfold used
    split <;> omega
theorem left_mono (p : Pairs) (S : Nat → Stay) (k i n : Nat) (hin : i ≤ n) (h : ∀ j, j < n → In (S j).len 1 2000) : left p S n k ≤ left p S i k := by
  induction n with
  | zero => rw [show i = 0 by omega]; exact Int.le_refl _
  | succ n ih =>
    by_cases e : i = n + 1
    · rw [e]; exact Int.le_refl _
    · have := ih (by omega) (fun j hj => h j (by omega))
      have hn := h n (by omega)
      unfold In at hn
      by_cases c : (S n).ln = (k : Int)
      · rw [left_at p S n k c]; omega
      · rw [left_ne p S n k c]; exact this
structure Fits (p : Pairs) (F : Nat → Int) (s : Stay) : Prop where
  who : In s.who 1 9999
  len : In s.len 1 2000
  hei : In s.hei 1 500
  ln : In s.ln 0 ((p.n : Int) - 1)
  high : s.hei ≤ p.B s.ln.toNat
  room : s.len ≤ F s.ln.toNat
def GoodL (p : Pairs) : Prop := GoodPairs p 4 1 5000 100 500
def DeckI (p : Pairs) (n : Nat) (S : Nat → Stay) : Prop := GoodL p ∧ n ≤ 60 ∧ ∀ i, i < n → ¬ Has (whoS S) i (S i).who ∧ Fits p (left p S i) (S i)
def OkS (p : Pairs) (S : Nat → Stay) (i : Nat) : Prop := In (S i).who 1 9999 ∧ In (S i).ln 0 ((p.n : Int) - 1) ∧ In (S i).len 1 2000 ∧ In (S i).hei 1 (p.B (S i).ln.toNat) ∧ ¬ Has (whoS S) i (S i).who
def DeckS (p : Pairs) (n : Nat) (S : Nat → Stay) : Prop := GoodL p ∧ n ≤ 60 ∧ (∀ i, i < n → OkS p S i) ∧ ∀ k, k < p.n → 0 ≤ left p S n k
theorem deck_iff (p : Pairs) (n : Nat) (S : Nat → Stay) : DeckS p n S ↔ DeckI p n S := by
  constructor
  · rintro ⟨hg, hn, ho, hf⟩
    refine ⟨hg, hn, fun i hi => ?_⟩
    obtain ⟨h1, h2, h3, h4, h5⟩ := ho i hi
    have hln : (S i).ln.toNat < p.n := by unfold In at h2; omega
    have hB := (hg.2 _ hln).2
    have hcast : (S i).ln = ((S i).ln.toNat : Int) := by unfold In at h2; omega
    refine ⟨h5, h1, h3, ⟨h4.1, ?_⟩, h2, h4.2, ?_⟩
    · unfold In at hB h4; omega
    · have a := hf _ hln
      have b := left_mono p S (S i).ln.toNat (i + 1) n (by omega) (fun j hj => (ho j hj).2.2.1)
      rw [left_at p S i _ hcast] at b
      omega
  · rintro ⟨hg, hn, ho⟩
    have key : ∀ i, i ≤ n → ∀ k, k < p.n → 0 ≤ left p S i k := by
      intro i
      induction i with
      | zero => intro _ k hk; rw [left_0]; have := (hg.2 k hk).1; unfold In at this; omega
      | succ i ih =>
        intro hi k hk
        have hp := ih (by omega) k hk
        have hfit := (ho i (by omega)).2
        by_cases c : (S i).ln = (k : Int)
        · rw [left_at p S i k c]
          have := hfit.room
          rw [c] at this
          simp at this
          omega
        · rw [left_ne p S i k c]; exact hp
    refine ⟨hg, hn, fun i hi => ?_, key n (Nat.le_refl _)⟩
    obtain ⟨h1, h2⟩ := ho i hi
    exact ⟨h2.who, h2.ln, h2.len, ⟨h2.hei.1, h2.high⟩, h1⟩
theorem DeckI.lens {p : Pairs} {n : Nat} {S : Nat → Stay} (h : DeckI p n S) : ∀ j, j < n → In (S j).len 1 2000 := fun j hj => (h.2.2 j hj).2.len
theorem left_bounds {p : Pairs} {n : Nat} {S : Nat → Stay} {k : Nat} (hg : GoodL p) (hn : n ≤ 60) (hl : ∀ j, j < n → In (S j).len 1 2000) (hk : k < p.n) : -120000 ≤ left p S n k ∧ left p S n k ≤ 5000 := by
  have a := (hg.2 k hk).1
  have b := used_bounds S k n hl
  unfold In at a
  unfold left
  omega
def freeAt (p : Pairs) (S : Nat → Stay) (i k : Nat) : Int := if k < p.n then left p S i k else 0
theorem freeAt_0 (p : Pairs) (S : Nat → Stay) (k : Nat) : freeAt p S 0 k = upto p.n p.A 0 k := by
  unfold freeAt upto
  rw [left_0]
theorem freeAt_step (p : Pairs) (S : Nat → Stay) (i m j : Nat) (hm : m < p.n) (h : (S i).ln = (m : Int)) : (if j = m then freeAt p S i m - (S i).len else freeAt p S i j) = freeAt p S (i + 1) j := by
  unfold freeAt
  by_cases e : j = m
  · subst e; rw [if_pos rfl, if_pos hm, if_pos hm, left_at p S i j h]
  · rw [if_neg e, left_ne p S i j (fun c => e (by omega))]
theorem fits_free {p : Pairs} {S : Nat → Stay} {i : Nat} {s : Stay} : Fits p (freeAt p S i) s ↔ Fits p (left p S i) s := by
  constructor
  · rintro ⟨a, b, c, d, e, f⟩
    refine ⟨a, b, c, d, e, ?_⟩
    have : freeAt p S i s.ln.toNat = left p S i s.ln.toNat := if_pos (by unfold In at d; omega)
    rw [← this]; exact f
  · rintro ⟨a, b, c, d, e, f⟩
    refine ⟨a, b, c, d, e, ?_⟩
    have : freeAt p S i s.ln.toNat = left p S i s.ln.toNat := if_pos (by unfold In at d; omega)
    rw [this]; exact f
theorem freeAt_bounds {p : Pairs} {n : Nat} {S : Nat → Stay} (k : Nat) (hg : GoodL p) (hn : n ≤ 60) (hl : ∀ j, j < n → In (S j).len 1 2000) : -120000 ≤ freeAt p S n k ∧ freeAt p S n k ≤ 5000 := by
  unfold freeAt
  split
  · exact left_bounds hg hn hl (by assumption)
  · omega
def FirstLane (p : Pairs) (F : Nat → Int) (len hei : Int) (k : Nat) : Prop := k < p.n ∧ (hei ≤ p.B k ∧ len ≤ F k) ∧ ∀ j, j < k → ¬ (hei ≤ p.B j ∧ len ≤ F j)
theorem firstLane_one {p : Pairs} {F : Nat → Int} {len hei : Int} {k j : Nat} (h1 : FirstLane p F len hei k) (h2 : FirstLane p F len hei j) : k = j := by
  by_cases c : k < j
  · exact absurd h1.2.1 (h2.2.2 k c)
  · by_cases c2 : j < k
    · exact absurd h2.2.1 (h1.2.2 j c2)
    · omega
def Places (p : Pairs) (n : Nat) (S : Nat → Stay) (x len hei : Int) (k : Nat) : Prop :=
  DeckI p n S ∧ n ≠ 60 ∧ ¬ Has (whoS S) n x ∧ In x 1 9999 ∧ In len 1 2000 ∧ In hei 1 500 ∧ FirstLane p (left p S n) len hei k
def withStay (S : Nat → Stay) (n : Nat) (s : Stay) (i : Nat) : Stay := if i < n then S i else s
def without (S : Nat → Stay) (r : Nat) (i : Nat) : Stay := if i < r then S i else S (i + 1)
end Go.Proofs.YtlelckbeoclhbaaGreat

namespace Go.Proofs.YtlelckbeoclhbaaGreat
open Go.RowKit
def whoR (S : Nat → Room) (j : Nat) : Int := (S j).who
def usedR (S : Nat → Room) (k : Nat) : Nat → Int
  | 0 => 0
  | i + 1 => usedR S k i + (if (S i).cab = (k : Int) then (S i).many else 0)
def leftR (p : Pairs) (S : Nat → Room) (i : Nat) (k : Nat) : Int := p.B k - usedR S k i
theorem leftR_0 (p : Pairs) (S : Nat → Room) (k : Nat) : leftR p S 0 k = p.B k := by unfold leftR usedR; omega
theorem leftR_at (p : Pairs) (S : Nat → Room) (i k : Nat) (h : (S i).cab = (k : Int)) : leftR p S (i + 1) k = leftR p S i k - (S i).many := by
  unfold leftR; rw [usedR, if_pos h]; omega
theorem leftR_ne (p : Pairs) (S : Nat → Room) (i k : Nat) (h : (S i).cab ≠ (k : Int)) : leftR p S (i + 1) k = leftR p S i k := by
  unfold leftR; rw [usedR, if_neg h]; omega
theorem usedR_bounds (S : Nat → Room) (k i : Nat) (h : ∀ j, j < i → In (S j).many 1 4) : 0 ≤ usedR S k i ∧ usedR S k i ≤ 4 * i := by
  induction i with
  | zero => exact ⟨Int.le_refl _, by unfold usedR; omega⟩
  | succ i ih =>
    have := ih (fun j hj => h j (by omega))
    have hi := h i (by omega)
    unfold In at hi
    unfold usedR
    split <;> omega
theorem leftR_mono (p : Pairs) (S : Nat → Room) (k i n : Nat) (hin : i ≤ n) (h : ∀ j, j < n → In (S j).many 1 4) : leftR p S n k ≤ leftR p S i k := by
  induction n with
  | zero => rw [show i = 0 by omega]; exact Int.le_refl _
  | succ n ih =>
    by_cases e : i = n + 1
    · rw [e]; exact Int.le_refl _
    · have := ih (by omega) (fun j hj => h j (by omega))
      have hn := h n (by omega)
      unfold In at hn
      by_cases c : (S n).cab = (k : Int)
      · rw [leftR_at p S n k c]; omega
      · rw [leftR_ne p S n k c]; exact this
def GoodC (p : Pairs) : Prop := GoodPairs p 6 1 3 1 4
def OkR0 (p : Pairs) (S : Nat → Room) (i : Nat) : Prop := In (S i).who 1 9999 ∧ ¬ Has (whoR S) i (S i).who ∧ In (S i).cab 0 ((p.n : Int) - 1) ∧ In (S i).many 1 4 ∧ ((S i).all = true → (S i).many = p.B (S i).cab.toNat)
def OkR2 (S : Nat → Room) (i j : Nat) : Prop := (S j).cab = (S i).cab → (S j).all = false ∧ (S i).all = false
def OkR (p : Pairs) (S : Nat → Room) (i : Nat) : Prop := OkR0 p S i ∧ ∀ j, j < i → OkR2 S i j
def RoomsS (p : Pairs) (n : Nat) (S : Nat → Room) : Prop := GoodC p ∧ n ≤ 60 ∧ (∀ i, i < n → OkR p S i) ∧ ∀ k, k < p.n → 0 ≤ leftR p S n k
theorem RoomsS.manys {p : Pairs} {n : Nat} {S : Nat → Room} (h : RoomsS p n S) : ∀ j, j < n → In (S j).many 1 4 := fun j hj => (h.2.2.1 j hj).1.2.2.2.1
theorem leftR_bounds {p : Pairs} {n : Nat} {S : Nat → Room} {k : Nat} (hg : GoodC p) (hn : n ≤ 60) (hl : ∀ j, j < n → In (S j).many 1 4) (hk : k < p.n) : -240 ≤ leftR p S n k ∧ leftR p S n k ≤ 4 := by
  have a := (hg.2 k hk).2
  have b := usedR_bounds S k n hl
  unfold In at a
  unfold leftR
  omega
open Classical in
noncomputable def roomsOk (p : Pairs) (n : Nat) (S : Nat → Room) : Bool := decide (RoomsS p n S)
noncomputable def berthsLen (p : Pairs) (n : Nat) (S : Nat → Room) : Nat := if roomsOk p n S then p.n else 0
theorem roomsOk_yes {p : Pairs} {n : Nat} {S : Nat → Room} (h : RoomsS p n S) : roomsOk p n S = true := by unfold roomsOk; simpa using h
theorem roomsOk_no {p : Pairs} {n : Nat} {S : Nat → Room} (h : ¬ RoomsS p n S) : roomsOk p n S = false := by unfold roomsOk; simpa using h
theorem berthsLen_yes {p : Pairs} {n : Nat} {S : Nat → Room} (h : RoomsS p n S) : berthsLen p n S = p.n := by unfold berthsLen; rw [roomsOk_yes h]; rfl
theorem berthsLen_no {p : Pairs} {n : Nat} {S : Nat → Room} (h : ¬ RoomsS p n S) : berthsLen p n S = 0 := by unfold berthsLen; rw [roomsOk_no h]; rfl
theorem berthsLen_le (p : Pairs) (n : Nat) (S : Nat → Room) : berthsLen p n S ≤ 6 := by
  by_cases h : RoomsS p n S
  · rw [berthsLen_yes h]; exact h.1.1
  · rw [berthsLen_no h]; omega
def BerthsRes (w' : World) (base t : Nat) (p : Pairs) (n : Nat) (S : Nat → Room) (e : Ending) : Prop :=
  ∃ v, e = .returned (.tuple #[v, .bool (roomsOk p n S)]) ∧ w'.ownsRow base t 1 v (berthsLen p n S) (intList (leftR p S n) (berthsLen p n S))
theorem berthsRes_no {w : World} {base t : Nat} {p : Pairs} {n : Nat} {S : Nat → Room} (h : ¬ RoomsS p n S) : BerthsRes w base t p n S (.returned (.tuple #[.slice none 0 0, .bool false])) :=
  ⟨.slice none 0 0, by rw [roomsOk_no h], by rw [berthsLen_no h]; exact ⟨rfl, .inl ⟨rfl, rfl⟩⟩⟩
theorem berthsRes_yes {w : World} {base t m : Nat} {p : Pairs} {n : Nat} {S : Nat → Room} {v : Value} (h : RoomsS p n S) (hm : p.n = m) (ho : w.ownsRow base t 1 v m (intList (leftR p S n) m)) : BerthsRes w base t p n S (.returned (.tuple #[v, .bool true])) :=
  ⟨v, by rw [roomsOk_yes h], by rw [berthsLen_yes h, hm]; exact ho⟩
def FirstOf (m : Nat) (P : Nat → Prop) (k : Nat) : Prop := k < m ∧ P k ∧ ∀ j, j < k → ¬ P j
theorem firstOf_one {m : Nat} {P : Nat → Prop} {k j : Nat} (h1 : FirstOf m P k) (h2 : FirstOf m P j) : k = j := by
  by_cases c : k < j
  · exact absurd h1.2.1 (h2.2.2 k c)
  · by_cases c2 : j < k
    · exact absurd h2.2.1 (h1.2.2 j c2)
    · omega
open Classical in
noncomputable def pickAt (G : Prop) (m : Nat) (P : Nat → Prop) : Option Nat := if h : G ∧ ∃ k, FirstOf m P k then some h.2.choose else none
theorem pickAt_yes {G : Prop} {m : Nat} {P : Nat → Prop} {k : Nat} (hg : G) (h : FirstOf m P k) : pickAt G m P = some k := by
  have he : G ∧ ∃ k, FirstOf m P k := ⟨hg, k, h⟩
  unfold pickAt
  rw [dif_pos he, firstOf_one he.2.choose_spec h]
theorem pickAt_no {G : Prop} {m : Nat} {P : Nat → Prop} (h : ∀ k, ¬ (G ∧ FirstOf m P k)) : pickAt G m P = none := by
  unfold pickAt
  rw [dif_neg (fun ⟨g, k, hk⟩ => h k ⟨g, hk⟩)]
theorem pickAt_some {G : Prop} {m : Nat} {P : Nat → Prop} {k : Nat} (h : pickAt G m P = some k) : G ∧ FirstOf m P k := by
  unfold pickAt at h
  split at h
  · rename_i he
    have := he.2.choose_spec
    simp only [Option.some.injEq] at h
    rw [h] at this
    exact ⟨he.1, this⟩
  · cases h
def PlaceG (p : Pairs) (n : Nat) (S : Nat → Room) (x : Int) : Prop := RoomsS p n S ∧ n ≠ 60 ∧ ¬ Has (whoR S) n x ∧ In x 1 9999
def WholeG (p : Pairs) (n : Nat) (S : Nat → Room) (x cl q : Int) : Prop := PlaceG p n S x ∧ In cl 1 3 ∧ In q 1 20
def WholeP (p : Pairs) (n : Nat) (S : Nat → Room) (cl q : Int) (k : Nat) : Prop := p.A k = cl ∧ leftR p S n k = p.B k ∧ (q ≤ p.B k ∨ ¬ ∃ j, j < p.n ∧ p.A j = cl ∧ q ≤ p.B j)
noncomputable def wholeIx (p : Pairs) (n : Nat) (S : Nat → Room) (x cl q : Int) : Option Nat := pickAt (WholeG p n S x cl q) p.n (WholeP p n S cl q)
noncomputable def wholeOk (p : Pairs) (n : Nat) (S : Nat → Room) (x cl q : Int) : Bool := (wholeIx p n S x cl q).isSome
noncomputable def wholeAt (p : Pairs) (n : Nat) (S : Nat → Room) (x cl q : Int) : Int := ((wholeIx p n S x cl q).getD 0 : Nat)
noncomputable def wholeLen (p : Pairs) (n : Nat) (S : Nat → Room) (x cl q : Int) : Nat := if (wholeIx p n S x cl q).isSome then n + 1 else 0
noncomputable def wholeRooms (p : Pairs) (n : Nat) (S : Nat → Room) (x cl q : Int) : Nat → Room := roomCat S n (fun _ => ⟨x, wholeAt p n S x cl q, p.B ((wholeIx p n S x cl q).getD 0), true⟩)
theorem wholeLen_le (p : Pairs) (n : Nat) (S : Nat → Room) (x cl q : Int) : wholeLen p n S x cl q ≤ 60 := by
  unfold wholeLen
  cases h : wholeIx p n S x cl q with
  | none => simp
  | some k =>
    have := (pickAt_some h).1.1
    have h1 := this.1.2.1
    have h2 := this.2.1
    simp
    omega
def WholeRes (w' : World) (base t : Nat) (p : Pairs) (n : Nat) (S : Nat → Room) (x cl q : Int) (e : Ending) : Prop :=
  ∃ v, e = .returned (.tuple #[v, .int .i64 (wholeAt p n S x cl q), .bool (wholeOk p n S x cl q)]) ∧ w'.ownsRow base t 4 v (wholeLen p n S x cl q) (roomList (wholeRooms p n S x cl q) (wholeLen p n S x cl q))
theorem wholeRes_no {w : World} {base t : Nat} {p : Pairs} {n : Nat} {S : Nat → Room} {x cl q : Int} (h : ∀ k, ¬ (WholeG p n S x cl q ∧ FirstOf p.n (WholeP p n S cl q) k)) : WholeRes w base t p n S x cl q (.returned (.tuple #[.slice none 0 0, .int .i64 0, .bool false])) := by
  have e : wholeIx p n S x cl q = none := pickAt_no h
  refine ⟨.slice none 0 0, ?_, ?_⟩
  · unfold wholeAt wholeOk; rw [e]; rfl
  · unfold wholeLen; rw [e]; exact ⟨rfl, .inl ⟨rfl, rfl⟩⟩
theorem wholeRes_yes {w : World} {base t : Nat} {p : Pairs} {n : Nat} {S : Nat → Room} {x cl q : Int} {k : Nat} {v : Value} (hg : WholeG p n S x cl q) (h : FirstOf p.n (WholeP p n S cl q) k)
    (ho : w.ownsRow base t 4 v (n + 1) (roomList (roomCat S n (fun _ => ⟨x, (k : Int), p.B k, true⟩)) (n + 1))) : WholeRes w base t p n S x cl q (.returned (.tuple #[v, .int .i64 (k : Int), .bool true])) := by
  have e : wholeIx p n S x cl q = some k := pickAt_yes hg h
  refine ⟨v, ?_, ?_⟩
  · unfold wholeAt wholeOk; rw [e]; rfl
  · unfold wholeRooms wholeAt wholeLen; rw [e]; exact ho
def BerthG (p : Pairs) (n : Nat) (S : Nat → Room) (x cl q : Int) : Prop := PlaceG p n S x ∧ In cl 1 3 ∧ In q 1 4
def BerthP (p : Pairs) (n : Nat) (S : Nat → Room) (cl q : Int) (k : Nat) : Prop := p.A k = cl ∧ q ≤ leftR p S n k
noncomputable def berthIx (p : Pairs) (n : Nat) (S : Nat → Room) (x cl q : Int) : Option Nat := pickAt (BerthG p n S x cl q) p.n (BerthP p n S cl q)
noncomputable def berthOk (p : Pairs) (n : Nat) (S : Nat → Room) (x cl q : Int) : Bool := (berthIx p n S x cl q).isSome
noncomputable def berthAt (p : Pairs) (n : Nat) (S : Nat → Room) (x cl q : Int) : Int := ((berthIx p n S x cl q).getD 0 : Nat)
noncomputable def berthLen (p : Pairs) (n : Nat) (S : Nat → Room) (x cl q : Int) : Nat := if (berthIx p n S x cl q).isSome then n + 1 else 0
noncomputable def berthRooms (p : Pairs) (n : Nat) (S : Nat → Room) (x cl q : Int) : Nat → Room := roomCat S n (fun _ => ⟨x, berthAt p n S x cl q, q, false⟩)
theorem berthLen_le (p : Pairs) (n : Nat) (S : Nat → Room) (x cl q : Int) : berthLen p n S x cl q ≤ 60 := by
  unfold berthLen
  cases h : berthIx p n S x cl q with
  | none => simp
  | some k =>
    have := (pickAt_some h).1.1
    have h1 := this.1.2.1
    have h2 := this.2.1
    simp
    omega
def BerthRes (w' : World) (base t : Nat) (p : Pairs) (n : Nat) (S : Nat → Room) (x cl q : Int) (e : Ending) : Prop :=
  ∃ v, e = .returned (.tuple #[v, .int .i64 (berthAt p n S x cl q), .bool (berthOk p n S x cl q)]) ∧ w'.ownsRow base t 4 v (berthLen p n S x cl q) (roomList (berthRooms p n S x cl q) (berthLen p n S x cl q))
theorem berthRes_no {w : World} {base t : Nat} {p : Pairs} {n : Nat} {S : Nat → Room} {x cl q : Int} (h : ∀ k, ¬ (BerthG p n S x cl q ∧ FirstOf p.n (BerthP p n S cl q) k)) : BerthRes w base t p n S x cl q (.returned (.tuple #[.slice none 0 0, .int .i64 0, .bool false])) := by
  have e : berthIx p n S x cl q = none := pickAt_no h
  refine ⟨.slice none 0 0, ?_, ?_⟩
  · unfold berthAt berthOk; rw [e]; rfl
  · unfold berthLen; rw [e]; exact ⟨rfl, .inl ⟨rfl, rfl⟩⟩
theorem berthRes_yes {w : World} {base t : Nat} {p : Pairs} {n : Nat} {S : Nat → Room} {x cl q : Int} {k : Nat} {v : Value} (hg : BerthG p n S x cl q) (h : FirstOf p.n (BerthP p n S cl q) k)
    (ho : w.ownsRow base t 4 v (n + 1) (roomList (roomCat S n (fun _ => ⟨x, (k : Int), q, false⟩)) (n + 1))) : BerthRes w base t p n S x cl q (.returned (.tuple #[v, .int .i64 (k : Int), .bool true])) := by
  have e : berthIx p n S x cl q = some k := pickAt_yes hg h
  refine ⟨v, ?_, ?_⟩
  · unfold berthAt berthOk; rw [e]; rfl
  · unfold berthRooms berthAt berthLen; rw [e]; exact ho
end Go.Proofs.YtlelckbeoclhbaaGreat

namespace Go.Proofs.YtlelckbeoclhbaaGreat
open Go.RowKit
def whoT (S : Nat → Seat) (j : Nat) : Int := (S j).who
def sits (S : Nat → Seat) : Nat → Int
  | 0 => 0
  | i + 1 => sits S i + (S i).many
def SeatsOk (most : Int) (n : Nat) (S : Nat → Seat) : Prop :=
  In most 0 500 ∧ n ≤ 60 ∧ (∀ i, i < n → In (S i).who 1 9999 ∧ ¬ Has (whoT S) i (S i).who ∧ In (S i).many 1 20) ∧ sits S n ≤ most
theorem sits_bounds (S : Nat → Seat) (i : Nat) (h : ∀ j, j < i → In (S j).many 1 20) : 0 ≤ sits S i ∧ sits S i ≤ 20 * i := by
  induction i with
  | zero => exact ⟨Int.le_refl _, by unfold sits; omega⟩
  | succ i ih =>
    have := ih (fun j hj => h j (by omega))
    have hi := h i (by omega)
    unfold In at hi
    unfold sits
    omega
def seatsWith (S : Nat → Seat) (n : Nat) (x many : Int) : Nat → Seat := seatCat S n (fun _ => ⟨x, many⟩)
def SeatsTake (most : Int) (n : Nat) (S : Nat → Seat) (x many : Int) : Prop := SeatsOk most n S ∧ SeatsOk most (n + 1) (seatsWith S n x many)
open Classical in
noncomputable def takeSOk (most : Int) (n : Nat) (S : Nat → Seat) (x many : Int) : Bool := decide (SeatsTake most n S x many)
noncomputable def takeSLen (most : Int) (n : Nat) (S : Nat → Seat) (x many : Int) : Nat := if takeSOk most n S x many then n + 1 else 0
theorem takeSOk_yes {most : Int} {n : Nat} {S : Nat → Seat} {x many : Int} (h : SeatsTake most n S x many) : takeSOk most n S x many = true := by unfold takeSOk; simpa using h
theorem takeSOk_no {most : Int} {n : Nat} {S : Nat → Seat} {x many : Int} (h : ¬ SeatsTake most n S x many) : takeSOk most n S x many = false := by unfold takeSOk; simpa using h
theorem takeSLen_le (most : Int) (n : Nat) (S : Nat → Seat) (x many : Int) : takeSLen most n S x many ≤ 60 := by
  unfold takeSLen
  by_cases h : SeatsTake most n S x many
  · have := h.2.2.1
    rw [takeSOk_yes h]; simp; omega
  · rw [takeSOk_no h]; simp
def SeatsRes (w' : World) (base t : Nat) (most : Int) (n : Nat) (S : Nat → Seat) (x many : Int) (e : Ending) : Prop :=
  ∃ v, e = .returned (.tuple #[v, .bool (takeSOk most n S x many)]) ∧ w'.ownsRow base t 2 v (takeSLen most n S x many) (seatList (seatsWith S n x many) (takeSLen most n S x many))
theorem seatsRes_no {w : World} {base t : Nat} {most : Int} {n : Nat} {S : Nat → Seat} {x many : Int} (h : ¬ SeatsTake most n S x many) : SeatsRes w base t most n S x many (.returned (.tuple #[.slice none 0 0, .bool false])) := by
  refine ⟨.slice none 0 0, by rw [takeSOk_no h], ?_⟩
  unfold takeSLen; rw [takeSOk_no h]; exact ⟨rfl, .inl ⟨rfl, rfl⟩⟩
theorem seatsRes_yes {w : World} {base t : Nat} {most : Int} {n : Nat} {S : Nat → Seat} {x many : Int} {v : Value} (h : SeatsTake most n S x many)
    (ho : w.ownsRow base t 2 v (n + 1) (seatList (seatsWith S n x many) (n + 1))) : SeatsRes w base t most n S x many (.returned (.tuple #[v, .bool true])) := by
  refine ⟨v, by rw [takeSOk_yes h], ?_⟩
  unfold takeSLen; rw [takeSOk_yes h]; exact ho
end Go.Proofs.YtlelckbeoclhbaaGreat

namespace Go.Proofs.YtlelckbeoclhbaaGreat
open Go.RowKit
def Book.p (b : Book) : Party := ⟨b.pe, b.len, b.hei, b.cl, b.all, b.be⟩
def Live (b : Book) : Prop := b.state = 1 ∨ b.state = 2
instance (b : Book) : Decidable (Live b) := by unfold Live; exact inferInstance
def HasLeg (b : Book) (x : Int) : Prop := ∃ j, j < b.lgn ∧ b.lg j = x
def UntilB (b : Book) : Prop := if b.state = 1 ∨ b.state = 4 then In b.unt 0 10000 else b.unt = 0
instance (b : Book) : Decidable (UntilB b) := by unfold UntilB; exact inferInstance
def BookOk (o : Off) (i : Nat) : Prop :=
  (o.bk i).name = i + 1 ∧ In (o.bk i).who 1 9999 ∧ IsName (o.bk i).own ∧ LegsOk o.san o.sa (o.bk i).lgn (o.bk i).lg ∧ PartyOk (o.bk i).p ∧ In (o.bk i).state 1 4 ∧ In (o.bk i).price 0 1000000 ∧
    (∀ j, j < i → (o.bk j).who ≠ (o.bk i).who) ∧ UntilB (o.bk i)
def SeatIn (x : Load) (b : Book) (n : Nat) : Prop := ∃ j, j < n ∧ (x.se j).who = b.who ∧ (x.se j).many = b.pe
def StayIn (x : Load) (b : Book) (n : Nat) : Prop := ∃ j, j < n ∧ (x.st j).who = b.who ∧ (x.st j).len = b.len ∧ (x.st j).hei = b.hei
def RoomFits (s : Sail) (b : Book) (r : Room) : Prop := r.who = b.who ∧ r.all = b.all ∧ s.ca.A r.cab.toNat = b.cl ∧ (b.all = true ∨ r.many = b.be)
def RoomIn (s : Sail) (x : Load) (b : Book) (n : Nat) : Prop := ∃ j, j < n ∧ RoomFits s b (x.ro j)
def StandsB (s : Sail) (x : Load) (b : Book) : Prop := SeatIn x b x.sen ∧ (b.len = 0 ∨ StayIn x b x.stn) ∧ (b.cl = 0 ∨ RoomIn s x b x.ron)
open Classical in
noncomputable def cnt (P : Nat → Prop) : Nat → Nat
  | 0 => 0
  | n + 1 => cnt P n + (if P n then 1 else 0)
theorem cnt_yes {P : Nat → Prop} {n : Nat} (h : P n) : cnt P (n + 1) = cnt P n + 1 := by rw [cnt, if_pos h]
theorem cnt_no {P : Nat → Prop} {n : Nat} (h : ¬ P n) : cnt P (n + 1) = cnt P n := by rw [cnt, if_neg h]; rfl
theorem cnt_le (P : Nat → Prop) (n : Nat) : cnt P n ≤ n := by
  induction n with
  | zero => exact Nat.le_refl _
  | succ n ih =>
    by_cases h : P n
    · rw [cnt_yes h]; omega
    · rw [cnt_no h]; omega
def LoadOk (s : Sail) (x : Load) : Prop := DeckS s.la x.stn x.st ∧ RoomsS s.ca x.ron x.ro ∧ SeatsOk s.most x.sen x.se
theorem rooms_cab {p : Pairs} {n : Nat} {S : Nat → Room} (h : RoomsS p n S) : ∀ j, j < n → 0 ≤ (S j).cab ∧ (S j).cab < p.n := fun j hj => by
  have := (h.2.2.1 j hj).1
  unfold OkR0 In at this
  omega
def On (o : Off) (k i : Nat) : Prop := Live (o.bk i) ∧ HasLeg (o.bk i) (o.sa k).id
def Tallies (o : Off) (k : Nat) : Prop :=
  (∀ i, i < o.bkn → On o k i → StandsB (o.sa k) (o.ld k) (o.bk i)) ∧ (o.ld k).stn = cnt (fun i => On o k i ∧ 0 < (o.bk i).len) o.bkn ∧ (o.ld k).ron = cnt (fun i => On o k i ∧ 0 < (o.bk i).cl) o.bkn ∧ (o.ld k).sen = cnt (On o k) o.bkn
def OffOk (o : Off) : Prop :=
  GoodTab o.san o.sa ∧ o.ldn = o.san ∧ o.bkn ≤ 30 ∧ (∀ k, k < o.san → LoadOk (o.sa k) (o.ld k)) ∧ (∀ i, i < o.bkn → BookOk o i) ∧ ∀ k, k < o.san → Tallies o k
end Go.Proofs.YtlelckbeoclhbaaGreat
