/-
  OWN TEXT: cabins and rooms in plain words; no theorem of the program.
-/
import Derived.Test.YtaalhmaacaahhaaKitRoom
import Derived.Test.YtaalhmaacaahhaaPlainH2
namespace Go.Proofs.Ytaalhmaacaahhaa
open Go.RowKit

/-- Who has the room j. -/
def whoR (S : Nat → Room) (j : Nat) : Int := (S j).who
/-- How many berths of cabin k the first i rooms take. -/
def usedR (S : Nat → Room) (k : Nat) : Nat → Int
  | 0 => 0
  | i + 1 => usedR S k i + (if (S i).cab = (k : Int) then (S i).many else 0)
/-- What the first i rooms leave free of cabin k. -/
def leftR (p : Pairs) (S : Nat → Room) (i : Nat) (k : Nat) : Int := p.B k - usedR S k i
theorem leftR_0 (p : Pairs) (S : Nat → Room) (k : Nat) : leftR p S 0 k = p.B k := by unfold leftR usedR; omega
theorem leftR_at (p : Pairs) (S : Nat → Room) (i k : Nat) (h : (S i).cab = (k : Int)) : leftR p S (i + 1) k = leftR p S i k - (S i).many := by
  unfold leftR; rw [usedR, if_pos h]; omega
theorem leftR_ne (p : Pairs) (S : Nat → Room) (i k : Nat) (h : (S i).cab ≠ (k : Int)) : leftR p S (i + 1) k = leftR p S i k := by
  unfold leftR; rw [usedR, if_neg h]; omega
theorem usedR_bounds (S : Nat → Room) (k i : Nat) (h : ∀ j, j < i → In (S j).many 1 4) : 0 ≤ usedR S k i ∧ usedR S k i ≤ 4 * i := by
  induction i with
  | zero => exact ⟨Int.le_refl _, by unfold usedR; omega⟩
  | succ i ih =>
    have := ih (fun j hj => h j (by omega))
    have hi := h i (by omega)
    unfold In at hi
    unfold usedR
    split <;> omega
theorem leftR_mono (p : Pairs) (S : Nat → Room) (k i n : Nat) (hin : i ≤ n) (h : ∀ j, j < n → In (S j).many 1 4) : leftR p S n k ≤ leftR p S i k := by
  induction n with
  | zero => rw [show i = 0 by omega]; exact Int.le_refl _
  | succ n ih =>
    by_cases e : i = n + 1
    · rw [e]; exact Int.le_refl _
    · have := ih (by omega) (fun j hj => h j (by omega))
      have hn := h n (by omega)
      unfold In at hn
      by_cases c : (S n).cab = (k : Int)
      · rw [leftR_at p S n k c]; omega
      · rw [leftR_ne p S n k c]; exact this
def GoodC (p : Pairs) : Prop := GoodPairs p 6 1 3 1 4
/-- The room i by itself is as it should be. -/
def OkR0 (p : Pairs) (S : Nat → Room) (i : Nat) : Prop := In (S i).who 1 9999 ∧ ¬ Has (whoR S) i (S i).who ∧ In (S i).cab 0 ((p.n : Int) - 1) ∧ In (S i).many 1 4 ∧ ((S i).all = true → (S i).many = p.B (S i).cab.toNat)
/-- It and one before it do not bar each other. -/
def OkR2 (S : Nat → Room) (i j : Nat) : Prop := (S j).cab = (S i).cab → (S j).all = false ∧ (S i).all = false
def OkR (p : Pairs) (S : Nat → Room) (i : Nat) : Prop := OkR0 p S i ∧ ∀ j, j < i → OkR2 S i j
/-- Rooms are good for the cabins. -/
def RoomsS (p : Pairs) (n : Nat) (S : Nat → Room) : Prop := GoodC p ∧ n ≤ 60 ∧ (∀ i, i < n → OkR p S i) ∧ ∀ k, k < p.n → 0 ≤ leftR p S n k
theorem RoomsS.manys {p : Pairs} {n : Nat} {S : Nat → Room} (h : RoomsS p n S) : ∀ j, j < n → In (S j).many 1 4 := fun j hj => (h.2.2.1 j hj).1.2.2.2.1
theorem leftR_bounds {p : Pairs} {n : Nat} {S : Nat → Room} {k : Nat} (hg : GoodC p) (hn : n ≤ 60) (hl : ∀ j, j < n → In (S j).many 1 4) (hk : k < p.n) : -240 ≤ leftR p S n k ∧ leftR p S n k ≤ 4 := by
  have a := (hg.2 k hk).2
  have b := usedR_bounds S k n hl
  unfold In at a
  unfold leftR
  omega

open Classical in
noncomputable def roomsOk (p : Pairs) (n : Nat) (S : Nat → Room) : Bool := decide (RoomsS p n S)
noncomputable def berthsLen (p : Pairs) (n : Nat) (S : Nat → Room) : Nat := if roomsOk p n S then p.n else 0
theorem roomsOk_yes {p : Pairs} {n : Nat} {S : Nat → Room} (h : RoomsS p n S) : roomsOk p n S = true := by unfold roomsOk; simpa using h
theorem roomsOk_no {p : Pairs} {n : Nat} {S : Nat → Room} (h : ¬ RoomsS p n S) : roomsOk p n S = false := by unfold roomsOk; simpa using h
theorem berthsLen_yes {p : Pairs} {n : Nat} {S : Nat → Room} (h : RoomsS p n S) : berthsLen p n S = p.n := by unfold berthsLen; rw [roomsOk_yes h]; rfl
theorem berthsLen_no {p : Pairs} {n : Nat} {S : Nat → Room} (h : ¬ RoomsS p n S) : berthsLen p n S = 0 := by unfold berthsLen; rw [roomsOk_no h]; rfl
theorem berthsLen_le (p : Pairs) (n : Nat) (S : Nat → Room) : berthsLen p n S ≤ 6 := by
  by_cases h : RoomsS p n S
  · rw [berthsLen_yes h]; exact h.1.1
  · rw [berthsLen_no h]; omega
/-- What FreeBerths answers. -/
def BerthsRes (w' : World) (base t : Nat) (p : Pairs) (n : Nat) (S : Nat → Room) (e : Ending) : Prop :=
  ∃ v, e = .returned (.tuple #[v, .bool (roomsOk p n S)]) ∧ w'.ownsRow base t 1 v (berthsLen p n S) (intList (leftR p S n) (berthsLen p n S))
theorem berthsRes_no {w : World} {base t : Nat} {p : Pairs} {n : Nat} {S : Nat → Room} (h : ¬ RoomsS p n S) : BerthsRes w base t p n S (.returned (.tuple #[.slice none 0 0, .bool false])) :=
  ⟨.slice none 0 0, by rw [roomsOk_no h], by rw [berthsLen_no h]; exact ⟨rfl, .inl ⟨rfl, rfl⟩⟩⟩
theorem berthsRes_yes {w : World} {base t m : Nat} {p : Pairs} {n : Nat} {S : Nat → Room} {v : Value} (h : RoomsS p n S) (hm : p.n = m) (ho : w.ownsRow base t 1 v m (intList (leftR p S n) m)) : BerthsRes w base t p n S (.returned (.tuple #[v, .bool true])) :=
  ⟨v, by rw [roomsOk_yes h], by rw [berthsLen_yes h, hm]; exact ho⟩

/-- k is the first below m that P holds of. -/
def FirstOf (m : Nat) (P : Nat → Prop) (k : Nat) : Prop := k < m ∧ P k ∧ ∀ j, j < k → ¬ P j
theorem firstOf_one {m : Nat} {P : Nat → Prop} {k j : Nat} (h1 : FirstOf m P k) (h2 : FirstOf m P j) : k = j := by
  by_cases c : k < j
  · exact absurd h1.2.1 (h2.2.2 k c)
  · by_cases c2 : j < k
    · exact absurd h2.2.1 (h1.2.2 j c2)
    · omega
open Classical in
/-- The first, where G holds. -/
noncomputable def pickAt (G : Prop) (m : Nat) (P : Nat → Prop) : Option Nat := if h : G ∧ ∃ k, FirstOf m P k then some h.2.choose else none
theorem pickAt_yes {G : Prop} {m : Nat} {P : Nat → Prop} {k : Nat} (hg : G) (h : FirstOf m P k) : pickAt G m P = some k := by
  have he : G ∧ ∃ k, FirstOf m P k := ⟨hg, k, h⟩
  unfold pickAt
  rw [dif_pos he, firstOf_one he.2.choose_spec h]
theorem pickAt_no {G : Prop} {m : Nat} {P : Nat → Prop} (h : ∀ k, ¬ (G ∧ FirstOf m P k)) : pickAt G m P = none := by
  unfold pickAt
  rw [dif_neg (fun ⟨g, k, hk⟩ => h k ⟨g, hk⟩)]
theorem pickAt_some {G : Prop} {m : Nat} {P : Nat → Prop} {k : Nat} (h : pickAt G m P = some k) : G ∧ FirstOf m P k := by
  unfold pickAt at h
  split at h
  · rename_i he
    have := he.2.choose_spec
    simp only [Option.some.injEq] at h
    rw [h] at this
    exact ⟨he.1, this⟩
  · cases h

def PlaceG (p : Pairs) (n : Nat) (S : Nat → Room) (x : Int) : Prop := RoomsS p n S ∧ n ≠ 60 ∧ ¬ Has (whoR S) n x ∧ In x 1 9999
/-- A party gets a cabin whole. -/
def WholeG (p : Pairs) (n : Nat) (S : Nat → Room) (x cl q : Int) : Prop := PlaceG p n S x ∧ In cl 1 3 ∧ In q 1 20
def WholeP (p : Pairs) (n : Nat) (S : Nat → Room) (cl q : Int) (k : Nat) : Prop := p.A k = cl ∧ leftR p S n k = p.B k ∧ (q ≤ p.B k ∨ ¬ ∃ j, j < p.n ∧ p.A j = cl ∧ q ≤ p.B j)
noncomputable def wholeIx (p : Pairs) (n : Nat) (S : Nat → Room) (x cl q : Int) : Option Nat := pickAt (WholeG p n S x cl q) p.n (WholeP p n S cl q)
noncomputable def wholeOk (p : Pairs) (n : Nat) (S : Nat → Room) (x cl q : Int) : Bool := (wholeIx p n S x cl q).isSome
noncomputable def wholeAt (p : Pairs) (n : Nat) (S : Nat → Room) (x cl q : Int) : Int := ((wholeIx p n S x cl q).getD 0 : Nat)
noncomputable def wholeLen (p : Pairs) (n : Nat) (S : Nat → Room) (x cl q : Int) : Nat := if (wholeIx p n S x cl q).isSome then n + 1 else 0
noncomputable def wholeRooms (p : Pairs) (n : Nat) (S : Nat → Room) (x cl q : Int) : Nat → Room := roomCat S n (fun _ => ⟨x, wholeAt p n S x cl q, p.B ((wholeIx p n S x cl q).getD 0), true⟩)
theorem wholeLen_le (p : Pairs) (n : Nat) (S : Nat → Room) (x cl q : Int) : wholeLen p n S x cl q ≤ 60 := by
  unfold wholeLen
  cases h : wholeIx p n S x cl q with
  | none => simp
  | some k =>
    have := (pickAt_some h).1.1
    have h1 := this.1.2.1
    have h2 := this.2.1
    simp
    omega
def WholeRes (w' : World) (base t : Nat) (p : Pairs) (n : Nat) (S : Nat → Room) (x cl q : Int) (e : Ending) : Prop :=
  ∃ v, e = .returned (.tuple #[v, .int .i64 (wholeAt p n S x cl q), .bool (wholeOk p n S x cl q)]) ∧ w'.ownsRow base t 4 v (wholeLen p n S x cl q) (roomList (wholeRooms p n S x cl q) (wholeLen p n S x cl q))
theorem wholeRes_no {w : World} {base t : Nat} {p : Pairs} {n : Nat} {S : Nat → Room} {x cl q : Int} (h : ∀ k, ¬ (WholeG p n S x cl q ∧ FirstOf p.n (WholeP p n S cl q) k)) : WholeRes w base t p n S x cl q (.returned (.tuple #[.slice none 0 0, .int .i64 0, .bool false])) := by
  have e : wholeIx p n S x cl q = none := pickAt_no h
  refine ⟨.slice none 0 0, ?_, ?_⟩
  · unfold wholeAt wholeOk; rw [e]; rfl
  · unfold wholeLen; rw [e]; exact ⟨rfl, .inl ⟨rfl, rfl⟩⟩
theorem wholeRes_yes {w : World} {base t : Nat} {p : Pairs} {n : Nat} {S : Nat → Room} {x cl q : Int} {k : Nat} {v : Value} (hg : WholeG p n S x cl q) (h : FirstOf p.n (WholeP p n S cl q) k)
    (ho : w.ownsRow base t 4 v (n + 1) (roomList (roomCat S n (fun _ => ⟨x, (k : Int), p.B k, true⟩)) (n + 1))) : WholeRes w base t p n S x cl q (.returned (.tuple #[v, .int .i64 (k : Int), .bool true])) := by
  have e : wholeIx p n S x cl q = some k := pickAt_yes hg h
  refine ⟨v, ?_, ?_⟩
  · unfold wholeAt wholeOk; rw [e]; rfl
  · unfold wholeRooms wholeAt wholeLen; rw [e]; exact ho
/-- So many berths are given. -/
def BerthG (p : Pairs) (n : Nat) (S : Nat → Room) (x cl q : Int) : Prop := PlaceG p n S x ∧ In cl 1 3 ∧ In q 1 4
def BerthP (p : Pairs) (n : Nat) (S : Nat → Room) (cl q : Int) (k : Nat) : Prop := p.A k = cl ∧ q ≤ leftR p S n k
noncomputable def berthIx (p : Pairs) (n : Nat) (S : Nat → Room) (x cl q : Int) : Option Nat := pickAt (BerthG p n S x cl q) p.n (BerthP p n S cl q)
noncomputable def berthOk (p : Pairs) (n : Nat) (S : Nat → Room) (x cl q : Int) : Bool := (berthIx p n S x cl q).isSome
noncomputable def berthAt (p : Pairs) (n : Nat) (S : Nat → Room) (x cl q : Int) : Int := ((berthIx p n S x cl q).getD 0 : Nat)
noncomputable def berthLen (p : Pairs) (n : Nat) (S : Nat → Room) (x cl q : Int) : Nat := if (berthIx p n S x cl q).isSome then n + 1 else 0
noncomputable def berthRooms (p : Pairs) (n : Nat) (S : Nat → Room) (x cl q : Int) : Nat → Room := roomCat S n (fun _ => ⟨x, berthAt p n S x cl q, q, false⟩)
theorem berthLen_le (p : Pairs) (n : Nat) (S : Nat → Room) (x cl q : Int) : berthLen p n S x cl q ≤ 60 := by
  unfold berthLen
  cases h : berthIx p n S x cl q with
  | none => simp
  | some k =>
    have := (pickAt_some h).1.1
    have h1 := this.1.2.1
    have h2 := this.2.1
    simp
    omega
def BerthRes (w' : World) (base t : Nat) (p : Pairs) (n : Nat) (S : Nat → Room) (x cl q : Int) (e : Ending) : Prop :=
  ∃ v, e = .returned (.tuple #[v, .int .i64 (berthAt p n S x cl q), .bool (berthOk p n S x cl q)]) ∧ w'.ownsRow base t 4 v (berthLen p n S x cl q) (roomList (berthRooms p n S x cl q) (berthLen p n S x cl q))
theorem berthRes_no {w : World} {base t : Nat} {p : Pairs} {n : Nat} {S : Nat → Room} {x cl q : Int} (h : ∀ k, ¬ (BerthG p n S x cl q ∧ FirstOf p.n (BerthP p n S cl q) k)) : BerthRes w base t p n S x cl q (.returned (.tuple #[.slice none 0 0, .int .i64 0, .bool false])) := by
  have e : berthIx p n S x cl q = none := pickAt_no h
  refine ⟨.slice none 0 0, ?_, ?_⟩
  · unfold berthAt berthOk; rw [e]; rfl
  · unfold berthLen; rw [e]; exact ⟨rfl, .inl ⟨rfl, rfl⟩⟩
theorem berthRes_yes {w : World} {base t : Nat} {p : Pairs} {n : Nat} {S : Nat → Room} {x cl q : Int} {k : Nat} {v : Value} (hg : BerthG p n S x cl q) (h : FirstOf p.n (BerthP p n S cl q) k)
    (ho : w.ownsRow base t 4 v (n + 1) (roomList (roomCat S n (fun _ => ⟨x, (k : Int), q, false⟩)) (n + 1))) : BerthRes w base t p n S x cl q (.returned (.tuple #[v, .int .i64 (k : Int), .bool true])) := by
  have e : berthIx p n S x cl q = some k := pickAt_yes hg h
  refine ⟨v, ?_, ?_⟩
  · unfold berthAt berthOk; rw [e]; rfl
  · unfold berthRooms berthAt berthLen; rw [e]; exact ho
end Go.Proofs.Ytaalhmaacaahhaa
