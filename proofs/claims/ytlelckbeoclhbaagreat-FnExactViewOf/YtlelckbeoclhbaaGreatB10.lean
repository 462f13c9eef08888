/-
  OWN TEXT: KitLoad, KitOff, PlainF, PlainH2.
-/
import Derived.Test.YtlelckbeoclhbaaGreatB09
import Derived.Test.YtlelckbeoclhbaaGreatB00
import Derived.Test.YtlelckbeoclhbaaGreatB01
import Derived.Test.YtlelckbeoclhbaaGreatB06
set_option maxHeartbeats 12800000
set_option maxRecDepth 100000
namespace Go.Proofs.YtlelckbeoclhbaaGreat
open Go.RowKit
structure Load where
  stn : Nat
  st : Nat → Stay
  ron : Nat
  ro : Nat → Room
  sen : Nat
  se : Nat → Seat
def Load.Is (w : World) (cs : List Value) (x : Load) : Prop :=
  ∃ ast cst aro cro ase cse, cs = [.slice ast x.stn cst, .slice aro x.ron cro, .slice ase x.sen cse] ∧ StaysAt w ast x.stn x.st ∧ SliceOk ast x.stn cst ∧ RoomsAt w aro x.ron x.ro ∧ SliceOk aro x.ron cro ∧ SeatsAt w ase x.sen x.se ∧ SliceOk ase x.sen cse
theorem Load.Is.below {w w' : World} {cs : List Value} {x : Load} (h : Load.Is w cs x) (hb : Below w.heap.size w w') : Load.Is w' cs x := by
  obtain ⟨ast, cst, aro, cro, ase, cse, e, hst, sst, hro, sro, hse, sse⟩ := h
  exact ⟨ast, cst, aro, cro, ase, cse, e, hst.below hb, sst, hro.below hb, sro, hse.below hb, sse⟩
theorem Load.Is.length {w : World} {cs : List Value} {x : Load} (h : Load.Is w cs x) : cs.length = 3 := by
  obtain ⟨_, _, _, _, _, _, rfl, _⟩ := h
  rfl
def Load.Short (x : Load) (B : Nat) : Prop := x.stn ≤ B ∧ x.ron ≤ B ∧ x.sen ≤ B
def Load.In (w : World) (lo hi : Nat) (cs : List Value) (x : Load) : Prop :=
  ∃ lst lro lse, cs = [whole lst x.stn, whole lro x.ron, whole lse x.sen] ∧ (lo ≤ lst ∧ lst < hi ∧ w.rowIs lst 118 (x.stn * 4) (stayCell x.st)) ∧ (lo ≤ lro ∧ lro < hi ∧ w.rowIs lro 120 (x.ron * 4) (roomCell x.ro)) ∧ (lo ≤ lse ∧ lse < hi ∧ w.rowIs lse 126 (x.sen * 2) (seatCell x.se))
theorem Load.In.below {w w' : World} {lo hi : Nat} {cs : List Value} {x : Load} (h : Load.In w lo hi cs x) (hb : Below w.heap.size w w') : Load.In w' lo hi cs x := by
  obtain ⟨lst, lro, lse, e, hst, hro, hse⟩ := h
  exact ⟨lst, lro, lse, e, ⟨hst.1, hst.2.1, row_below hst.2.2 hb⟩, ⟨hro.1, hro.2.1, row_below hro.2.2 hb⟩, ⟨hse.1, hse.2.1, row_below hse.2.2 hb⟩⟩
theorem Load.In.wide {w : World} {lo hi lo' hi' : Nat} {cs : List Value} {x : Load} (h : Load.In w lo hi cs x) (h1 : lo' ≤ lo) (h2 : hi ≤ hi') : Load.In w lo' hi' cs x := by
  obtain ⟨lst, lro, lse, e, hst, hro, hse⟩ := h
  exact ⟨lst, lro, lse, e, ⟨Nat.le_trans h1 hst.1, Nat.lt_of_lt_of_le hst.2.1 h2, hst.2.2⟩, ⟨Nat.le_trans h1 hro.1, Nat.lt_of_lt_of_le hro.2.1 h2, hro.2.2⟩, ⟨Nat.le_trans h1 hse.1, Nat.lt_of_lt_of_le hse.2.1 h2, hse.2.2⟩⟩
theorem Load.In.kept {w w' : World} {lo hi : Nat} {S : Nat → Prop} {cs : List Value} {x : Load} (h : Load.In w lo hi cs x) (hk : Kept w w' S) (hS : ∀ b, S b → b < lo ∨ hi ≤ b) : Load.In w' lo hi cs x := by
  obtain ⟨lst, lro, lse, e, hst, hro, hse⟩ := h
  exact ⟨lst, lro, lse, e, ⟨hst.1, hst.2.1, hst.2.2.of_block (hk.block _ hst.2.2.lt (fun s => by have := hS _ s; omega))⟩, ⟨hro.1, hro.2.1, hro.2.2.of_block (hk.block _ hro.2.2.lt (fun s => by have := hS _ s; omega))⟩, ⟨hse.1, hse.2.1, hse.2.2.of_block (hk.block _ hse.2.2.lt (fun s => by have := hS _ s; omega))⟩⟩
theorem Load.In.is {w : World} {lo hi : Nat} {cs : List Value} {x : Load} (h : Load.In w lo hi cs x) (hs : Load.Short x 1048576) : Load.Is w cs x := by
  obtain ⟨lst, lro, lse, e, hst, hro, hse⟩ := h
  obtain ⟨sst, sro, sse⟩ := hs
  exact ⟨some ⟨lst, 0, none⟩, x.stn, some ⟨lro, 0, none⟩, x.ron, some ⟨lse, 0, none⟩, x.sen, e, StaysAt.of_row hst.2.2, ⟨Nat.le_refl _, by omega, fun h => by cases h⟩, RoomsAt.of_row hro.2.2, ⟨Nat.le_refl _, by omega, fun h => by cases h⟩, SeatsAt.of_row hse.2.2, ⟨Nat.le_refl _, by omega, fun h => by cases h⟩⟩
def LoadsAt (w : World) (ao : Option Addr) (N : Nat) (S : Nat → Load) : Prop := ∃ C, RecsAt w ao N 3 C ∧ ∀ k, k < N → Load.Is w (C k) (S k)
theorem LoadsAt.below {w w' : World} {ao : Option Addr} {N : Nat} {S : Nat → Load} (h : LoadsAt w ao N S) (hb : Below w.heap.size w w') : LoadsAt w' ao N S := by
  obtain ⟨C, h1, h2⟩ := h
  exact ⟨C, h1.below hb, fun k hk => (h2 k hk).below hb⟩
def LoadsShort (N : Nat) (S : Nat → Load) (B : Nat) : Prop := ∀ i, i < N → Load.Short (S i) B
structure LoadsTo (w : World) (k lo hi g N : Nat) (S : Nat → Load) (C : Nat → List Value) : Prop where
  row : w.rowIs g 62 (N * 3) (recCell 3 (upto k C (#[.slice none 0 0, .slice none 0 0, .slice none 0 0] : Array Value).toList))
  glo : lo ≤ g
  ghi : g < hi
  each : ∀ i, i < k → Load.In w (g + 1) hi (C i) (S i)
theorem LoadsTo.below {w w' : World} {k lo hi g N : Nat} {S : Nat → Load} {C : Nat → List Value} (r : LoadsTo w k lo hi g N S C) (hb : Below w.heap.size w w') : LoadsTo w' k lo hi g N S C :=
  ⟨row_below r.row hb, r.glo, r.ghi, fun i hi => (r.each i hi).below hb⟩
theorem LoadsTo.wide {w : World} {k lo hi lo' hi' g N : Nat} {S : Nat → Load} {C : Nat → List Value} (r : LoadsTo w k lo hi g N S C) (h1 : lo' ≤ lo) (h2 : hi ≤ hi') : LoadsTo w k lo' hi' g N S C :=
  ⟨r.row, Nat.le_trans h1 r.glo, Nat.lt_of_lt_of_le r.ghi h2, fun i hi => (r.each i hi).wide (Nat.le_refl _) h2⟩
theorem LoadsTo.kept {w w' : World} {k lo hi g N : Nat} {S : Nat → Load} {C : Nat → List Value} {T : Nat → Prop} (r : LoadsTo w k lo hi g N S C) (hk : Kept w w' T) (hT : ∀ b, T b → b < lo ∨ hi ≤ b) : LoadsTo w' k lo hi g N S C :=
  ⟨r.row.of_block (hk.block _ r.row.lt (fun s => by have := hT _ s; have := r.glo; have := r.ghi; omega)), r.glo, r.ghi, fun i hi => (r.each i hi).kept hk (fun b s => by have := hT b s; have := r.glo; omega)⟩
theorem LoadsTo.at {w : World} {lo hi g N : Nat} {S : Nat → Load} {C : Nat → List Value} (r : LoadsTo w N lo hi g N S C) (hs : LoadsShort N S 1048576) : LoadsAt w (some ⟨g, 0, none⟩) N S := by
  refine ⟨upto N C (#[.slice none 0 0, .slice none 0 0, .slice none 0 0] : Array Value).toList, RecsAt.of_row r.row, fun k hk => ?_⟩
  rw [upto_lt _ _ hk]
  exact (r.each k hk).is (hs k hk)
end Go.Proofs.YtlelckbeoclhbaaGreat

namespace Go.Proofs.YtlelckbeoclhbaaGreat
open Go.RowKit
structure SailsHi (w : World) (lo hi g N : Nat) (S : Nat → Sail) (l c : Nat → Nat) : Prop where
  made : SailsTo w 54 122 124 N lo g N S l c
  gh : g < hi
  lh : ∀ i, i < N → l i < hi ∧ c i < hi
theorem SailsHi.below {w w' : World} {lo hi g N : Nat} {S : Nat → Sail} {l c : Nat → Nat} (r : SailsHi w lo hi g N S l c) (hb : Below w.heap.size w w') : SailsHi w' lo hi g N S l c := ⟨r.made.below hb, r.gh, r.lh⟩
theorem SailsHi.wide {w : World} {lo hi lo' hi' g N : Nat} {S : Nat → Sail} {l c : Nat → Nat} (r : SailsHi w lo hi g N S l c) (h1 : lo' ≤ lo) (h2 : hi ≤ hi') : SailsHi w lo' hi' g N S l c :=
  ⟨⟨r.made.row, Nat.le_trans h1 r.made.lo, r.made.lanes, r.made.cabins, r.made.rise⟩, Nat.lt_of_lt_of_le r.gh h2, fun i hi => ⟨Nat.lt_of_lt_of_le (r.lh i hi).1 h2, Nat.lt_of_lt_of_le (r.lh i hi).2 h2⟩⟩
theorem SailsHi.kept {w w' : World} {lo hi g N : Nat} {S : Nat → Sail} {l c : Nat → Nat} {T : Nat → Prop} (r : SailsHi w lo hi g N S l c) (hk : Kept w w' T) (hT : ∀ b, T b → b < lo ∨ hi ≤ b) : SailsHi w' lo hi g N S l c := by
  have h0 := r.made.lo
  have h1 := r.gh
  refine ⟨⟨r.made.row.of_block (hk.block _ r.made.row.lt (fun s => by have := hT _ s; omega)), r.made.lo, fun i hi => ⟨(r.made.lanes i hi).1, ?_⟩, fun i hi => ⟨(r.made.cabins i hi).1, ?_⟩, r.made.rise⟩, r.gh, r.lh⟩
  · have h2 := (r.made.lanes i hi).1
    have h3 := (r.lh i hi).1
    exact (r.made.lanes i hi).2.of_block (hk.block _ (r.made.lanes i hi).2.lt (fun s => by have := hT _ s; omega))
  · have h2 := (r.made.lanes i hi).1
    have h4 := (r.made.cabins i hi).1
    have h3 := (r.lh i hi).2
    exact (r.made.cabins i hi).2.of_block (hk.block _ (r.made.cabins i hi).2.lt (fun s => by have := hT _ s; omega))
theorem SailsTo.high {w : World} {lo g N : Nat} {S : Nat → Sail} {l c : Nat → Nat} (r : SailsTo w 54 122 124 N lo g N S l c) : SailsHi w lo w.heap.size g N S l c :=
  ⟨r, r.row.lt, fun i hi => ⟨(r.lanes i hi).2.lt, (r.cabins i hi).2.lt⟩⟩
structure Off where
  san : Nat
  sa : Nat → Sail
  ldn : Nat
  ld : Nat → Load
  bkn : Nat
  bk : Nat → Book
def Off.Is (w : World) (cs : List Value) (x : Off) : Prop :=
  ∃ asa csa ald cld abk cbk, cs = [.slice asa x.san csa, .slice ald x.ldn cld, .slice abk x.bkn cbk] ∧ SailsAt w asa x.san x.sa ∧ SliceOk asa x.san csa ∧ LoadsAt w ald x.ldn x.ld ∧ SliceOk ald x.ldn cld ∧ BooksAt w abk x.bkn x.bk ∧ SliceOk abk x.bkn cbk
theorem Off.Is.below {w w' : World} {cs : List Value} {x : Off} (h : Off.Is w cs x) (hb : Below w.heap.size w w') : Off.Is w' cs x := by
  obtain ⟨asa, csa, ald, cld, abk, cbk, e, h1, s1, h2, s2, h3, s3⟩ := h
  exact ⟨asa, csa, ald, cld, abk, cbk, e, h1.below hb, s1, h2.below hb, s2, h3.below hb, s3⟩
def Off.Short (x : Off) (B : Nat) : Prop := (x.san ≤ B ∧ ShortAll x.san x.sa B) ∧ (x.ldn ≤ B ∧ LoadsShort x.ldn x.ld B) ∧ (x.bkn ≤ B ∧ BooksShort x.bkn x.bk B)
def Off.In (w : World) (lo hi : Nat) (cs : List Value) (x : Off) : Prop :=
  ∃ m1 m2 gsa l c gld C gbk E, cs = [whole gsa x.san, whole gld x.ldn, whole gbk x.bkn] ∧ (lo ≤ m1 ∧ m1 ≤ m2 ∧ m2 ≤ hi) ∧ SailsHi w lo m1 gsa x.san x.sa l c ∧ LoadsTo w x.ldn m1 m2 gld x.ldn x.ld C ∧ BooksTo w x.bkn m2 hi gbk x.bkn x.bk E
theorem Off.In.below {w w' : World} {lo hi : Nat} {cs : List Value} {x : Off} (h : Off.In w lo hi cs x) (hb : Below w.heap.size w w') : Off.In w' lo hi cs x := by
  obtain ⟨m1, m2, gsa, l, c, gld, C, gbk, E, e, hm, h1, h2, h3⟩ := h
  exact ⟨m1, m2, gsa, l, c, gld, C, gbk, E, e, hm, h1.below hb, h2.below hb, h3.below hb⟩
theorem Off.In.kept {w w' : World} {lo hi : Nat} {T : Nat → Prop} {cs : List Value} {x : Off} (h : Off.In w lo hi cs x) (hk : Kept w w' T) (hT : ∀ b, T b → b < lo ∨ hi ≤ b) : Off.In w' lo hi cs x := by
  obtain ⟨m1, m2, gsa, l, c, gld, C, gbk, E, e, hm, h1, h2, h3⟩ := h
  exact ⟨m1, m2, gsa, l, c, gld, C, gbk, E, e, hm, h1.kept hk (fun b s => by have := hT b s; omega), h2.kept hk (fun b s => by have := hT b s; omega), h3.kept hk (fun b s => by have := hT b s; omega)⟩
theorem Off.In.is {w : World} {lo hi : Nat} {cs : List Value} {x : Off} (h : Off.In w lo hi cs x) (hs : Off.Short x 1048576) : Off.Is w cs x := by
  obtain ⟨m1, m2, gsa, l, c, gld, C, gbk, E, e, hm, h1, h2, h3⟩ := h
  obtain ⟨⟨n1, s1⟩, ⟨n2, s2⟩, ⟨n3, s3⟩⟩ := hs
  exact ⟨some ⟨gsa, 0, none⟩, x.san, some ⟨gld, 0, none⟩, x.ldn, some ⟨gbk, 0, none⟩, x.bkn, e, h1.made.sails (fun i hi => (s1 i hi).2.2.1) (fun i hi => (s1 i hi).2.2.2), ⟨Nat.le_refl _, by omega, fun h => by cases h⟩, h2.at s2, ⟨Nat.le_refl _, by omega, fun h => by cases h⟩, h3.at s3, ⟨Nat.le_refl _, by omega, fun h => by cases h⟩⟩
end Go.Proofs.YtlelckbeoclhbaaGreat

namespace Go.Proofs.YtlelckbeoclhbaaGreat
open Go.RowKit
def findIx (S : Nat → Sail) (x : Int) : Nat → Nat
  | 0 => 0
  | n + 1 => if findIx S x n < n then findIx S x n else if (S n).id = x then n else n + 1
theorem findIx_le (S : Nat → Sail) (x : Int) (n : Nat) : findIx S x n ≤ n := by
  induction n with
  | zero => exact Nat.le_refl _
  | succ n ih => unfold findIx; split <;> (try split) <;> omega
theorem findIx_before (S : Nat → Sail) (x : Int) (n : Nat) : ∀ j, j < findIx S x n → (S j).id ≠ x := by
  induction n with
  | zero => intro j hj; unfold findIx at hj; omega
  | succ n ih =>
    intro j hj
    unfold findIx at hj
    have hl := findIx_le S x n
    split at hj
    · exact ih j hj
    · rename_i h
      split at hj
      · exact ih j (by omega)
      · rename_i h2
        by_cases e : j = n
        · subst e; exact h2
        · exact ih j (by omega)
theorem findIx_at (S : Nat → Sail) (x : Int) (n : Nat) (h : findIx S x n < n) : (S (findIx S x n)).id = x := by
  induction n with
  | zero => omega
  | succ n ih =>
    unfold findIx at h ⊢
    split
    · rename_i h1; exact ih h1
    · rename_i h1
      rw [if_neg h1] at h
      split
      · rename_i h2; exact h2
      · rename_i h2; rw [if_neg h2] at h; omega
theorem findIx_is {S : Nat → Sail} {x : Int} {n r : Nat} (hr : r < n) (he : (S r).id = x) (hb : ∀ j, j < r → (S j).id ≠ x) : findIx S x n = r := by
  have h1 := findIx_before S x n
  by_cases c : findIx S x n < r
  · exact absurd (findIx_at S x n (by omega)) (hb _ c)
  · by_cases c2 : r < findIx S x n
    · exact absurd he (h1 r c2)
    · omega
theorem findIx_none {S : Nat → Sail} {x : Int} {n : Nat} (hb : ∀ j, j < n → (S j).id ≠ x) : findIx S x n = n := by
  have h1 := findIx_le S x n
  by_cases c : findIx S x n < n
  · exact absurd (findIx_at S x n c) (hb _ c)
  · omega
def LegOk (N : Nat) (S : Nat → Sail) (G : Nat → Int) (i : Nat) : Prop :=
  findIx S (G i) N < N ∧ (0 < i → (S (findIx S (G (i - 1)) N)).dst = (S (findIx S (G i) N)).fr ∧ (S (findIx S (G (i - 1)) N)).arr ≤ (S (findIx S (G i) N)).dep)
def LegsOk (N : Nat) (S : Nat → Sail) (n : Nat) (G : Nat → Int) : Prop := 1 ≤ n ∧ n ≤ 3 ∧ ∀ i, i < n → LegOk N S G i
end Go.Proofs.YtlelckbeoclhbaaGreat

namespace Go.Proofs.YtlelckbeoclhbaaGreat
open Go.RowKit
def Has (F : Nat → Int) (n : Nat) (x : Int) : Prop := ∃ j, j < n ∧ F j = x
def ixOf (F : Nat → Int) (x : Int) : Nat → Nat
  | 0 => 0
  | n + 1 => if ixOf F x n < n then ixOf F x n else if F n = x then n else n + 1
theorem ixOf_le (F : Nat → Int) (x : Int) (n : Nat) : ixOf F x n ≤ n := by
  induction n with
  | zero => exact Nat.le_refl _
  | succ n ih => unfold ixOf; split <;> (try split) <;> omega
theorem ixOf_before (F : Nat → Int) (x : Int) (n : Nat) : ∀ j, j < ixOf F x n → F j ≠ x := by
  induction n with
  | zero => intro j hj; unfold ixOf at hj; omega
  | succ n ih =>
    intro j hj
    unfold ixOf at hj
    have hl := ixOf_le F x n
    by_cases h1 : ixOf F x n < n
    · rw [if_pos h1] at hj; exact ih j hj
    · rw [if_neg h1] at hj
      have he : ixOf F x n = n := by omega
      by_cases h2 : F n = x
      · rw [if_pos h2] at hj; exact ih j (by omega)
      · rw [if_neg h2] at hj
        by_cases e : j = n
        · subst e; exact h2
        · exact ih j (by omega)
theorem ixOf_at (F : Nat → Int) (x : Int) (n : Nat) (h : ixOf F x n < n) : F (ixOf F x n) = x := by
  induction n with
  | zero => omega
  | succ n ih =>
    unfold ixOf at h ⊢
    by_cases h1 : ixOf F x n < n
    · rw [if_pos h1]; exact ih h1
    · rw [if_neg h1] at h ⊢
      by_cases h2 : F n = x
      · rw [if_pos h2]; exact h2
      · rw [if_neg h2] at h; omega
theorem ixOf_is {F : Nat → Int} {x : Int} {n r : Nat} (hr : r < n) (he : F r = x) (hb : ∀ j, j < r → F j ≠ x) : ixOf F x n = r := by
  have h1 := ixOf_before F x n
  by_cases c : ixOf F x n < r
  · exact absurd (ixOf_at F x n (by omega)) (hb _ c)
  · by_cases c2 : r < ixOf F x n
    · exact absurd he (h1 r c2)
    · omega
theorem ixOf_none {F : Nat → Int} {x : Int} {n : Nat} (hb : ∀ j, j < n → F j ≠ x) : ixOf F x n = n := by
  have h1 := ixOf_le F x n
  by_cases c : ixOf F x n < n
  · exact absurd (ixOf_at F x n c) (hb _ c)
  · omega
theorem has_iff (F : Nat → Int) (n : Nat) (x : Int) : Has F n x ↔ ixOf F x n < n := by
  constructor
  · rintro ⟨j, hj, e⟩
    by_cases c : ixOf F x n < n
    · exact c
    · have := ixOf_le F x n
      exact absurd e (ixOf_before F x n j (by omega))
  · intro h
    exact ⟨_, h, ixOf_at F x n h⟩
theorem not_has {F : Nat → Int} {n : Nat} {x : Int} (h : ∀ j, j < n → F j ≠ x) : ¬ Has F n x := fun ⟨j, hj, e⟩ => h j hj e
def ixAns (F : Nat → Int) (x : Int) (n : Nat) : Int := if ixOf F x n < n then (ixOf F x n : Int) else -1
theorem ixAns_has (F : Nat → Int) (x : Int) (n : Nat) : 0 ≤ ixAns F x n ↔ Has F n x := by
  rw [has_iff]
  unfold ixAns
  split <;> omega
theorem ixAns_yes {F : Nat → Int} {x : Int} {n : Nat} (h : Has F n x) : ixAns F x n = (ixOf F x n : Int) ∧ ixOf F x n < n := by
  have := (has_iff F n x).1 h
  exact ⟨if_pos this, this⟩
theorem ixAns_no {F : Nat → Int} {x : Int} {n : Nat} (h : ¬ Has F n x) : ixAns F x n = -1 := if_neg (fun c => h ((has_iff F n x).2 c))
end Go.Proofs.YtlelckbeoclhbaaGreat
