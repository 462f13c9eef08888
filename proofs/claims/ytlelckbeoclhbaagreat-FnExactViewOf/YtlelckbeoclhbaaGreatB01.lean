/-
  OWN TEXT: KitBooking, KitAt, Plain3, InfoI.
-/
import Derived.Test.YtlelckbeoclhbaaGreatRows
import Derived.Test.YtlelckbeoclhbaaGreatB00
set_option maxHeartbeats 12800000
set_option maxRecDepth 100000
namespace Go.Proofs.YtlelckbeoclhbaaGreat
open Go.RowKit
structure Book where
  name : Int
  who : Int
  own : ByteArray
  lgn : Nat
  lg : Nat → Int
  pe : Int
  len : Int
  hei : Int
  cl : Int
  all : Bool
  be : Int
  state : Int
  unt : Int
  price : Int
def Book.Is (w : World) (cs : List Value) (x : Book) : Prop :=
  ∃ alg clg, cs = [.int .i64 x.name, .int .i64 x.who, .string x.own, .slice alg x.lgn clg, .int .i64 x.pe, .int .i64 x.len, .int .i64 x.hei, .int .i64 x.cl, .bool x.all, .int .i64 x.be, .int .i64 x.state, .int .i64 x.unt, .int .i64 x.price] ∧ IntsAt w alg x.lgn x.lg ∧ SliceOk alg x.lgn clg
theorem Book.Is.below {w w' : World} {cs : List Value} {x : Book} (h : Book.Is w cs x) (hb : Below w.heap.size w w') : Book.Is w' cs x := by
  obtain ⟨alg, clg, e, hlg, slg⟩ := h
  exact ⟨alg, clg, e, hlg.below hb, slg⟩
theorem Book.Is.length {w : World} {cs : List Value} {x : Book} (h : Book.Is w cs x) : cs.length = 13 := by
  obtain ⟨_, _, rfl, _⟩ := h
  rfl
def Book.Short (x : Book) (B : Nat) : Prop := x.own.size ≤ B ∧ x.lgn ≤ B
def Book.In (w : World) (lo hi : Nat) (cs : List Value) (x : Book) : Prop :=
  ∃ llg, cs = [.int .i64 x.name, .int .i64 x.who, .string x.own, whole llg x.lgn, .int .i64 x.pe, .int .i64 x.len, .int .i64 x.hei, .int .i64 x.cl, .bool x.all, .int .i64 x.be, .int .i64 x.state, .int .i64 x.unt, .int .i64 x.price] ∧ (lo ≤ llg ∧ llg < hi ∧ w.rowIs llg 3 x.lgn (fun k => .int .i64 (x.lg k)))
theorem Book.In.below {w w' : World} {lo hi : Nat} {cs : List Value} {x : Book} (h : Book.In w lo hi cs x) (hb : Below w.heap.size w w') : Book.In w' lo hi cs x := by
  obtain ⟨llg, e, hlg⟩ := h
  exact ⟨llg, e, ⟨hlg.1, hlg.2.1, row_below hlg.2.2 hb⟩⟩
theorem Book.In.wide {w : World} {lo hi lo' hi' : Nat} {cs : List Value} {x : Book} (h : Book.In w lo hi cs x) (h1 : lo' ≤ lo) (h2 : hi ≤ hi') : Book.In w lo' hi' cs x := by
  obtain ⟨llg, e, hlg⟩ := h
  exact ⟨llg, e, ⟨Nat.le_trans h1 hlg.1, Nat.lt_of_lt_of_le hlg.2.1 h2, hlg.2.2⟩⟩
theorem Book.In.kept {w w' : World} {lo hi : Nat} {S : Nat → Prop} {cs : List Value} {x : Book} (h : Book.In w lo hi cs x) (hk : Kept w w' S) (hS : ∀ b, S b → b < lo ∨ hi ≤ b) : Book.In w' lo hi cs x := by
  obtain ⟨llg, e, hlg⟩ := h
  exact ⟨llg, e, ⟨hlg.1, hlg.2.1, hlg.2.2.of_block (hk.block _ hlg.2.2.lt (fun s => by have := hS _ s; omega))⟩⟩
theorem Book.In.is {w : World} {lo hi : Nat} {cs : List Value} {x : Book} (h : Book.In w lo hi cs x) (hs : Book.Short x 1048576) : Book.Is w cs x := by
  obtain ⟨llg, e, hlg⟩ := h
  obtain ⟨_, slg⟩ := hs
  exact ⟨some ⟨llg, 0, none⟩, x.lgn, e, IntsAt.of_row hlg.2.2, ⟨Nat.le_refl _, by omega, fun h => by cases h⟩⟩
def BooksAt (w : World) (ao : Option Addr) (N : Nat) (S : Nat → Book) : Prop := ∃ C, RecsAt w ao N 13 C ∧ ∀ k, k < N → Book.Is w (C k) (S k)
theorem BooksAt.below {w w' : World} {ao : Option Addr} {N : Nat} {S : Nat → Book} (h : BooksAt w ao N S) (hb : Below w.heap.size w w') : BooksAt w' ao N S := by
  obtain ⟨C, h1, h2⟩ := h
  exact ⟨C, h1.below hb, fun k hk => (h2 k hk).below hb⟩
def BooksShort (N : Nat) (S : Nat → Book) (B : Nat) : Prop := ∀ i, i < N → Book.Short (S i) B
structure BooksTo (w : World) (k lo hi g N : Nat) (S : Nat → Book) (C : Nat → List Value) : Prop where
  row : w.rowIs g 72 (N * 13) (recCell 13 (upto k C (#[.int .i64 0, .int .i64 0, .string ⟨#[]⟩, .slice none 0 0, .int .i64 0, .int .i64 0, .int .i64 0, .int .i64 0, .bool false, .int .i64 0, .int .i64 0, .int .i64 0, .int .i64 0] : Array Value).toList))
  glo : lo ≤ g
  ghi : g < hi
  each : ∀ i, i < k → Book.In w (g + 1) hi (C i) (S i)
theorem BooksTo.below {w w' : World} {k lo hi g N : Nat} {S : Nat → Book} {C : Nat → List Value} (r : BooksTo w k lo hi g N S C) (hb : Below w.heap.size w w') : BooksTo w' k lo hi g N S C :=
  ⟨row_below r.row hb, r.glo, r.ghi, fun i hi => (r.each i hi).below hb⟩
theorem BooksTo.wide {w : World} {k lo hi lo' hi' g N : Nat} {S : Nat → Book} {C : Nat → List Value} (r : BooksTo w k lo hi g N S C) (h1 : lo' ≤ lo) (h2 : hi ≤ hi') : BooksTo w k lo' hi' g N S C :=
  ⟨r.row, Nat.le_trans h1 r.glo, Nat.lt_of_lt_of_le r.ghi h2, fun i hi => (r.each i hi).wide (Nat.le_refl _) h2⟩
theorem BooksTo.kept {w w' : World} {k lo hi g N : Nat} {S : Nat → Book} {C : Nat → List Value} {T : Nat → Prop} (r : BooksTo w k lo hi g N S C) (hk : Kept w w' T) (hT : ∀ b, T b → b < lo ∨ hi ≤ b) : BooksTo w' k lo hi g N S C :=
  ⟨r.row.of_block (hk.block _ r.row.lt (fun s => by have := hT _ s; have := r.glo; have := r.ghi; omega)), r.glo, r.ghi, fun i hi => (r.each i hi).kept hk (fun b s => by have := hT b s; have := r.glo; omega)⟩
theorem BooksTo.at {w : World} {lo hi g N : Nat} {S : Nat → Book} {C : Nat → List Value} (r : BooksTo w N lo hi g N S C) (hs : BooksShort N S 1048576) : BooksAt w (some ⟨g, 0, none⟩) N S := by
  refine ⟨upto N C (#[.int .i64 0, .int .i64 0, .string ⟨#[]⟩, .slice none 0 0, .int .i64 0, .int .i64 0, .int .i64 0, .int .i64 0, .bool false, .int .i64 0, .int .i64 0, .int .i64 0, .int .i64 0] : Array Value).toList, RecsAt.of_row r.row, fun k hk => ?_⟩
  rw [upto_lt _ _ hk]
  exact (r.each k hk).is (hs k hk)
end Go.Proofs.YtlelckbeoclhbaaGreat

namespace Go.Proofs.YtlelckbeoclhbaaGreat
open Go.RowKit
def atV (f : Nat → Value) (q : Nat) (u : Value) (i : Nat) : Value := if i = q then u else f i
theorem atV_at (f : Nat → Value) (q : Nat) (u : Value) : atV f q u q = u := if_pos rfl
theorem atV_ne (f : Nat → Value) (q : Nat) (u : Value) (i : Nat) (h : i ≠ q) : atV f q u i = f i := if_neg h
theorem kept_row {w w' : World} {row : Option Nat} (h : w.grownBy w' row) : Kept w w' (fun b => row = some b) := ⟨h.os, h.tape, h.output, h.size, fun i hi hn => h.block i hi (fun e => hn e.symm)⟩
end Go.Proofs.YtlelckbeoclhbaaGreat

namespace Go.Proofs.YtlelckbeoclhbaaGreat
def recs (U : Nat → Bool) (V : Nat → Int) : Nat → List Int
  | 0 => []
  | k + 1 => if U k then recs U V k ++ [V k] else recs U V k
theorem recs_yes {U : Nat → Bool} {V : Nat → Int} {k : Nat} (h : U k = true) : recs U V (k + 1) = recs U V k ++ [V k] := by rw [recs, if_pos h]
theorem recs_no {U : Nat → Bool} {V : Nat → Int} {k : Nat} (h : U k = false) : recs U V (k + 1) = recs U V k := by rw [recs, h]; rfl
theorem recs_le (U : Nat → Bool) (V : Nat → Int) (k : Nat) : (recs U V k).length ≤ k := by
  induction k with
  | zero => exact Nat.le_refl _
  | succ k ih =>
    cases h : U k with
    | true => rw [recs_yes h]; simp; exact ih
    | false => rw [recs_no h]; omega
def getI (l : List Int) (j : Nat) : Int := l.getD j 0
def cellsI (l : List Int) : List Value := intList (getI l) l.length
theorem cellsI_snoc (l : List Int) (x : Int) : cellsI (l ++ [x]) = cellsI l ++ [.int .i64 x] := by
  unfold cellsI
  rw [List.length_append, List.length_singleton, intList_succ]
  congr 1
  · unfold intList
    refine List.map_congr_left fun j hj => ?_
    have hj' : j < l.length := by simpa using hj
    simp [getI, List.getElem?_append_left hj']
  · simp [getI]
theorem cellsI_nil : cellsI [] = [] := rfl
end Go.Proofs.YtlelckbeoclhbaaGreat

namespace Go.Proofs.YtlelckbeoclhbaaGreat
open Go.RowKit
theorem Tryz.infoInt : (Tryz.prog.info? 3).map (fun i => (i.zero, i.size, i.bytes)) = some (some (.int .i64 0), 1, 8) := by kernel_rfl
end Go.Proofs.YtlelckbeoclhbaaGreat
