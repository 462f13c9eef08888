/-
  OWN TEXT: LParty, LPartyEq, KitBooking.
-/
import Derived.Test.YtcioofnmhfehaaaGreatRows
import Derived.Deep.DeepCutAuto
import Derived.Test.YtcioofnmhfehaaaGreatB01
import Derived.Test.YtcioofnmhfehaaaGreatB09
import Derived.Test.YtcioofnmhfehaaaGreatB00
import Derived.Test.YtcioofnmhfehaaaGreatB04
namespace Go.Proofs.YtcioofnmhfehaaaGreat
open Go.RowKit

set_option maxHeartbeats 400000 in
theorem toParty_any (pe len hei cl : Int) (all : Bool) (be : Int) (w : World) :
    Calls Tryz.prog 69 #[.agg #[.int .i64 pe, .int .i64 len, .int .i64 hei, .int .i64 cl, .bool all, .int .i64 be]] w fun e w' => e = .returned (.agg #[.int .i64 pe, .int .i64 len, .int .i64 hei, .int .i64 cl, .bool all, .int .i64 be]) ∧ Below w.heap.size w w' := by
  go_enter Tryz.func69, Tryz.ntmps69
  go_wp2
  exact bodyPost_ret (v := .agg #[.int .i64 pe, .int .i64 len, .int .i64 hei, .int .i64 cl, .bool all, .int .i64 be]) (by simp [results, Tryz.results69, go_sem]) rfl ⟨rfl, push (push (push (Below.refl _ _) _) _) _⟩

end Go.Proofs.YtcioofnmhfehaaaGreat

namespace Go.Proofs.YtcioofnmhfehaaaGreat
open Go.RowKit

set_option maxHeartbeats 400000 in
theorem eqParty_same (pe len hei cl : Int) (all : Bool) (be : Int) (w : World) :
    Calls Tryz.prog 94 #[.agg #[.int .i64 pe, .int .i64 len, .int .i64 hei, .int .i64 cl, .bool all, .int .i64 be], .agg #[.int .i64 pe, .int .i64 len, .int .i64 hei, .int .i64 cl, .bool all, .int .i64 be]] w fun e w' => e = .returned (.bool true) ∧ Below w.heap.size w w' := by
  go_enter Tryz.func94, Tryz.ntmps94
  go_wp2
  go_ret
  exact ⟨rfl, push (push (Below.refl _ _) _) _⟩

end Go.Proofs.YtcioofnmhfehaaaGreat

namespace Go.Proofs.YtcioofnmhfehaaaGreat
open Go.RowKit

structure Book where
  name : Int
  who : Int
  own : ByteArray
  lgn : Nat
  lg : Nat → Int
  pe : Int
  len : Int
  hei : Int
  cl : Int
  all : Bool
  be : Int
  state : Int
  unt : Int
  price : Int

/-- Cells that read as a booking. -/
def Book.Is (w : World) (cs : List Value) (x : Book) : Prop :=
  ∃ alg clg, cs = [.int .i64 x.name, .int .i64 x.who, .string x.own, .slice alg x.lgn clg, .int .i64 x.pe, .int .i64 x.len, .int .i64 x.hei, .int .i64 x.cl, .bool x.all, .int .i64 x.be, .int .i64 x.state, .int .i64 x.unt, .int .i64 x.price] ∧ IntsAt w alg x.lgn x.lg ∧ SliceOk alg x.lgn clg
theorem Book.Is.below {w w' : World} {cs : List Value} {x : Book} (h : Book.Is w cs x) (hb : Below w.heap.size w w') : Book.Is w' cs x := by
  obtain ⟨alg, clg, e, hlg, slg⟩ := h
  exact ⟨alg, clg, e, hlg.below hb, slg⟩
theorem Book.Is.length {w : World} {cs : List Value} {x : Book} (h : Book.Is w cs x) : cs.length = 13 := by
  obtain ⟨_, _, rfl, _⟩ := h
  rfl
/-- Its lists and texts have B places at most. -/
def Book.Short (x : Book) (B : Nat) : Prop := x.own.size ≤ B ∧ x.lgn ≤ B
/-- A copy whose lists lie in blocks from lo on, below hi. -/
def Book.In (w : World) (lo hi : Nat) (cs : List Value) (x : Book) : Prop :=
  ∃ llg, cs = [.int .i64 x.name, .int .i64 x.who, .string x.own, whole llg x.lgn, .int .i64 x.pe, .int .i64 x.len, .int .i64 x.hei, .int .i64 x.cl, .bool x.all, .int .i64 x.be, .int .i64 x.state, .int .i64 x.unt, .int .i64 x.price] ∧ (lo ≤ llg ∧ llg < hi ∧ w.rowIs llg 3 x.lgn (fun k => .int .i64 (x.lg k)))
theorem Book.In.below {w w' : World} {lo hi : Nat} {cs : List Value} {x : Book} (h : Book.In w lo hi cs x) (hb : Below w.heap.size w w') : Book.In w' lo hi cs x := by
  obtain ⟨llg, e, hlg⟩ := h
  exact ⟨llg, e, ⟨hlg.1, hlg.2.1, row_below hlg.2.2 hb⟩⟩
theorem Book.In.wide {w : World} {lo hi lo' hi' : Nat} {cs : List Value} {x : Book} (h : Book.In w lo hi cs x) (h1 : lo' ≤ lo) (h2 : hi ≤ hi') : Book.In w lo' hi' cs x := by
  obtain ⟨llg, e, hlg⟩ := h
  exact ⟨llg, e, ⟨Nat.le_trans h1 hlg.1, Nat.lt_of_lt_of_le hlg.2.1 h2, hlg.2.2⟩⟩
theorem Book.In.kept {w w' : World} {lo hi : Nat} {S : Nat → Prop} {cs : List Value} {x : Book} (h : Book.In w lo hi cs x) (hk : Kept w w' S) (hS : ∀ b, S b → b < lo ∨ hi ≤ b) : Book.In w' lo hi cs x := by
  obtain ⟨llg, e, hlg⟩ := h
  exact ⟨llg, e, ⟨hlg.1, hlg.2.1, hlg.2.2.of_block (hk.block _ hlg.2.2.lt (fun s => by have := hS _ s; omega))⟩⟩
theorem Book.In.is {w : World} {lo hi : Nat} {cs : List Value} {x : Book} (h : Book.In w lo hi cs x) (hs : Book.Short x 1048576) : Book.Is w cs x := by
  obtain ⟨llg, e, hlg⟩ := h
  obtain ⟨_, slg⟩ := hs
  exact ⟨some ⟨llg, 0, none⟩, x.lgn, e, IntsAt.of_row hlg.2.2, ⟨Nat.le_refl _, by omega, fun h => by cases h⟩⟩

/-- The slice at ao reads as N of them. -/
def BooksAt (w : World) (ao : Option Addr) (N : Nat) (S : Nat → Book) : Prop := ∃ C, RecsAt w ao N 13 C ∧ ∀ k, k < N → Book.Is w (C k) (S k)
theorem BooksAt.below {w w' : World} {ao : Option Addr} {N : Nat} {S : Nat → Book} (h : BooksAt w ao N S) (hb : Below w.heap.size w w') : BooksAt w' ao N S := by
  obtain ⟨C, h1, h2⟩ := h
  exact ⟨C, h1.below hb, fun k hk => (h2 k hk).below hb⟩
def BooksShort (N : Nat) (S : Nat → Book) (B : Nat) : Prop := ∀ i, i < N → Book.Short (S i) B
/-- The block g holds the first k of N copies (the others are zero), their lists in blocks behind g. -/
structure BooksTo (w : World) (k lo hi g N : Nat) (S : Nat → Book) (C : Nat → List Value) : Prop where
  row : w.rowIs g 101 (N * 13) (recCell 13 (upto k C (#[.int .i64 0, .int .i64 0, .string ⟨#[]⟩, .slice none 0 0, .int .i64 0, .int .i64 0, .int .i64 0, .int .i64 0, .bool false, .int .i64 0, .int .i64 0, .int .i64 0, .int .i64 0] : Array Value).toList))
  glo : lo ≤ g
  ghi : g < hi
  each : ∀ i, i < k → Book.In w (g + 1) hi (C i) (S i)
theorem BooksTo.below {w w' : World} {k lo hi g N : Nat} {S : Nat → Book} {C : Nat → List Value} (r : BooksTo w k lo hi g N S C) (hb : Below w.heap.size w w') : BooksTo w' k lo hi g N S C :=
  ⟨row_below r.row hb, r.glo, r.ghi, fun i hi => (r.each i hi).below hb⟩
theorem BooksTo.wide {w : World} {k lo hi lo' hi' g N : Nat} {S : Nat → Book} {C : Nat → List Value} (r : BooksTo w k lo hi g N S C) (h1 : lo' ≤ lo) (h2 : hi ≤ hi') : BooksTo w k lo' hi' g N S C :=
  ⟨r.row, Nat.le_trans h1 r.glo, Nat.lt_of_lt_of_le r.ghi h2, fun i hi => (r.each i hi).wide (Nat.le_refl _) h2⟩
theorem BooksTo.kept {w w' : World} {k lo hi g N : Nat} {S : Nat → Book} {C : Nat → List Value} {T : Nat → Prop} (r : BooksTo w k lo hi g N S C) (hk : Kept w w' T) (hT : ∀ b, T b → b < lo ∨ hi ≤ b) : BooksTo w' k lo hi g N S C :=
  ⟨r.row.of_block (hk.block _ r.row.lt (fun s => by have := hT _ s; have := r.glo; have := r.ghi; omega)), r.glo, r.ghi, fun i hi => (r.each i hi).kept hk (fun b s => by have := hT b s; have := r.glo; omega)⟩
theorem BooksTo.at {w : World} {lo hi g N : Nat} {S : Nat → Book} {C : Nat → List Value} (r : BooksTo w N lo hi g N S C) (hs : BooksShort N S 1048576) : BooksAt w (some ⟨g, 0, none⟩) N S := by
  refine ⟨upto N C (#[.int .i64 0, .int .i64 0, .string ⟨#[]⟩, .slice none 0 0, .int .i64 0, .int .i64 0, .int .i64 0, .int .i64 0, .bool false, .int .i64 0, .int .i64 0, .int .i64 0, .int .i64 0] : Array Value).toList, RecsAt.of_row r.row, fun k hk => ?_⟩
  rw [upto_lt _ _ hk]
  exact (r.each k hk).is (hs k hk)

end Go.Proofs.YtcioofnmhfehaaaGreat
