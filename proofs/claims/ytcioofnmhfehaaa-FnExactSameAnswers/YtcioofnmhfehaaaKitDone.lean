/-
  OWN TEXT: words for what is done: its data, how it is read, a copy of it in new memory. No theorem of the program.
-/
import Derived.Test.YtcioofnmhfehaaaKitD
import Derived.Test.YtcioofnmhfehaaaIntsSz
import Derived.Test.YtcioofnmhfehaaaLMRow
import Derived.Test.YtcioofnmhfehaaaLOp
import Derived.Test.YtcioofnmhfehaaaLAnswer
namespace Go.Proofs.Ytcioofnmhfehaaa
open Go.RowKit

structure DoneD where
  who : Int
  kind : Int
  own : ByteArray
  name : Int
  lgn : Nat
  lg : Nat → Int
  pe : Int
  len : Int
  hei : Int
  cl : Int
  all : Bool
  be : Int
  unt : Int
  now : Int
  code : Int
  anam : Int
  price : Int
  rwn : Nat
  rw : Nat → MRow

/-- Cells that read as what is done. -/
def DoneD.Is (w : World) (cs : List Value) (x : DoneD) : Prop :=
  ∃ alg clg arw crw, cs = [.int .i64 x.who, .int .i64 x.kind, .string x.own, .int .i64 x.name, .slice alg x.lgn clg, .int .i64 x.pe, .int .i64 x.len, .int .i64 x.hei, .int .i64 x.cl, .bool x.all, .int .i64 x.be, .int .i64 x.unt, .int .i64 x.now, .int .i64 x.code, .int .i64 x.anam, .int .i64 x.price, .slice arw x.rwn crw] ∧ IntsAt w alg x.lgn x.lg ∧ SliceOk alg x.lgn clg ∧ MRowsAt w arw x.rwn x.rw ∧ SliceOk arw x.rwn crw
theorem DoneD.Is.below {w w' : World} {cs : List Value} {x : DoneD} (h : DoneD.Is w cs x) (hb : Below w.heap.size w w') : DoneD.Is w' cs x := by
  obtain ⟨alg, clg, arw, crw, e, hlg, slg, hrw, srw⟩ := h
  exact ⟨alg, clg, arw, crw, e, hlg.below hb, slg, hrw.below hb, srw⟩
theorem DoneD.Is.length {w : World} {cs : List Value} {x : DoneD} (h : DoneD.Is w cs x) : cs.length = 17 := by
  obtain ⟨_, _, _, _, rfl, _⟩ := h
  rfl
/-- Its lists and texts have B places at most. -/
def DoneD.Short (x : DoneD) (B : Nat) : Prop := x.own.size ≤ B ∧ x.lgn ≤ B ∧ MRowsShort x.rwn x.rw B
/-- A copy whose lists lie in blocks from lo on, below hi. -/
def DoneD.In (w : World) (lo hi : Nat) (cs : List Value) (x : DoneD) : Prop :=
  ∃ llg lrw, cs = [.int .i64 x.who, .int .i64 x.kind, .string x.own, .int .i64 x.name, whole llg x.lgn, .int .i64 x.pe, .int .i64 x.len, .int .i64 x.hei, .int .i64 x.cl, .bool x.all, .int .i64 x.be, .int .i64 x.unt, .int .i64 x.now, .int .i64 x.code, .int .i64 x.anam, .int .i64 x.price, whole lrw x.rwn] ∧ (lo ≤ llg ∧ llg < hi ∧ w.rowIs llg 3 x.lgn (fun k => .int .i64 (x.lg k))) ∧ (lo ≤ lrw ∧ lrw < hi ∧ w.rowIs lrw 72 (x.rwn * 5) (rowCell x.rw))
theorem DoneD.In.below {w w' : World} {lo hi : Nat} {cs : List Value} {x : DoneD} (h : DoneD.In w lo hi cs x) (hb : Below w.heap.size w w') : DoneD.In w' lo hi cs x := by
  obtain ⟨llg, lrw, e, hlg, hrw⟩ := h
  exact ⟨llg, lrw, e, ⟨hlg.1, hlg.2.1, row_below hlg.2.2 hb⟩, ⟨hrw.1, hrw.2.1, row_below hrw.2.2 hb⟩⟩
theorem DoneD.In.wide {w : World} {lo hi lo' hi' : Nat} {cs : List Value} {x : DoneD} (h : DoneD.In w lo hi cs x) (h1 : lo' ≤ lo) (h2 : hi ≤ hi') : DoneD.In w lo' hi' cs x := by
  obtain ⟨llg, lrw, e, hlg, hrw⟩ := h
  exact ⟨llg, lrw, e, ⟨Nat.le_trans h1 hlg.1, Nat.lt_of_lt_of_le hlg.2.1 h2, hlg.2.2⟩, ⟨Nat.le_trans h1 hrw.1, Nat.lt_of_lt_of_le hrw.2.1 h2, hrw.2.2⟩⟩
theorem DoneD.In.kept {w w' : World} {lo hi : Nat} {S : Nat → Prop} {cs : List Value} {x : DoneD} (h : DoneD.In w lo hi cs x) (hk : Kept w w' S) (hS : ∀ b, S b → b < lo ∨ hi ≤ b) : DoneD.In w' lo hi cs x := by
  obtain ⟨llg, lrw, e, hlg, hrw⟩ := h
  exact ⟨llg, lrw, e, ⟨hlg.1, hlg.2.1, hlg.2.2.of_block (hk.block _ hlg.2.2.lt (fun s => by have := hS _ s; omega))⟩, ⟨hrw.1, hrw.2.1, hrw.2.2.of_block (hk.block _ hrw.2.2.lt (fun s => by have := hS _ s; omega))⟩⟩
theorem DoneD.In.is {w : World} {lo hi : Nat} {cs : List Value} {x : DoneD} (h : DoneD.In w lo hi cs x) (hs : DoneD.Short x 1048576) : DoneD.Is w cs x := by
  obtain ⟨llg, lrw, e, hlg, hrw⟩ := h
  obtain ⟨_, slg, srw⟩ := hs
  have srw := srw.1
  exact ⟨some ⟨llg, 0, none⟩, x.lgn, some ⟨lrw, 0, none⟩, x.rwn, e, IntsAt.of_row hlg.2.2, ⟨Nat.le_refl _, by omega, fun h => by cases h⟩, MRowsAt.of_row hrw.2.2, ⟨Nat.le_refl _, by omega, fun h => by cases h⟩⟩

/-- The slice at ao reads as N of them. -/
def DoneDsAt (w : World) (ao : Option Addr) (N : Nat) (S : Nat → DoneD) : Prop := ∃ C, RecsAt w ao N 17 C ∧ ∀ k, k < N → DoneD.Is w (C k) (S k)
theorem DoneDsAt.below {w w' : World} {ao : Option Addr} {N : Nat} {S : Nat → DoneD} (h : DoneDsAt w ao N S) (hb : Below w.heap.size w w') : DoneDsAt w' ao N S := by
  obtain ⟨C, h1, h2⟩ := h
  exact ⟨C, h1.below hb, fun k hk => (h2 k hk).below hb⟩
def DoneDsShort (N : Nat) (S : Nat → DoneD) (B : Nat) : Prop := ∀ i, i < N → DoneD.Short (S i) B
/-- The block g holds the first k of N copies (the others are zero), their lists in blocks behind g. -/
structure DoneDsTo (w : World) (k lo hi g N : Nat) (S : Nat → DoneD) (C : Nat → List Value) : Prop where
  row : w.rowIs g 57 (N * 17) (recCell 17 (upto k C (#[.int .i64 0, .int .i64 0, .string ⟨#[]⟩, .int .i64 0, .slice none 0 0, .int .i64 0, .int .i64 0, .int .i64 0, .int .i64 0, .bool false, .int .i64 0, .int .i64 0, .int .i64 0, .int .i64 0, .int .i64 0, .int .i64 0, .slice none 0 0] : Array Value).toList))
  glo : lo ≤ g
  ghi : g < hi
  each : ∀ i, i < k → DoneD.In w (g + 1) hi (C i) (S i)
theorem DoneDsTo.below {w w' : World} {k lo hi g N : Nat} {S : Nat → DoneD} {C : Nat → List Value} (r : DoneDsTo w k lo hi g N S C) (hb : Below w.heap.size w w') : DoneDsTo w' k lo hi g N S C :=
  ⟨row_below r.row hb, r.glo, r.ghi, fun i hi => (r.each i hi).below hb⟩
theorem DoneDsTo.wide {w : World} {k lo hi lo' hi' g N : Nat} {S : Nat → DoneD} {C : Nat → List Value} (r : DoneDsTo w k lo hi g N S C) (h1 : lo' ≤ lo) (h2 : hi ≤ hi') : DoneDsTo w k lo' hi' g N S C :=
  ⟨r.row, Nat.le_trans h1 r.glo, Nat.lt_of_lt_of_le r.ghi h2, fun i hi => (r.each i hi).wide (Nat.le_refl _) h2⟩
theorem DoneDsTo.kept {w w' : World} {k lo hi g N : Nat} {S : Nat → DoneD} {C : Nat → List Value} {T : Nat → Prop} (r : DoneDsTo w k lo hi g N S C) (hk : Kept w w' T) (hT : ∀ b, T b → b < lo ∨ hi ≤ b) : DoneDsTo w' k lo hi g N S C :=
  ⟨r.row.of_block (hk.block _ r.row.lt (fun s => by have := hT _ s; have := r.glo; have := r.ghi; omega)), r.glo, r.ghi, fun i hi => (r.each i hi).kept hk (fun b s => by have := hT b s; have := r.glo; omega)⟩
theorem DoneDsTo.at {w : World} {lo hi g N : Nat} {S : Nat → DoneD} {C : Nat → List Value} (r : DoneDsTo w N lo hi g N S C) (hs : DoneDsShort N S 1048576) : DoneDsAt w (some ⟨g, 0, none⟩) N S := by
  refine ⟨upto N C (#[.int .i64 0, .int .i64 0, .string ⟨#[]⟩, .int .i64 0, .slice none 0 0, .int .i64 0, .int .i64 0, .int .i64 0, .int .i64 0, .bool false, .int .i64 0, .int .i64 0, .int .i64 0, .int .i64 0, .int .i64 0, .int .i64 0, .slice none 0 0] : Array Value).toList, RecsAt.of_row r.row, fun k hk => ?_⟩
  rw [upto_lt _ _ hk]
  exact (r.each k hk).is (hs k hk)

end Go.Proofs.Ytcioofnmhfehaaa
