/-
  OWN TEXT: LPartyEq, KitOp.
-/
import Derived.Test.YtfbooamjddnagaaDoorB06
import Derived.Test.YtfbooamjddnagaaDoorB02
import Derived.Test.YtfbooamjddnagaaDoorB04
namespace Go.Proofs.YtfbooamjddnagaaDoor
open Go.RowKit

set_option maxHeartbeats 400000 in
theorem eqParty_same (pe len hei cl : Int) (all : Bool) (be : Int) (w : World) :
    Calls Tryd.prog 36 #[.agg #[.int .i64 pe, .int .i64 len, .int .i64 hei, .int .i64 cl, .bool all, .int .i64 be], .agg #[.int .i64 pe, .int .i64 len, .int .i64 hei, .int .i64 cl, .bool all, .int .i64 be]] w fun e w' => e = .returned (.bool true) ∧ Below w.heap.size w w' := by
  go_enter Tryd.func36, Tryd.ntmps36
  go_wp2
  go_ret
  exact ⟨rfl, push (push (Below.refl _ _) _) _⟩

end Go.Proofs.YtfbooamjddnagaaDoor

namespace Go.Proofs.YtfbooamjddnagaaDoor
open Go.RowKit

structure OpD where
  kind : Int
  own : ByteArray
  name : Int
  lgn : Nat
  lg : Nat → Int
  pe : Int
  len : Int
  hei : Int
  cl : Int
  all : Bool
  be : Int
  unt : Int
  now : Int

/-- Cells that read as an operation. -/
def OpD.Is (w : World) (cs : List Value) (x : OpD) : Prop :=
  ∃ alg clg, cs = [.int .i64 x.kind, .string x.own, .int .i64 x.name, .slice alg x.lgn clg, .int .i64 x.pe, .int .i64 x.len, .int .i64 x.hei, .int .i64 x.cl, .bool x.all, .int .i64 x.be, .int .i64 x.unt, .int .i64 x.now] ∧ IntsAt w alg x.lgn x.lg ∧ SliceOk alg x.lgn clg
theorem OpD.Is.below {w w' : World} {cs : List Value} {x : OpD} (h : OpD.Is w cs x) (hb : Below w.heap.size w w') : OpD.Is w' cs x := by
  obtain ⟨alg, clg, e, hlg, slg⟩ := h
  exact ⟨alg, clg, e, hlg.below hb, slg⟩
theorem OpD.Is.length {w : World} {cs : List Value} {x : OpD} (h : OpD.Is w cs x) : cs.length = 12 := by
  obtain ⟨_, _, rfl, _⟩ := h
  rfl
/-- Its lists and texts have B places at most. -/
def OpD.Short (x : OpD) (B : Nat) : Prop := x.own.size ≤ B ∧ x.lgn ≤ B
/-- A copy whose lists lie in blocks from lo on, below hi. -/
def OpD.In (w : World) (lo hi : Nat) (cs : List Value) (x : OpD) : Prop :=
  ∃ llg, cs = [.int .i64 x.kind, .string x.own, .int .i64 x.name, whole llg x.lgn, .int .i64 x.pe, .int .i64 x.len, .int .i64 x.hei, .int .i64 x.cl, .bool x.all, .int .i64 x.be, .int .i64 x.unt, .int .i64 x.now] ∧ (lo ≤ llg ∧ llg < hi ∧ w.rowIs llg 3 x.lgn (fun k => .int .i64 (x.lg k)))
theorem OpD.In.below {w w' : World} {lo hi : Nat} {cs : List Value} {x : OpD} (h : OpD.In w lo hi cs x) (hb : Below w.heap.size w w') : OpD.In w' lo hi cs x := by
  obtain ⟨llg, e, hlg⟩ := h
  exact ⟨llg, e, ⟨hlg.1, hlg.2.1, row_below hlg.2.2 hb⟩⟩
theorem OpD.In.wide {w : World} {lo hi lo' hi' : Nat} {cs : List Value} {x : OpD} (h : OpD.In w lo hi cs x) (h1 : lo' ≤ lo) (h2 : hi ≤ hi') : OpD.In w lo' hi' cs x := by
  obtain ⟨llg, e, hlg⟩ := h
  exact ⟨llg, e, ⟨Nat.le_trans h1 hlg.1, Nat.lt_of_lt_of_le hlg.2.1 h2, hlg.2.2⟩⟩
theorem OpD.In.kept {w w' : World} {lo hi : Nat} {S : Nat → Prop} {cs : List Value} {x : OpD} (h : OpD.In w lo hi cs x) (hk : Kept w w' S) (hS : ∀ b, S b → b < lo ∨ hi ≤ b) : OpD.In w' lo hi cs x := by
  obtain ⟨llg, e, hlg⟩ := h
  exact ⟨llg, e, ⟨hlg.1, hlg.2.1, hlg.2.2.of_block (hk.block _ hlg.2.2.lt (fun s => by have := hS _ s; omega))⟩⟩
theorem OpD.In.is {w : World} {lo hi : Nat} {cs : List Value} {x : OpD} (h : OpD.In w lo hi cs x) (hs : OpD.Short x 1048576) : OpD.Is w cs x := by
  obtain ⟨llg, e, hlg⟩ := h
  obtain ⟨_, slg⟩ := hs
  exact ⟨some ⟨llg, 0, none⟩, x.lgn, e, IntsAt.of_row hlg.2.2, ⟨Nat.le_refl _, by omega, fun h => by cases h⟩⟩

end Go.Proofs.YtfbooamjddnagaaDoor
