/-
  OWN TEXT: KitAnswer, KitG.
-/
import Derived.BigQuiet
import Derived.Test.YtogbaoggebghdaaB01
import Derived.Test.YtogbaoggebghdaaB03
import Derived.Test.YtogbaoggebghdaaB00
namespace Go.Proofs.Ytogbaoggebghdaa
open Go.RowKit

structure AnsD where
  code : Int
  anam : Int
  price : Int
  rwn : Nat
  rw : Nat → MRow

/-- Cells that read as an answer. -/
def AnsD.Is (w : World) (cs : List Value) (x : AnsD) : Prop :=
  ∃ arw crw, cs = [.int .i64 x.code, .int .i64 x.anam, .int .i64 x.price, .slice arw x.rwn crw] ∧ MRowsAt w arw x.rwn x.rw ∧ SliceOk arw x.rwn crw
theorem AnsD.Is.below {w w' : World} {cs : List Value} {x : AnsD} (h : AnsD.Is w cs x) (hb : Below w.heap.size w w') : AnsD.Is w' cs x := by
  obtain ⟨arw, crw, e, hrw, srw⟩ := h
  exact ⟨arw, crw, e, hrw.below hb, srw⟩
theorem AnsD.Is.length {w : World} {cs : List Value} {x : AnsD} (h : AnsD.Is w cs x) : cs.length = 4 := by
  obtain ⟨_, _, rfl, _⟩ := h
  rfl
/-- Its lists and texts have B places at most. -/
def AnsD.Short (x : AnsD) (B : Nat) : Prop := MRowsShort x.rwn x.rw B
/-- A copy whose lists lie in blocks from lo on, below hi. -/
def AnsD.In (w : World) (lo hi : Nat) (cs : List Value) (x : AnsD) : Prop :=
  ∃ lrw, cs = [.int .i64 x.code, .int .i64 x.anam, .int .i64 x.price, whole lrw x.rwn] ∧ (lo ≤ lrw ∧ lrw < hi ∧ w.rowIs lrw 84 (x.rwn * 5) (rowCell x.rw))
theorem AnsD.In.below {w w' : World} {lo hi : Nat} {cs : List Value} {x : AnsD} (h : AnsD.In w lo hi cs x) (hb : Below w.heap.size w w') : AnsD.In w' lo hi cs x := by
  obtain ⟨lrw, e, hrw⟩ := h
  exact ⟨lrw, e, ⟨hrw.1, hrw.2.1, row_below hrw.2.2 hb⟩⟩
theorem AnsD.In.wide {w : World} {lo hi lo' hi' : Nat} {cs : List Value} {x : AnsD} (h : AnsD.In w lo hi cs x) (h1 : lo' ≤ lo) (h2 : hi ≤ hi') : AnsD.In w lo' hi' cs x := by
  obtain ⟨lrw, e, hrw⟩ := h
  exact ⟨lrw, e, ⟨Nat.le_trans h1 hrw.1, Nat.lt_of_lt_of_le hrw.2.1 h2, hrw.2.2⟩⟩
theorem AnsD.In.kept {w w' : World} {lo hi : Nat} {S : Nat → Prop} {cs : List Value} {x : AnsD} (h : AnsD.In w lo hi cs x) (hk : Kept w w' S) (hS : ∀ b, S b → b < lo ∨ hi ≤ b) : AnsD.In w' lo hi cs x := by
  obtain ⟨lrw, e, hrw⟩ := h
  exact ⟨lrw, e, ⟨hrw.1, hrw.2.1, hrw.2.2.of_block (hk.block _ hrw.2.2.lt (fun s => by have := hS _ s; omega))⟩⟩
theorem AnsD.In.is {w : World} {lo hi : Nat} {cs : List Value} {x : AnsD} (h : AnsD.In w lo hi cs x) (hs : AnsD.Short x 1048576) : AnsD.Is w cs x := by
  obtain ⟨lrw, e, hrw⟩ := h
  have srw := hs
  have srw := srw.1
  exact ⟨some ⟨lrw, 0, none⟩, x.rwn, e, MRowsAt.of_row hrw.2.2, ⟨Nat.le_refl _, by omega, fun h => by cases h⟩⟩

/-- The slice at ao reads as N of them. -/
def AnsDsAt (w : World) (ao : Option Addr) (N : Nat) (S : Nat → AnsD) : Prop := ∃ C, RecsAt w ao N 4 C ∧ ∀ k, k < N → AnsD.Is w (C k) (S k)
theorem AnsDsAt.below {w w' : World} {ao : Option Addr} {N : Nat} {S : Nat → AnsD} (h : AnsDsAt w ao N S) (hb : Below w.heap.size w w') : AnsDsAt w' ao N S := by
  obtain ⟨C, h1, h2⟩ := h
  exact ⟨C, h1.below hb, fun k hk => (h2 k hk).below hb⟩
def AnsDsShort (N : Nat) (S : Nat → AnsD) (B : Nat) : Prop := ∀ i, i < N → AnsD.Short (S i) B
/-- The block g holds the first k of N copies (the others are zero), their lists in blocks behind g. -/
structure AnsDsTo (w : World) (k lo hi g N : Nat) (S : Nat → AnsD) (C : Nat → List Value) : Prop where
  row : w.rowIs g 28 (N * 4) (recCell 4 (upto k C (#[.int .i64 0, .int .i64 0, .int .i64 0, .slice none 0 0] : Array Value).toList))
  glo : lo ≤ g
  ghi : g < hi
  each : ∀ i, i < k → AnsD.In w (g + 1) hi (C i) (S i)
theorem AnsDsTo.below {w w' : World} {k lo hi g N : Nat} {S : Nat → AnsD} {C : Nat → List Value} (r : AnsDsTo w k lo hi g N S C) (hb : Below w.heap.size w w') : AnsDsTo w' k lo hi g N S C :=
  ⟨row_below r.row hb, r.glo, r.ghi, fun i hi => (r.each i hi).below hb⟩
theorem AnsDsTo.wide {w : World} {k lo hi lo' hi' g N : Nat} {S : Nat → AnsD} {C : Nat → List Value} (r : AnsDsTo w k lo hi g N S C) (h1 : lo' ≤ lo) (h2 : hi ≤ hi') : AnsDsTo w k lo' hi' g N S C :=
  ⟨r.row, Nat.le_trans h1 r.glo, Nat.lt_of_lt_of_le r.ghi h2, fun i hi => (r.each i hi).wide (Nat.le_refl _) h2⟩
theorem AnsDsTo.kept {w w' : World} {k lo hi g N : Nat} {S : Nat → AnsD} {C : Nat → List Value} {T : Nat → Prop} (r : AnsDsTo w k lo hi g N S C) (hk : Kept w w' T) (hT : ∀ b, T b → b < lo ∨ hi ≤ b) : AnsDsTo w' k lo hi g N S C :=
  ⟨r.row.of_block (hk.block _ r.row.lt (fun s => by have := hT _ s; have := r.glo; have := r.ghi; omega)), r.glo, r.ghi, fun i hi => (r.each i hi).kept hk (fun b s => by have := hT b s; have := r.glo; omega)⟩
theorem AnsDsTo.at {w : World} {lo hi g N : Nat} {S : Nat → AnsD} {C : Nat → List Value} (r : AnsDsTo w N lo hi g N S C) (hs : AnsDsShort N S 1048576) : AnsDsAt w (some ⟨g, 0, none⟩) N S := by
  refine ⟨upto N C (#[.int .i64 0, .int .i64 0, .int .i64 0, .slice none 0 0] : Array Value).toList, RecsAt.of_row r.row, fun k hk => ?_⟩
  rw [upto_lt _ _ hk]
  exact (r.each k hk).is (hs k hk)

end Go.Proofs.Ytogbaoggebghdaa

namespace Go.Proofs.Ytogbaoggebghdaa
open Go.RowKit

/-- A world that has grown out of W: nothing that was there is written. -/
structure Grown (W : World) where
  val : World
  bel : Below W.heap.size W val
instance (W : World) : Nonempty (Grown W) := ⟨⟨W, Below.refl _ _⟩⟩

theorem wp_region_grow {P : Program} {id : Nat} {Q : Exit → Act → World → Prop} {a : Act} {w : World} {l : List Oper} (hm : P.follows .mixedOrders = true) (hB : Region.lexB .any l.toArray = true)
    (h : wpQuiet P l.toArray (fun w' => ∃ g : Grown w, w' = g.val) (fun a' => ∀ w', (∃ g : Grown w, w' = g.val) → Q .normal a' w') l a) : (Code.region id l.toArray true).wp P Q a w :=
  wp_region_quiet (C := fun w' => ∃ g : Grown w, w' = g.val) hm hB ⟨⟨_, (Below.refl _ w).drew⟩, rfl⟩ (by simpa using h)

theorem grown_call {P : Program} {f : FuncId} {args : Array Value} {W : World} {g : Grown W} {v : Value}
    (h : Calls P f args g.val fun e w' => e = .returned v ∧ Below g.val.heap.size g.val w') : Calls P f args g.val fun e w'' => e = .returned v ∧ ∃ g' : Grown W, w'' = g'.val :=
  h.mono fun _ w' ⟨he, hb⟩ => ⟨he, ⟨w', after g.bel hb⟩, rfl⟩

end Go.Proofs.Ytogbaoggebghdaa
