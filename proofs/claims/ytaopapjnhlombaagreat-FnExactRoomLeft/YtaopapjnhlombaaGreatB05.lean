/-
  OWN TEXT: LSeat, KitLoad, KitG.
-/
import Derived.Test.YtaopapjnhlombaaGreatRows
import Derived.Deep.RegionHeld3
import Derived.BigQuiet
import Derived.Test.YtaopapjnhlombaaGreatB04
import Derived.Test.YtaopapjnhlombaaGreatB02
import Derived.Test.YtaopapjnhlombaaGreatB03
import Derived.Test.YtaopapjnhlombaaGreatB00
namespace Go.Proofs.YtaopapjnhlombaaGreat
open Go.RowKit

set_option maxHeartbeats 400000 in
theorem toSeat_any (a0 : Int) (a1 : Int) (w : World) :
    Calls Tryz.prog 147 #[.agg #[.int .i64 a0, .int .i64 a1]] w fun e w' => e = .returned (.agg #[.int .i64 a0, .int .i64 a1]) ∧ Below w.heap.size w w' := by
  go_enter Tryz.func147, Tryz.ntmps147
  go_wp2
  exact bodyPost_ret (v := .agg #[.int .i64 a0, .int .i64 a1]) (by simp [results, Tryz.results147, go_sem]) rfl ⟨rfl, push (push (push (Below.refl _ _) _) _) _⟩

set_option maxHeartbeats 400000 in
theorem eqSeat_same (a0 : Int) (a1 : Int) (w : World) :
    Calls Tryz.prog 168 #[.agg #[.int .i64 a0, .int .i64 a1], .agg #[.int .i64 a0, .int .i64 a1]] w fun e w' => e = .returned (.bool true) ∧ Below w.heap.size w w' := by
  go_enter Tryz.func168, Tryz.ntmps168
  go_wp2
  go_ret
  exact ⟨rfl, push (push (Below.refl _ _) _) _⟩

set_option maxHeartbeats 800000 in
set_option maxRecDepth 100000 in
/-- toSeatS: a copy in a new row. -/
theorem toSeatS_any (ao : Option Addr) (n cap : Nat) (S : Nat → Seat) (w : World) (hn : n ≤ 1048576) (hz : SeatsAt w ao n S) :
    Calls Tryz.prog 110 #[.slice ao n cap] w fun e w' => ∃ g, e = .returned (.slice (some ⟨g, 0, none⟩) n n) ∧ w.heap.size ≤ g ∧
      w'.rowIs g 130 (n * 2) (seatCell S) ∧ Below w.heap.size w w' := by
  obtain ⟨i0, hi, hz0, hz1, hz2⟩ := info_parts Tryz.infoSeat
  go_enter Tryz.func110, Tryz.ntmps110
  go_wp2_with (first | (at_make; refine wpList_make_full _ rfl _ _ 62 rfl w.heap.size 130 i0 _ 2 Tryz.underlying62 hi hz0 hz1 .i64 .i64 _ _ n rfl rfl rfl rfl (by rw [hz2]; omega) (by unfold maxLen; omega) (Nat.le_refl _) ?_; intro w1 hown1 hgrow1))
  go_loopw [4] (fun i wr => ∃ k : Nat, k ≤ n ∧ i = .int .i64 k ∧ wr.rowIs w.heap.size 130 (n * 2) (seatCell (upto k S Seat.zero)) ∧ Below w.heap.size w wr)
    (fun i _ => n - (intOf i).toNat)
  case atStart => exact ⟨0, Nat.zero_le _, rfl, (row_of_own hown1).congr (fun j hj => made_seats n j hj), (Below.refl _ _).grown hgrow1 (Nat.le_refl _) (by simp)⟩
  case round =>
    obtain ⟨k, hk, rfl, hrow, hbel⟩ := hrel
    clear hown1 hgrow1
    by_cases hlt : k < n
    · obtain ⟨b, off, rfl, h0, h1⟩ := hz k (by omega)
      have hb := World.block_lt_of_cell? w _ h0
      have c0 := (hbel.cell (p := ⟨b, off + k * 2, none⟩) hb).trans h0
      have c1 := (hbel.cell (p := ⟨b, off + k * 2 + 1, none⟩) hb).trans h1
      clear h0 h1
      go_wp2_with (first | (go_at_call 147; refine (toSeat_any _ _ _).mono ?_; rintro e w2 ⟨rfl, hb2⟩; have hr2 := hrow.of_block (hb2.block _ hrow.lt); have o0 := hr2.cell (i := k * 2) (by omega); have o1 := hr2.cell (i := k * 2 + 1) (by omega); have f0 := hr2.frozen (k * 2); have f1 := hr2.frozen (k * 2 + 1)))
      go_roundw
      case rel =>
        refine ⟨k + 1, by omega, by go_num, ?_, ?_⟩
        · have := seat_set (k := k) (S' := upto (k + 1) S Seat.zero) hr2 (fun i h => upto_step _ _ _ _ h)
          simp only [upto_lt _ _ (Nat.lt_succ_self k)] at this
          exact this
        · exact (((after hbel hb2).setCell (Nat.le_refl _) _).setCell (Nat.le_refl _) _)
      case measure => simp [intOf]; omega
    · go_wp2
      go_ret
      exact ⟨_, rfl, Nat.le_refl _, hrow.congr (fun j hj => by unfold seatCell; rw [upto_lt _ _ (by omega)]), hbel⟩

set_option maxHeartbeats 800000 in
set_option maxRecDepth 100000 in
/-- eqSeatS at two lists that are one. -/
theorem eqSeatS_same (ao bo : Option Addr) (n c1 c2 : Nat) (S : Nat → Seat) (w : World) (hn : n ≤ 2097152) (hx : SeatsAt w ao n S) (hy : SeatsAt w bo n S) :
    Calls Tryz.prog 137 #[.slice ao n c1, .slice bo n c2] w fun e w' => e = .returned (.bool true) ∧ Below w.heap.size w w' := by
  go_enter Tryz.func137, Tryz.ntmps137
  go_wp2
  go_loopw [5] (fun i wr => ∃ k : Nat, k ≤ n ∧ i = .int .i64 k ∧ Below w.heap.size w wr) (fun i _ => n - (intOf i).toNat)
  case atStart => exact ⟨0, Nat.zero_le _, rfl, Below.refl _ _⟩
  case round =>
    obtain ⟨k, hk, rfl, hbel⟩ := hrel
    by_cases hlt : k < n
    · obtain ⟨b, off, rfl, h0, h1⟩ := hx k (by omega)
      obtain ⟨b2, off2, rfl, g0, g1⟩ := hy k (by omega)
      have hb := World.block_lt_of_cell? w _ h0
      have hb2 := World.block_lt_of_cell? w _ g0
      have c0 := (hbel.cell (p := ⟨b, off + k * 2, none⟩) hb).trans h0
      have d0 := (hbel.cell (p := ⟨b2, off2 + k * 2, none⟩) hb2).trans g0
      have c1 := (hbel.cell (p := ⟨b, off + k * 2 + 1, none⟩) hb).trans h1
      have d1 := (hbel.cell (p := ⟨b2, off2 + k * 2 + 1, none⟩) hb2).trans g1
      clear h0 g0 h1 g1
      have hbw : b < wr.heap.size := Nat.lt_of_lt_of_le hb hbel.size
      have hbw2 : b2 < wr.heap.size := Nat.lt_of_lt_of_le hb2 hbel.size
      have i1 : (0 : Int) ≤ (k : Int) := by omega
      have i2 : (k : Int) < (n : Int) := by omega
      go_wp2
      go_region_held3 (fun w' => w'.cell? ⟨b, off + k * 2, none⟩ = some (.int .i64 (S k).who) ∧ w'.cell? ⟨b, off + k * 2 + 1, none⟩ = some (.int .i64 (S k).many) ∧ w'.cell? ⟨b2, off2 + k * 2, none⟩ = some (.int .i64 (S k).who) ∧ w'.cell? ⟨b2, off2 + k * 2 + 1, none⟩ = some (.int .i64 (S k).many))
        (first | exact ⟨c0, c1, d0, d1⟩ | exact ⟨(hbb.cell hbw).trans c0, (hbb.cell hbw).trans c1, (hbb.cell hbw2).trans d0, (hbb.cell hbw2).trans d1⟩)
        (first | (go_at_call 168; refine (eqSeat_same _ _ _).mono ?_; rintro e w2 ⟨rfl, hbb⟩))
      go_wp2
      go_roundw
      case rel => exact ⟨k + 1, by omega, by go_num, after hbel.drew hbb⟩
      case measure => simp [intOf]; omega
    · go_wp2
      go_ret
      exact ⟨rfl, hbel⟩

set_option maxHeartbeats 400000 in
theorem szSeatS_any (ao : Option Addr) (n c : Nat) (L : Int) (w : World) (h0 : 0 ≤ L) (hL : L ≤ 1048576) (hn : n ≤ 1000000000000000) :
    Calls Tryz.prog 93 #[.slice ao n c, .int .i64 L] w fun e w' => ∃ r : Int, e = .returned (.int .i64 r) ∧ (r = -1 ∨ (0 ≤ r ∧ r ≤ L ∧ n ≤ 1048576)) ∧ Below w.heap.size w w' := by
  by_cases h : (n : Int) ≤ L
  · go_enter Tryz.func93, Tryz.ntmps93
    go_wp2
    go_ret
    exact ⟨_, rfl, .inr ⟨by omega, by omega, by omega⟩, Below.refl _ _⟩
  · go_enter Tryz.func93, Tryz.ntmps93
    go_wp2
    go_ret
    exact ⟨_, rfl, .inl rfl, Below.refl _ _⟩

end Go.Proofs.YtaopapjnhlombaaGreat

namespace Go.Proofs.YtaopapjnhlombaaGreat
open Go.RowKit

structure Load where
  stn : Nat
  st : Nat → Stay
  ron : Nat
  ro : Nat → Room
  sen : Nat
  se : Nat → Seat

/-- Cells that read as a sailing's load. -/
def Load.Is (w : World) (cs : List Value) (x : Load) : Prop :=
  ∃ ast cst aro cro ase cse, cs = [.slice ast x.stn cst, .slice aro x.ron cro, .slice ase x.sen cse] ∧ StaysAt w ast x.stn x.st ∧ SliceOk ast x.stn cst ∧ RoomsAt w aro x.ron x.ro ∧ SliceOk aro x.ron cro ∧ SeatsAt w ase x.sen x.se ∧ SliceOk ase x.sen cse
theorem Load.Is.below {w w' : World} {cs : List Value} {x : Load} (h : Load.Is w cs x) (hb : Below w.heap.size w w') : Load.Is w' cs x := by
  obtain ⟨ast, cst, aro, cro, ase, cse, e, hst, sst, hro, sro, hse, sse⟩ := h
  exact ⟨ast, cst, aro, cro, ase, cse, e, hst.below hb, sst, hro.below hb, sro, hse.below hb, sse⟩
theorem Load.Is.length {w : World} {cs : List Value} {x : Load} (h : Load.Is w cs x) : cs.length = 3 := by
  obtain ⟨_, _, _, _, _, _, rfl, _⟩ := h
  rfl
/-- Its lists and texts have B places at most. -/
def Load.Short (x : Load) (B : Nat) : Prop := x.stn ≤ B ∧ x.ron ≤ B ∧ x.sen ≤ B
/-- A copy whose lists lie in blocks from lo on, below hi. -/
def Load.In (w : World) (lo hi : Nat) (cs : List Value) (x : Load) : Prop :=
  ∃ lst lro lse, cs = [whole lst x.stn, whole lro x.ron, whole lse x.sen] ∧ (lo ≤ lst ∧ lst < hi ∧ w.rowIs lst 124 (x.stn * 4) (stayCell x.st)) ∧ (lo ≤ lro ∧ lro < hi ∧ w.rowIs lro 128 (x.ron * 4) (roomCell x.ro)) ∧ (lo ≤ lse ∧ lse < hi ∧ w.rowIs lse 130 (x.sen * 2) (seatCell x.se))
theorem Load.In.below {w w' : World} {lo hi : Nat} {cs : List Value} {x : Load} (h : Load.In w lo hi cs x) (hb : Below w.heap.size w w') : Load.In w' lo hi cs x := by
  obtain ⟨lst, lro, lse, e, hst, hro, hse⟩ := h
  exact ⟨lst, lro, lse, e, ⟨hst.1, hst.2.1, row_below hst.2.2 hb⟩, ⟨hro.1, hro.2.1, row_below hro.2.2 hb⟩, ⟨hse.1, hse.2.1, row_below hse.2.2 hb⟩⟩
theorem Load.In.wide {w : World} {lo hi lo' hi' : Nat} {cs : List Value} {x : Load} (h : Load.In w lo hi cs x) (h1 : lo' ≤ lo) (h2 : hi ≤ hi') : Load.In w lo' hi' cs x := by
  obtain ⟨lst, lro, lse, e, hst, hro, hse⟩ := h
  exact ⟨lst, lro, lse, e, ⟨Nat.le_trans h1 hst.1, Nat.lt_of_lt_of_le hst.2.1 h2, hst.2.2⟩, ⟨Nat.le_trans h1 hro.1, Nat.lt_of_lt_of_le hro.2.1 h2, hro.2.2⟩, ⟨Nat.le_trans h1 hse.1, Nat.lt_of_lt_of_le hse.2.1 h2, hse.2.2⟩⟩
theorem Load.In.kept {w w' : World} {lo hi : Nat} {S : Nat → Prop} {cs : List Value} {x : Load} (h : Load.In w lo hi cs x) (hk : Kept w w' S) (hS : ∀ b, S b → b < lo ∨ hi ≤ b) : Load.In w' lo hi cs x := by
  obtain ⟨lst, lro, lse, e, hst, hro, hse⟩ := h
  exact ⟨lst, lro, lse, e, ⟨hst.1, hst.2.1, hst.2.2.of_block (hk.block _ hst.2.2.lt (fun s => by have := hS _ s; omega))⟩, ⟨hro.1, hro.2.1, hro.2.2.of_block (hk.block _ hro.2.2.lt (fun s => by have := hS _ s; omega))⟩, ⟨hse.1, hse.2.1, hse.2.2.of_block (hk.block _ hse.2.2.lt (fun s => by have := hS _ s; omega))⟩⟩
theorem Load.In.is {w : World} {lo hi : Nat} {cs : List Value} {x : Load} (h : Load.In w lo hi cs x) (hs : Load.Short x 1048576) : Load.Is w cs x := by
  obtain ⟨lst, lro, lse, e, hst, hro, hse⟩ := h
  obtain ⟨sst, sro, sse⟩ := hs
  exact ⟨some ⟨lst, 0, none⟩, x.stn, some ⟨lro, 0, none⟩, x.ron, some ⟨lse, 0, none⟩, x.sen, e, StaysAt.of_row hst.2.2, ⟨Nat.le_refl _, by omega, fun h => by cases h⟩, RoomsAt.of_row hro.2.2, ⟨Nat.le_refl _, by omega, fun h => by cases h⟩, SeatsAt.of_row hse.2.2, ⟨Nat.le_refl _, by omega, fun h => by cases h⟩⟩

/-- The slice at ao reads as N of them. -/
def LoadsAt (w : World) (ao : Option Addr) (N : Nat) (S : Nat → Load) : Prop := ∃ C, RecsAt w ao N 3 C ∧ ∀ k, k < N → Load.Is w (C k) (S k)
theorem LoadsAt.below {w w' : World} {ao : Option Addr} {N : Nat} {S : Nat → Load} (h : LoadsAt w ao N S) (hb : Below w.heap.size w w') : LoadsAt w' ao N S := by
  obtain ⟨C, h1, h2⟩ := h
  exact ⟨C, h1.below hb, fun k hk => (h2 k hk).below hb⟩
def LoadsShort (N : Nat) (S : Nat → Load) (B : Nat) : Prop := ∀ i, i < N → Load.Short (S i) B
/-- The block g holds the first k of N copies (the others are zero), their lists in blocks behind g. -/
structure LoadsTo (w : World) (k lo hi g N : Nat) (S : Nat → Load) (C : Nat → List Value) : Prop where
  row : w.rowIs g 64 (N * 3) (recCell 3 (upto k C (#[.slice none 0 0, .slice none 0 0, .slice none 0 0] : Array Value).toList))
  glo : lo ≤ g
  ghi : g < hi
  each : ∀ i, i < k → Load.In w (g + 1) hi (C i) (S i)
theorem LoadsTo.below {w w' : World} {k lo hi g N : Nat} {S : Nat → Load} {C : Nat → List Value} (r : LoadsTo w k lo hi g N S C) (hb : Below w.heap.size w w') : LoadsTo w' k lo hi g N S C :=
  ⟨row_below r.row hb, r.glo, r.ghi, fun i hi => (r.each i hi).below hb⟩
theorem LoadsTo.wide {w : World} {k lo hi lo' hi' g N : Nat} {S : Nat → Load} {C : Nat → List Value} (r : LoadsTo w k lo hi g N S C) (h1 : lo' ≤ lo) (h2 : hi ≤ hi') : LoadsTo w k lo' hi' g N S C :=
  ⟨r.row, Nat.le_trans h1 r.glo, Nat.lt_of_lt_of_le r.ghi h2, fun i hi => (r.each i hi).wide (Nat.le_refl _) h2⟩
theorem LoadsTo.kept {w w' : World} {k lo hi g N : Nat} {S : Nat → Load} {C : Nat → List Value} {T : Nat → Prop} (r : LoadsTo w k lo hi g N S C) (hk : Kept w w' T) (hT : ∀ b, T b → b < lo ∨ hi ≤ b) : LoadsTo w' k lo hi g N S C :=
  ⟨r.row.of_block (hk.block _ r.row.lt (fun s => by have := hT _ s; have := r.glo; have := r.ghi; omega)), r.glo, r.ghi, fun i hi => (r.each i hi).kept hk (fun b s => by have := hT b s; have := r.glo; omega)⟩
theorem LoadsTo.at {w : World} {lo hi g N : Nat} {S : Nat → Load} {C : Nat → List Value} (r : LoadsTo w N lo hi g N S C) (hs : LoadsShort N S 1048576) : LoadsAt w (some ⟨g, 0, none⟩) N S := by
  refine ⟨upto N C (#[.slice none 0 0, .slice none 0 0, .slice none 0 0] : Array Value).toList, RecsAt.of_row r.row, fun k hk => ?_⟩
  rw [upto_lt _ _ hk]
  exact (r.each k hk).is (hs k hk)

end Go.Proofs.YtaopapjnhlombaaGreat

namespace Go.Proofs.YtaopapjnhlombaaGreat
open Go.RowKit

/-- A world that has grown out of W: nothing that was there is written. -/
structure Grown (W : World) where
  val : World
  bel : Below W.heap.size W val
instance (W : World) : Nonempty (Grown W) := ⟨⟨W, Below.refl _ _⟩⟩

theorem wp_region_grow {P : Program} {id : Nat} {Q : Exit → Act → World → Prop} {a : Act} {w : World} {l : List Oper} (hm : P.follows .mixedOrders = true) (hB : Region.lexB .any l.toArray = true)
    (h : wpQuiet P l.toArray (fun w' => ∃ g : Grown w, w' = g.val) (fun a' => ∀ w', (∃ g : Grown w, w' = g.val) → Q .normal a' w') l a) : (Code.region id l.toArray true).wp P Q a w :=
  wp_region_quiet (C := fun w' => ∃ g : Grown w, w' = g.val) hm hB ⟨⟨_, (Below.refl _ w).drew⟩, rfl⟩ (by simpa using h)

theorem grown_call {P : Program} {f : FuncId} {args : Array Value} {W : World} {g : Grown W} {v : Value}
    (h : Calls P f args g.val fun e w' => e = .returned v ∧ Below g.val.heap.size g.val w') : Calls P f args g.val fun e w'' => e = .returned v ∧ ∃ g' : Grown W, w'' = g'.val :=
  h.mono fun _ w' ⟨he, hb⟩ => ⟨he, ⟨w', after g.bel hb⟩, rfl⟩

end Go.Proofs.YtaopapjnhlombaaGreat
