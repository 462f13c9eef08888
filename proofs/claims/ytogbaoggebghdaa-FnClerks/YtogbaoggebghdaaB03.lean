/-
  OWN TEXT: LMRow, LMRowE.
-/
import Derived.Test.YtogbaoggebghdaaRows
import Derived.Deep.RegionHeld3
import Derived.Test.YtogbaoggebghdaaB02
namespace Go.Proofs.Ytogbaoggebghdaa
open Go.RowKit

/-- A list of rows, and its texts, of B at most. -/
def MRowsShort (n : Nat) (S : Nat → MRow) (B : Nat) : Prop := n ≤ B ∧ ∀ k, k < n → (S k).own.size ≤ B

set_option maxHeartbeats 400000 in
theorem toRow_any (a0 : Int) (a1 : ByteArray) (a2 : Int) (a3 : Int) (a4 : Int) (w : World) :
    Calls Try.prog 74 #[.agg #[.int .i64 a0, .string a1, .int .i64 a2, .int .i64 a3, .int .i64 a4]] w fun e w' => e = .returned (.agg #[.int .i64 a0, .string a1, .int .i64 a2, .int .i64 a3, .int .i64 a4]) ∧ Below w.heap.size w w' := by
  go_enter Try.func74, Try.ntmps74
  go_wp2
  exact bodyPost_ret (v := .agg #[.int .i64 a0, .string a1, .int .i64 a2, .int .i64 a3, .int .i64 a4]) (by simp [results, Try.results74, go_sem]) rfl ⟨rfl, push (push (push (Below.refl _ _) _) _) _⟩

set_option maxHeartbeats 400000 in
theorem szRow_any (a0 : Int) (a1 : ByteArray) (a2 : Int) (a3 : Int) (a4 : Int) (L : Int) (w : World) (h0 : 0 ≤ L) (hL : L ≤ 1048576) (hs : a1.size ≤ 1000000000000000) :
    Calls Try.prog 73 #[.agg #[.int .i64 a0, .string a1, .int .i64 a2, .int .i64 a3, .int .i64 a4], .int .i64 L] w fun e w' => ∃ r : Int, e = .returned (.int .i64 r) ∧ (r = -1 ∨ (0 ≤ r ∧ r ≤ L ∧ a1.size ≤ 1048576)) ∧ Below w.heap.size w w' := by
  by_cases g : (a1.size : Int) ≤ L
  · have e1 : decide (L - (a1.size : Int) < 0) = false := by simp; omega
    go_enter Try.func73, Try.ntmps73
    go_wp2
    go_ret
    exact ⟨_, rfl, .inr ⟨by omega, by omega, by omega⟩, push (Below.refl _ _) _⟩
  · have e1 : decide (L - (a1.size : Int) < 0) = true := by simp; omega
    go_enter Try.func73, Try.ntmps73
    go_wp2
    go_ret
    exact ⟨_, rfl, .inl rfl, push (Below.refl _ _) _⟩

set_option maxHeartbeats 800000 in
set_option maxRecDepth 100000 in
theorem szRowS_any (ao : Option Addr) (n c : Nat) (S : Nat → MRow) (L0 : Int) (w : World) (h0 : 0 ≤ L0) (hL0 : L0 ≤ 1048576) (hn : MRowsShort n S 1000000000000000) (hx : MRowsAt w ao n S) :
    Calls Try.prog 60 #[.slice ao n c, .int .i64 L0] w fun e w' => ∃ r : Int, e = .returned (.int .i64 r) ∧ (r = -1 ∨ (0 ≤ r ∧ r ≤ L0 ∧ MRowsShort n S 1048576)) ∧ Below w.heap.size w w' := by
  have hn1 := hn.1
  have HS : Hid (MRowsShort n S 1000000000000000) := hn
  have HX : Hid (MRowsAt w ao n S) := hx
  clear hn hx
  by_cases hf : (n : Int) ≤ L0
  · have d0 : decide (L0 - (n : Int) < 0) = false := by simp; omega
    go_enter Try.func60, Try.ntmps60
    go_wp2
    go_loopw [1, 5] (fun l i wr => ∃ (k : Nat) (L : Int), k ≤ n ∧ i = .int .i64 k ∧ l = .int .i64 L ∧ 0 ≤ L ∧ L ≤ L0 ∧ (∀ i, i < k → (S i).own.size ≤ 1048576) ∧ Below w.heap.size w wr) (fun _ i _ => n - (intOf i).toNat)
    case atStart => exact ⟨0, _, Nat.zero_le _, rfl, rfl, by omega, by omega, fun i hi => by omega, Below.refl _ _⟩
    case round =>
      obtain ⟨k, L, hk, rfl, rfl, l0, l1, hst, hbel⟩ := hrel
      have HT : Hid (∀ i, i < k → (S i).own.size ≤ 1048576) := hst
      clear hst d0
      by_cases hlt : k < n
      · obtain ⟨b, off, rfl, g0, g1, g2, g3, g4⟩ := HX.out k hlt
        have hb := World.block_lt_of_cell? w _ g0
        have c0 := (hbel.cell (p := ⟨b, off + k * 5, none⟩) hb).trans g0
        have c1 := (hbel.cell (p := ⟨b, off + k * 5 + 1, none⟩) hb).trans g1
        have c2 := (hbel.cell (p := ⟨b, off + k * 5 + 2, none⟩) hb).trans g2
        have c3 := (hbel.cell (p := ⟨b, off + k * 5 + 3, none⟩) hb).trans g3
        have c4 := (hbel.cell (p := ⟨b, off + k * 5 + 4, none⟩) hb).trans g4
        clear g0 g1 g2 g3 g4
        have hsk := HS.out.2 k hlt
        go_wp2_with fail
        refine (szRow_any _ _ _ _ _ L _ l0 (by omega) hsk).mono ?_
        rintro e w2 ⟨r, rfl, hr, hb3⟩
        rcases hr with rfl | ⟨r0, r1, r2⟩
        · go_wp2
          go_ret
          exact ⟨_, rfl, .inl rfl, after hbel hb3⟩
        · have d1 : decide (r < 0) = false := by simpa using r0
          go_wp2
          go_roundw
          case rel =>
            refine ⟨k + 1, r, by omega, by go_num, rfl, r0, by omega, fun i hi => ?_, after hbel hb3⟩
            by_cases e : i = k
            · subst e; exact r2
            · exact HT.out i (by omega)
          case measure => simp [intOf]; omega
      · obtain rfl : k = n := by omega
        go_wp2
        go_ret
        exact ⟨_, rfl, .inr ⟨l0, l1, by omega, HT.out⟩, hbel⟩
  · have d0 : decide (L0 - (n : Int) < 0) = true := by simp; omega
    go_enter Try.func60, Try.ntmps60
    go_wp2
    go_ret
    exact ⟨_, rfl, .inl rfl, Below.refl _ _⟩

set_option maxHeartbeats 800000 in
set_option maxRecDepth 100000 in
/-- toRowS: a copy in a new row. -/
theorem toRowS_any (ao : Option Addr) (n cap : Nat) (S : Nat → MRow) (w : World) (hn : n ≤ 1048576) (hz : MRowsAt w ao n S) :
    Calls Try.prog 61 #[.slice ao n cap] w fun e w' => ∃ g, e = .returned (.slice (some ⟨g, 0, none⟩) n n) ∧ w.heap.size ≤ g ∧
      w'.rowIs g 84 (n * 5) (rowCell S) ∧ Below w.heap.size w w' := by
  obtain ⟨i0, hi, hz0, hz1, hz2⟩ := info_parts Try.infoRow
  go_enter Try.func61, Try.ntmps61
  go_wp2_with (first | (at_make; refine wpList_make_full _ rfl _ _ 26 rfl w.heap.size 84 i0 _ 5 Try.underlying26 hi hz0 hz1 .i64 .i64 _ _ n rfl rfl rfl rfl (by rw [hz2]; omega) (by unfold maxLen; omega) (Nat.le_refl _) ?_; intro w1 hown1 hgrow1))
  go_loopw [4] (fun i wr => ∃ k : Nat, k ≤ n ∧ i = .int .i64 k ∧ wr.rowIs w.heap.size 84 (n * 5) (rowCell (upto k S MRow.zero)) ∧ Below w.heap.size w wr)
    (fun i _ => n - (intOf i).toNat)
  case atStart => exact ⟨0, Nat.zero_le _, rfl, (row_of_own hown1).congr (fun j hj => made_rows n j hj), (Below.refl _ _).grown hgrow1 (Nat.le_refl _) (by simp)⟩
  case round =>
    obtain ⟨k, hk, rfl, hrow, hbel⟩ := hrel
    clear hown1 hgrow1
    by_cases hlt : k < n
    · obtain ⟨b, off, rfl, h0, h1, h2, h3, h4⟩ := hz k (by omega)
      have hb := World.block_lt_of_cell? w _ h0
      have c0 := (hbel.cell (p := ⟨b, off + k * 5, none⟩) hb).trans h0
      have c1 := (hbel.cell (p := ⟨b, off + k * 5 + 1, none⟩) hb).trans h1
      have c2 := (hbel.cell (p := ⟨b, off + k * 5 + 2, none⟩) hb).trans h2
      have c3 := (hbel.cell (p := ⟨b, off + k * 5 + 3, none⟩) hb).trans h3
      have c4 := (hbel.cell (p := ⟨b, off + k * 5 + 4, none⟩) hb).trans h4
      clear h0 h1 h2 h3 h4
      go_wp2_with (first | (go_at_call 74; refine (toRow_any _ _ _ _ _ _).mono ?_; rintro e w2 ⟨rfl, hb2⟩; have hr2 := hrow.of_block (hb2.block _ hrow.lt); have o0 := hr2.cell (i := k * 5) (by omega); have o1 := hr2.cell (i := k * 5 + 1) (by omega); have o2 := hr2.cell (i := k * 5 + 2) (by omega); have o3 := hr2.cell (i := k * 5 + 3) (by omega); have o4 := hr2.cell (i := k * 5 + 4) (by omega); have f0 := hr2.frozen (k * 5); have f1 := hr2.frozen (k * 5 + 1); have f2 := hr2.frozen (k * 5 + 2); have f3 := hr2.frozen (k * 5 + 3); have f4 := hr2.frozen (k * 5 + 4)))
      go_roundw
      case rel =>
        refine ⟨k + 1, by omega, by go_num, ?_, ?_⟩
        · have := row_set (k := k) (S' := upto (k + 1) S MRow.zero) hr2 (fun i h => upto_step _ _ _ _ h)
          simp only [upto_lt _ _ (Nat.lt_succ_self k)] at this
          exact this
        · exact ((((((after hbel hb2).setCell (Nat.le_refl _) _).setCell (Nat.le_refl _) _).setCell (Nat.le_refl _) _).setCell (Nat.le_refl _) _).setCell (Nat.le_refl _) _)
      case measure => simp [intOf]; omega
    · go_wp2
      go_ret
      exact ⟨_, rfl, Nat.le_refl _, hrow.congr (fun j hj => by unfold rowCell; rw [upto_lt _ _ (by omega)]), hbel⟩

end Go.Proofs.Ytogbaoggebghdaa

namespace Go.Proofs.Ytogbaoggebghdaa
open Go.RowKit

set_option maxHeartbeats 400000 in
theorem eqRow_same (a0 : Int) (a1 : ByteArray) (a2 : Int) (a3 : Int) (a4 : Int) (w : World) :
    Calls Try.prog 72 #[.agg #[.int .i64 a0, .string a1, .int .i64 a2, .int .i64 a3, .int .i64 a4], .agg #[.int .i64 a0, .string a1, .int .i64 a2, .int .i64 a3, .int .i64 a4]] w fun e w' => e = .returned (.bool true) ∧ Below w.heap.size w w' := by
  go_enter Try.func72, Try.ntmps72
  go_wp2
  go_ret
  exact ⟨rfl, push (push (Below.refl _ _) _) _⟩

set_option maxHeartbeats 800000 in
set_option maxRecDepth 100000 in
/-- eqRowS at two lists that are one. -/
theorem eqRowS_same (ao bo : Option Addr) (n c1 c2 : Nat) (S : Nat → MRow) (w : World) (hn : n ≤ 2097152) (hx : MRowsAt w ao n S) (hy : MRowsAt w bo n S) :
    Calls Try.prog 56 #[.slice ao n c1, .slice bo n c2] w fun e w' => e = .returned (.bool true) ∧ Below w.heap.size w w' := by
  go_enter Try.func56, Try.ntmps56
  go_wp2
  go_loopw [5] (fun i wr => ∃ k : Nat, k ≤ n ∧ i = .int .i64 k ∧ Below w.heap.size w wr) (fun i _ => n - (intOf i).toNat)
  case atStart => exact ⟨0, Nat.zero_le _, rfl, Below.refl _ _⟩
  case round =>
    obtain ⟨k, hk, rfl, hbel⟩ := hrel
    by_cases hlt : k < n
    · obtain ⟨b, off, rfl, h0, h1, h2, h3, h4⟩ := hx k (by omega)
      obtain ⟨b2, off2, rfl, g0, g1, g2, g3, g4⟩ := hy k (by omega)
      have hb := World.block_lt_of_cell? w _ h0
      have hb2 := World.block_lt_of_cell? w _ g0
      have c0 := (hbel.cell (p := ⟨b, off + k * 5, none⟩) hb).trans h0
      have d0 := (hbel.cell (p := ⟨b2, off2 + k * 5, none⟩) hb2).trans g0
      have c1 := (hbel.cell (p := ⟨b, off + k * 5 + 1, none⟩) hb).trans h1
      have d1 := (hbel.cell (p := ⟨b2, off2 + k * 5 + 1, none⟩) hb2).trans g1
      have c2 := (hbel.cell (p := ⟨b, off + k * 5 + 2, none⟩) hb).trans h2
      have d2 := (hbel.cell (p := ⟨b2, off2 + k * 5 + 2, none⟩) hb2).trans g2
      have c3 := (hbel.cell (p := ⟨b, off + k * 5 + 3, none⟩) hb).trans h3
      have d3 := (hbel.cell (p := ⟨b2, off2 + k * 5 + 3, none⟩) hb2).trans g3
      have c4 := (hbel.cell (p := ⟨b, off + k * 5 + 4, none⟩) hb).trans h4
      have d4 := (hbel.cell (p := ⟨b2, off2 + k * 5 + 4, none⟩) hb2).trans g4
      clear h0 g0 h1 g1 h2 g2 h3 g3 h4 g4
      have hbw : b < wr.heap.size := Nat.lt_of_lt_of_le hb hbel.size
      have hbw2 : b2 < wr.heap.size := Nat.lt_of_lt_of_le hb2 hbel.size
      have i1 : (0 : Int) ≤ (k : Int) := by omega
      have i2 : (k : Int) < (n : Int) := by omega
      go_wp2
      go_region_held3 (fun w' => w'.cell? ⟨b, off + k * 5, none⟩ = some (.int .i64 (S k).name) ∧ w'.cell? ⟨b, off + k * 5 + 1, none⟩ = some (.string (S k).own) ∧ w'.cell? ⟨b, off + k * 5 + 2, none⟩ = some (.int .i64 (S k).pe) ∧ w'.cell? ⟨b, off + k * 5 + 3, none⟩ = some (.int .i64 (S k).ln) ∧ w'.cell? ⟨b, off + k * 5 + 4, none⟩ = some (.int .i64 (S k).cab) ∧ w'.cell? ⟨b2, off2 + k * 5, none⟩ = some (.int .i64 (S k).name) ∧ w'.cell? ⟨b2, off2 + k * 5 + 1, none⟩ = some (.string (S k).own) ∧ w'.cell? ⟨b2, off2 + k * 5 + 2, none⟩ = some (.int .i64 (S k).pe) ∧ w'.cell? ⟨b2, off2 + k * 5 + 3, none⟩ = some (.int .i64 (S k).ln) ∧ w'.cell? ⟨b2, off2 + k * 5 + 4, none⟩ = some (.int .i64 (S k).cab))
        (first | exact ⟨c0, c1, c2, c3, c4, d0, d1, d2, d3, d4⟩ | exact ⟨(hbb.cell hbw).trans c0, (hbb.cell hbw).trans c1, (hbb.cell hbw).trans c2, (hbb.cell hbw).trans c3, (hbb.cell hbw).trans c4, (hbb.cell hbw2).trans d0, (hbb.cell hbw2).trans d1, (hbb.cell hbw2).trans d2, (hbb.cell hbw2).trans d3, (hbb.cell hbw2).trans d4⟩)
        (first | (go_at_call 72; refine (eqRow_same _ _ _ _ _ _).mono ?_; rintro e w2 ⟨rfl, hbb⟩))
      go_wp2
      go_roundw
      case rel => exact ⟨k + 1, by omega, by go_num, after hbel.drew hbb⟩
      case measure => simp [intOf]; omega
    · go_wp2
      go_ret
      exact ⟨rfl, hbel⟩

end Go.Proofs.Ytogbaoggebghdaa
