/-
  OWN TEXT: LMRowE, MarkTx.
-/
import Derived.Test.YtlnadbnoemlpeaaGreatRows
import Derived.Deep.RegionHeld3
import Derived.Test.YtlnadbnoemlpeaaGreatXstOf01
import Derived.Test.YtlnadbnoemlpeaaGreatXstOf07
namespace Go.Proofs.YtlnadbnoemlpeaaGreat
open Go.RowKit

set_option maxHeartbeats 400000 in
theorem eqRow_same (a0 : Int) (a1 : ByteArray) (a2 : Int) (a3 : Int) (a4 : Int) (w : World) :
    Calls Tryz.prog 48 #[.agg #[.int .i64 a0, .string a1, .int .i64 a2, .int .i64 a3, .int .i64 a4], .agg #[.int .i64 a0, .string a1, .int .i64 a2, .int .i64 a3, .int .i64 a4]] w fun e w' => e = .returned (.bool true) ∧ Below w.heap.size w w' := by
  go_enter Tryz.func48, Tryz.ntmps48
  go_wp2
  go_ret
  exact ⟨rfl, push (push (Below.refl _ _) _) _⟩

set_option maxHeartbeats 800000 in
set_option maxRecDepth 100000 in
/-- eqRowS at two lists that are one. -/
theorem eqRowS_same (ao bo : Option Addr) (n c1 c2 : Nat) (S : Nat → MRow) (w : World) (hn : n ≤ 2097152) (hx : MRowsAt w ao n S) (hy : MRowsAt w bo n S) :
    Calls Tryz.prog 13 #[.slice ao n c1, .slice bo n c2] w fun e w' => e = .returned (.bool true) ∧ Below w.heap.size w w' := by
  go_enter Tryz.func13, Tryz.ntmps13
  go_wp2
  go_loopw [5] (fun i wr => ∃ k : Nat, k ≤ n ∧ i = .int .i64 k ∧ Below w.heap.size w wr) (fun i _ => n - (intOf i).toNat)
  case atStart => exact ⟨0, Nat.zero_le _, rfl, Below.refl _ _⟩
  case round =>
    obtain ⟨k, hk, rfl, hbel⟩ := hrel
    by_cases hlt : k < n
    · obtain ⟨b, off, rfl, h0, h1, h2, h3, h4⟩ := hx k (by omega)
      obtain ⟨b2, off2, rfl, g0, g1, g2, g3, g4⟩ := hy k (by omega)
      have hb := World.block_lt_of_cell? w _ h0
      have hb2 := World.block_lt_of_cell? w _ g0
      have c0 := (hbel.cell (p := ⟨b, off + k * 5, none⟩) hb).trans h0
      have d0 := (hbel.cell (p := ⟨b2, off2 + k * 5, none⟩) hb2).trans g0
      have c1 := (hbel.cell (p := ⟨b, off + k * 5 + 1, none⟩) hb).trans h1
      have d1 := (hbel.cell (p := ⟨b2, off2 + k * 5 + 1, none⟩) hb2).trans g1
      have c2 := (hbel.cell (p := ⟨b, off + k * 5 + 2, none⟩) hb).trans h2
      have d2 := (hbel.cell (p := ⟨b2, off2 + k * 5 + 2, none⟩) hb2).trans g2
      have c3 := (hbel.cell (p := ⟨b, off + k * 5 + 3, none⟩) hb).trans h3
      have d3 := (hbel.cell (p := ⟨b2, off2 + k * 5 + 3, none⟩) hb2).trans g3
      have c4 := (hbel.cell (p := ⟨b, off + k * 5 + 4, none⟩) hb).trans h4
      have d4 := (hbel.cell (p := ⟨b2, off2 + k * 5 + 4, none⟩) hb2).trans g4
      clear h0 g0 h1 g1 h2 g2 h3 g3 h4 g4
      have hbw : b < wr.heap.size := Nat.lt_of_lt_of_le hb hbel.size
      have hbw2 : b2 < wr.heap.size := Nat.lt_of_lt_of_le hb2 hbel.size
      have i1 : (0 : Int) ≤ (k : Int) := by omega
      have i2 : (k : Int) < (n : Int) := by omega
      go_wp2
      go_region_held3 (fun w' => w'.cell? ⟨b, off + k * 5, none⟩ = some (.int .i64 (S k).name) ∧ w'.cell? ⟨b, off + k * 5 + 1, none⟩ = some (.string (S k).own) ∧ w'.cell? ⟨b, off + k * 5 + 2, none⟩ = some (.int .i64 (S k).pe) ∧ w'.cell? ⟨b, off + k * 5 + 3, none⟩ = some (.int .i64 (S k).ln) ∧ w'.cell? ⟨b, off + k * 5 + 4, none⟩ = some (.int .i64 (S k).cab) ∧ w'.cell? ⟨b2, off2 + k * 5, none⟩ = some (.int .i64 (S k).name) ∧ w'.cell? ⟨b2, off2 + k * 5 + 1, none⟩ = some (.string (S k).own) ∧ w'.cell? ⟨b2, off2 + k * 5 + 2, none⟩ = some (.int .i64 (S k).pe) ∧ w'.cell? ⟨b2, off2 + k * 5 + 3, none⟩ = some (.int .i64 (S k).ln) ∧ w'.cell? ⟨b2, off2 + k * 5 + 4, none⟩ = some (.int .i64 (S k).cab))
        (first | exact ⟨c0, c1, c2, c3, c4, d0, d1, d2, d3, d4⟩ | exact ⟨(hbb.cell hbw).trans c0, (hbb.cell hbw).trans c1, (hbb.cell hbw).trans c2, (hbb.cell hbw).trans c3, (hbb.cell hbw).trans c4, (hbb.cell hbw2).trans d0, (hbb.cell hbw2).trans d1, (hbb.cell hbw2).trans d2, (hbb.cell hbw2).trans d3, (hbb.cell hbw2).trans d4⟩)
        (first | (go_at_call 48; refine (eqRow_same _ _ _ _ _ _).mono ?_; rintro e w2 ⟨rfl, hbb⟩))
      go_wp2
      go_roundw
      case rel => exact ⟨k + 1, by omega, by go_num, after hbel.drew hbb⟩
      case measure => simp [intOf]; omega
    · go_wp2
      go_ret
      exact ⟨rfl, hbel⟩

end Go.Proofs.YtlnadbnoemlpeaaGreat

namespace Go.Proofs.YtlnadbnoemlpeaaGreat
open Go.RowKit

/-- The text that is left to be made of q ahead of s. -/
def markFin (q : Nat) (s : ByteArray) : ByteArray :=
  if _h : q = 0 then ⟨#[109]⟩ ++ s else markFin (q / 10) (ByteArray.empty.push (48 + UInt8.ofNat (q % 10)) ++ s)
termination_by q
decreasing_by omega
theorem markFin_0 (s : ByteArray) : markFin 0 s = ⟨#[109]⟩ ++ s := by rw [markFin]; simp
theorem markFin_s {q : Nat} (h : q ≠ 0) (s : ByteArray) : markFin q s = markFin (q / 10) (ByteArray.empty.push (48 + UInt8.ofNat (q % 10)) ++ s) := by rw [markFin]; simp [h]
def markT (k : Nat) : ByteArray := if k = 0 then ⟨#[109, 48]⟩ else markFin k ⟨#[]⟩

set_option maxHeartbeats 1600000 in
set_option maxRecDepth 100000 in
theorem markText_is (k : Nat) (w : World) (hk : k ≤ 1000000000000000) :
    Calls Tryz.prog 52 #[.int .i64 k] w fun e w' => e = .returned (.string (markT k)) ∧ Below w.heap.size w w' := by
  by_cases h0 : k = 0
  · subst h0
    go_enter Tryz.func52, Tryz.ntmps52
    go_wp2
    go_ret
    exact ⟨rfl, Below.refl _ _⟩
  · have d0 : decide ((k : Int) ≤ 0) = false := decide_eq_false (by omega)
    have HK : Hid (markT k = markFin k ⟨#[]⟩) := by show markT k = _; unfold markT; rw [if_neg h0]
    go_enter Tryz.func52, Tryz.ntmps52
    go_wp2
    go_loopw [0, 3] (fun s0 s3 wr => ∃ (q : Nat) (s : ByteArray), s0 = .int .i64 q ∧ s3 = .string s ∧ s.size + q ≤ 1000000000000000 ∧ Hid (markFin q s = markT k) ∧ Below w.heap.size w wr) (fun s0 _ _ => (intOf s0).toNat)
    case atStart => exact ⟨k, ⟨#[]⟩, rfl, rfl, by show 0 + k ≤ _; omega, HK.out.symm, Below.refl _ _⟩
    case round =>
      obtain ⟨q, s, rfl, rfl, hs, hfin, hbel⟩ := hrel
      by_cases hq : q = 0
      · subst hq
        have hsum := run_string_add_sum (P := Tryz.prog) (w := wr) ⟨#[109]⟩ s (by show 1 + s.size ≤ _; omega)
        go_wp2
        go_ret
        refine ⟨?_, hbel⟩
        rw [← hfin.out, markFin_0]
        rfl
      · have dq : decide ((0 : Int) < (q : Int)) = true := decide_eq_true (by omega)
        have hconv : (convert 154 9 (.slice (some ⟨wr.heap.size, 0, none⟩) 1 1)).run Tryz.prog (wr.alloc (.cells #[.int .u8 (48 + (q : Int) % 10)] 5)) = .ok (.string (ByteArray.empty.push (UInt8.ofNat (48 + (q : Int) % 10).toNat))) (wr.alloc (.cells #[.int .u8 (48 + (q : Int) % 10)] 5)) := by
          rw [run_convert_bytes_string _ 154 9 5 _ 1 1 Tryz.underlying154 Tryz.underlying5 Tryz.underlying9]
          exact run_bytesToString _ _ 1 1 [48 + (q : Int) % 10] (run_loadCells_list _ _ [.int .u8 (48 + (q : Int) % 10)] (fun j v hj => by
            cases j with
            | zero => simp at hj; subst hj; simp [Addr.add, World.cell?_alloc_mark]
            | succ j => simp at hj))
        have hsum := run_string_add_sum (P := Tryz.prog) (w := wr.alloc (.cells #[.int .u8 (48 + (q : Int) % 10)] 5)) (ByteArray.empty.push (UInt8.ofNat (48 + (q : Int) % 10).toNat)) s (by show 1 + s.size ≤ _; omega)
        go_wp2
        refine ⟨⟨q / 10, _, by simp, rfl, ?_, ?_, push hbel _⟩, ?_⟩
        · have e : (ByteArray.empty.push (48 + UInt8.ofNat (q % 10)) ++ s).size = 1 + s.size := by
            rw [ByteArray.size_append]; rfl
          rw [e]; omega
        · show markFin (q / 10) _ = markT k
          rw [← hfin.out, markFin_s hq]
        · simp only [intOf]; omega

end Go.Proofs.YtlnadbnoemlpeaaGreat
