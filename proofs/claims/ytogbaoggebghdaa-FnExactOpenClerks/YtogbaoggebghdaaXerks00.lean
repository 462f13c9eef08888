/-
  OWN TEXT: MarkX, MarkTx.
-/
import Derived.Test.YtogbaoggebghdaaRows
import Derived.Deep.RegionHeld3
import Derived.Test.YtogbaoggebghdaaB00
namespace Go.Proofs.Ytogbaoggebghdaa
open Go.RowKit

set_option maxHeartbeats 1600000 in
set_option maxRecDepth 100000 in
theorem markText_any (k : Nat) (w : World) (hk : k ≤ 1000000000000000) :
    Calls Try.prog 57 #[.int .i64 k] w fun e w' => (∃ s, e = .returned (.string s)) ∧ Below w.heap.size w w' := by
  by_cases h0 : k = 0
  · subst h0
    go_enter Try.func57, Try.ntmps57
    go_wp2
    go_ret
    exact ⟨⟨_, rfl⟩, Below.refl _ _⟩
  · have d0 : decide ((k : Int) ≤ 0) = false := decide_eq_false (by omega)
    go_enter Try.func57, Try.ntmps57
    go_wp2
    go_loopw [0, 3] (fun s0 s3 wr => ∃ (q : Nat) (s : ByteArray), s0 = .int .i64 q ∧ s3 = .string s ∧ s.size + q ≤ 1000000000000000 ∧ Below w.heap.size w wr) (fun s0 _ _ => (intOf s0).toNat)
    case atStart => exact ⟨k, ⟨#[]⟩, rfl, rfl, by show 0 + k ≤ _; omega, Below.refl _ _⟩
    case round =>
      obtain ⟨q, s, rfl, rfl, hs, hbel⟩ := hrel
      by_cases hq : q = 0
      · subst hq
        have hsum := run_string_add_sum (P := Try.prog) (w := wr) ⟨#[109]⟩ s (by show 1 + s.size ≤ _; omega)
        go_wp2
        go_ret
        exact ⟨⟨_, rfl⟩, hbel⟩
      · have dq : decide ((0 : Int) < (q : Int)) = true := decide_eq_true (by omega)
        have hconv : (convert 22 9 (.slice (some ⟨wr.heap.size, 0, none⟩) 1 1)).run Try.prog (wr.alloc (.cells #[.int .u8 (48 + (q : Int) % 10)] 5)) = .ok (.string (ByteArray.empty.push (UInt8.ofNat (48 + (q : Int) % 10).toNat))) (wr.alloc (.cells #[.int .u8 (48 + (q : Int) % 10)] 5)) := by
          rw [run_convert_bytes_string _ 22 9 5 _ 1 1 Try.underlying22 Try.underlying5 Try.underlying9]
          exact run_bytesToString _ _ 1 1 [48 + (q : Int) % 10] (run_loadCells_list _ _ [.int .u8 (48 + (q : Int) % 10)] (fun j v hj => by
            cases j with
            | zero => simp at hj; subst hj; simp [Addr.add, World.cell?_alloc_mark]
            | succ j => simp at hj))
        have hsum := run_string_add_sum (P := Try.prog) (w := wr.alloc (.cells #[.int .u8 (48 + (q : Int) % 10)] 5)) (ByteArray.empty.push (UInt8.ofNat (48 + (q : Int) % 10).toNat)) s (by show 1 + s.size ≤ _; omega)
        go_wp2
        refine ⟨⟨q / 10, _, by simp, rfl, ?_, push hbel _⟩, ?_⟩
        · have e : (ByteArray.empty.push (48 + UInt8.ofNat (q % 10)) ++ s).size = 1 + s.size := by
            rw [ByteArray.size_append]; rfl
          rw [e]; omega
        · simp only [intOf]; omega

theorem markText_int (k : Int) (w : World) (h0 : 0 ≤ k) (hk : k ≤ 1000000000000000) :
    Calls Try.prog 57 #[.int .i64 k] w fun e w' => (∃ s, e = .returned (.string s)) ∧ Below w.heap.size w w' := by
  obtain ⟨q, rfl⟩ := Int.eq_ofNat_of_zero_le h0
  exact markText_any q w (by omega)

end Go.Proofs.Ytogbaoggebghdaa

namespace Go.Proofs.Ytogbaoggebghdaa
open Go.RowKit

/-- The text that is left to be made of q ahead of s. -/
def markFin (q : Nat) (s : ByteArray) : ByteArray :=
  if _h : q = 0 then ⟨#[109]⟩ ++ s else markFin (q / 10) (ByteArray.empty.push (48 + UInt8.ofNat (q % 10)) ++ s)
termination_by q
decreasing_by omega
theorem markFin_0 (s : ByteArray) : markFin 0 s = ⟨#[109]⟩ ++ s := by rw [markFin]; simp
theorem markFin_s {q : Nat} (h : q ≠ 0) (s : ByteArray) : markFin q s = markFin (q / 10) (ByteArray.empty.push (48 + UInt8.ofNat (q % 10)) ++ s) := by rw [markFin]; simp [h]
def markT (k : Nat) : ByteArray := if k = 0 then ⟨#[109, 48]⟩ else markFin k ⟨#[]⟩

set_option maxHeartbeats 1600000 in
set_option maxRecDepth 100000 in
theorem markText_is (k : Nat) (w : World) (hk : k ≤ 1000000000000000) :
    Calls Try.prog 57 #[.int .i64 k] w fun e w' => e = .returned (.string (markT k)) ∧ Below w.heap.size w w' := by
  by_cases h0 : k = 0
  · subst h0
    go_enter Try.func57, Try.ntmps57
    go_wp2
    go_ret
    exact ⟨rfl, Below.refl _ _⟩
  · have d0 : decide ((k : Int) ≤ 0) = false := decide_eq_false (by omega)
    have HK : Hid (markT k = markFin k ⟨#[]⟩) := by show markT k = _; unfold markT; rw [if_neg h0]
    go_enter Try.func57, Try.ntmps57
    go_wp2
    go_loopw [0, 3] (fun s0 s3 wr => ∃ (q : Nat) (s : ByteArray), s0 = .int .i64 q ∧ s3 = .string s ∧ s.size + q ≤ 1000000000000000 ∧ Hid (markFin q s = markT k) ∧ Below w.heap.size w wr) (fun s0 _ _ => (intOf s0).toNat)
    case atStart => exact ⟨k, ⟨#[]⟩, rfl, rfl, by show 0 + k ≤ _; omega, HK.out.symm, Below.refl _ _⟩
    case round =>
      obtain ⟨q, s, rfl, rfl, hs, hfin, hbel⟩ := hrel
      by_cases hq : q = 0
      · subst hq
        have hsum := run_string_add_sum (P := Try.prog) (w := wr) ⟨#[109]⟩ s (by show 1 + s.size ≤ _; omega)
        go_wp2
        go_ret
        refine ⟨?_, hbel⟩
        rw [← hfin.out, markFin_0]
        rfl
      · have dq : decide ((0 : Int) < (q : Int)) = true := decide_eq_true (by omega)
        have hconv : (convert 22 9 (.slice (some ⟨wr.heap.size, 0, none⟩) 1 1)).run Try.prog (wr.alloc (.cells #[.int .u8 (48 + (q : Int) % 10)] 5)) = .ok (.string (ByteArray.empty.push (UInt8.ofNat (48 + (q : Int) % 10).toNat))) (wr.alloc (.cells #[.int .u8 (48 + (q : Int) % 10)] 5)) := by
          rw [run_convert_bytes_string _ 22 9 5 _ 1 1 Try.underlying22 Try.underlying5 Try.underlying9]
          exact run_bytesToString _ _ 1 1 [48 + (q : Int) % 10] (run_loadCells_list _ _ [.int .u8 (48 + (q : Int) % 10)] (fun j v hj => by
            cases j with
            | zero => simp at hj; subst hj; simp [Addr.add, World.cell?_alloc_mark]
            | succ j => simp at hj))
        have hsum := run_string_add_sum (P := Try.prog) (w := wr.alloc (.cells #[.int .u8 (48 + (q : Int) % 10)] 5)) (ByteArray.empty.push (UInt8.ofNat (48 + (q : Int) % 10).toNat)) s (by show 1 + s.size ≤ _; omega)
        go_wp2
        refine ⟨⟨q / 10, _, by simp, rfl, ?_, ?_, push hbel _⟩, ?_⟩
        · have e : (ByteArray.empty.push (48 + UInt8.ofNat (q % 10)) ++ s).size = 1 + s.size := by
            rw [ByteArray.size_append]; rfl
          rw [e]; omega
        · show markFin (q / 10) _ = markT k
          rw [← hfin.out, markFin_s hq]
        · simp only [intOf]; omega

end Go.Proofs.Ytogbaoggebghdaa
