/-
  OWN TEXT: MarkIr, MarkX, MarkS.
-/
import Derived.Test.YtcioofnmhfehaaaGreatRows
import Derived.Deep.RegionHeld3
import Derived.Test.YtcioofnmhfehaaaGreatB23
import Derived.Test.YtcioofnmhfehaaaGreatB01
import Derived.Test.YtcioofnmhfehaaaGreatB04
namespace Go.Proofs.YtcioofnmhfehaaaGreat
open Go.RowKit

def IntRow (w : World) (base b n : Nat) : Prop := OwnAny w base 3 1 b n (fun xs => ∃ F, xs = intList F n)
theorem markInt_row {w : World} {base b n : Nat} {k : Int} (hn : n ≤ 1048576) (h0 : 0 ≤ k) (h1 : k ≤ 1000000000000000) (h : IntRow w base b n) :
    Calls Tryz.prog 11 #[.slice (some ⟨b, 0, none⟩) n n, .int .i64 k] w fun e w' => e = .returned (.int .i64 (k + n)) ∧ IntRow w' base b n ∧ Kept w w' (fun x => x = b) := by
  obtain ⟨_, ⟨S, rfl⟩, ho⟩ := h
  exact (markIntS_own _ n n base S k w (by omega) h0 h1 ho).mono fun _ _ ⟨a, b, c⟩ => ⟨a, ⟨_, ⟨_, rfl⟩, b⟩, c.mono (fun x hx => by obtain ⟨g, e, e2⟩ := hx; simp only [Option.some.injEq, Addr.mk.injEq] at e; omega)⟩

end Go.Proofs.YtcioofnmhfehaaaGreat

namespace Go.Proofs.YtcioofnmhfehaaaGreat
open Go.RowKit

set_option maxHeartbeats 1600000 in
set_option maxRecDepth 100000 in
theorem markText_any (k : Nat) (w : World) (hk : k ≤ 1000000000000000) :
    Calls Tryz.prog 50 #[.int .i64 k] w fun e w' => (∃ s, e = .returned (.string s)) ∧ Below w.heap.size w w' := by
  by_cases h0 : k = 0
  · subst h0
    go_enter Tryz.func50, Tryz.ntmps50
    go_wp2
    go_ret
    exact ⟨⟨_, rfl⟩, Below.refl _ _⟩
  · have d0 : decide ((k : Int) ≤ 0) = false := decide_eq_false (by omega)
    go_enter Tryz.func50, Tryz.ntmps50
    go_wp2
    go_loopw [0, 3] (fun s0 s3 wr => ∃ (q : Nat) (s : ByteArray), s0 = .int .i64 q ∧ s3 = .string s ∧ s.size + q ≤ 1000000000000000 ∧ Below w.heap.size w wr) (fun s0 _ _ => (intOf s0).toNat)
    case atStart => exact ⟨k, ⟨#[]⟩, rfl, rfl, by show 0 + k ≤ _; omega, Below.refl _ _⟩
    case round =>
      obtain ⟨q, s, rfl, rfl, hs, hbel⟩ := hrel
      by_cases hq : q = 0
      · subst hq
        have hsum := run_string_add_sum (P := Tryz.prog) (w := wr) ⟨#[109]⟩ s (by show 1 + s.size ≤ _; omega)
        go_wp2
        go_ret
        exact ⟨⟨_, rfl⟩, hbel⟩
      · have dq : decide ((0 : Int) < (q : Int)) = true := decide_eq_true (by omega)
        have hconv : (convert 152 9 (.slice (some ⟨wr.heap.size, 0, none⟩) 1 1)).run Tryz.prog (wr.alloc (.cells #[.int .u8 (48 + (q : Int) % 10)] 5)) = .ok (.string (ByteArray.empty.push (UInt8.ofNat (48 + (q : Int) % 10).toNat))) (wr.alloc (.cells #[.int .u8 (48 + (q : Int) % 10)] 5)) := by
          rw [run_convert_bytes_string _ 152 9 5 _ 1 1 Tryz.underlying152 Tryz.underlying5 Tryz.underlying9]
          exact run_bytesToString _ _ 1 1 [48 + (q : Int) % 10] (run_loadCells_list _ _ [.int .u8 (48 + (q : Int) % 10)] (fun j v hj => by
            cases j with
            | zero => simp at hj; subst hj; simp [Addr.add, World.cell?_alloc_mark]
            | succ j => simp at hj))
        have hsum := run_string_add_sum (P := Tryz.prog) (w := wr.alloc (.cells #[.int .u8 (48 + (q : Int) % 10)] 5)) (ByteArray.empty.push (UInt8.ofNat (48 + (q : Int) % 10).toNat)) s (by show 1 + s.size ≤ _; omega)
        go_wp2
        refine ⟨⟨q / 10, _, by simp, rfl, ?_, push hbel _⟩, ?_⟩
        · have e : (ByteArray.empty.push (48 + UInt8.ofNat (q % 10)) ++ s).size = 1 + s.size := by
            rw [ByteArray.size_append]; rfl
          rw [e]; omega
        · simp only [intOf]; omega

theorem markText_int (k : Int) (w : World) (h0 : 0 ≤ k) (hk : k ≤ 1000000000000000) :
    Calls Tryz.prog 50 #[.int .i64 k] w fun e w' => (∃ s, e = .returned (.string s)) ∧ Below w.heap.size w w' := by
  obtain ⟨q, rfl⟩ := Int.eq_ofNat_of_zero_le h0
  exact markText_any q w (by omega)

end Go.Proofs.YtcioofnmhfehaaaGreat

namespace Go.Proofs.YtcioofnmhfehaaaGreat
open Go.RowKit

set_option maxHeartbeats 800000 in
theorem markLaneS_own (g n base : Nat) (f : Nat → Value) (k0 : Int) (w : World) (hn : n ≤ 1048576) (h0 : 0 ≤ k0) (h1 : k0 ≤ 1000000000000000) (ho : w.ownsRow base 93 2 (.slice (some ⟨g, 0, none⟩) n n) n ((List.range (n * 2)).map f)) :
    Calls Tryz.prog 51 #[.slice (some ⟨g, 0, none⟩) n n, .int .i64 k0] w fun e w' => e = .returned (.int .i64 (k0 + 2 * n)) ∧ (∃ f, w'.ownsRow base 93 2 (.slice (some ⟨g, 0, none⟩) n n) n ((List.range (n * 2)).map f)) ∧ Kept w w' (fun b => b = g) := by
  go_enter Tryz.func51, Tryz.ntmps51
  go_wp2
  go_loopw [1, 5] (fun q i wr => ∃ (t : Nat) (f : Nat → Value), t ≤ n ∧ i = .int .i64 t ∧ q = .int .i64 (k0 + 2 * t) ∧ wr.ownsRow base 93 2 (.slice (some ⟨g, 0, none⟩) n n) n ((List.range (n * 2)).map f) ∧ Kept w wr (fun b => b = g)) (fun _ i _ => n - (intOf i).toNat)
  case atStart => exact ⟨0, f, Nat.zero_le _, rfl, by simp, ho, Kept.refl _ _⟩
  case round =>
    obtain ⟨t, f, ht, rfl, rfl, hown, hk⟩ := hrel
    by_cases hlt : t < n
    · have hc0 := own_cell hown (t * 2) (by omega) rfl
      have hc1 := own_cell hown (t * 2 + 1) (by omega) rfl
      have hf0 := hown.frozenAt (t * 2)
      have hf1 := hown.frozenAt (t * 2 + 1)
      go_wp2
      go_roundw
      case rel => exact ⟨t + 1, _, by omega, by go_num, by go_num, own_store (own_store hown (t * 2) _) (t * 2 + 1) _, (hk.set (a := ⟨g, t * 2, none⟩) rfl _).set (a := ⟨g, t * 2 + 1, none⟩) rfl _⟩
      case measure => simp [intOf]; omega
    · obtain rfl : t = n := by omega
      go_wp2
      go_ret
      exact ⟨rfl, ⟨_, hown⟩, hk⟩

set_option maxHeartbeats 800000 in
theorem markCabinS_own (g n base : Nat) (f : Nat → Value) (k0 : Int) (w : World) (hn : n ≤ 1048576) (h0 : 0 ≤ k0) (h1 : k0 ≤ 1000000000000000) (ho : w.ownsRow base 95 2 (.slice (some ⟨g, 0, none⟩) n n) n ((List.range (n * 2)).map f)) :
    Calls Tryz.prog 52 #[.slice (some ⟨g, 0, none⟩) n n, .int .i64 k0] w fun e w' => e = .returned (.int .i64 (k0 + 2 * n)) ∧ (∃ f, w'.ownsRow base 95 2 (.slice (some ⟨g, 0, none⟩) n n) n ((List.range (n * 2)).map f)) ∧ Kept w w' (fun b => b = g) := by
  go_enter Tryz.func52, Tryz.ntmps52
  go_wp2
  go_loopw [1, 5] (fun q i wr => ∃ (t : Nat) (f : Nat → Value), t ≤ n ∧ i = .int .i64 t ∧ q = .int .i64 (k0 + 2 * t) ∧ wr.ownsRow base 95 2 (.slice (some ⟨g, 0, none⟩) n n) n ((List.range (n * 2)).map f) ∧ Kept w wr (fun b => b = g)) (fun _ i _ => n - (intOf i).toNat)
  case atStart => exact ⟨0, f, Nat.zero_le _, rfl, by simp, ho, Kept.refl _ _⟩
  case round =>
    obtain ⟨t, f, ht, rfl, rfl, hown, hk⟩ := hrel
    by_cases hlt : t < n
    · have hc0 := own_cell hown (t * 2) (by omega) rfl
      have hc1 := own_cell hown (t * 2 + 1) (by omega) rfl
      have hf0 := hown.frozenAt (t * 2)
      have hf1 := hown.frozenAt (t * 2 + 1)
      go_wp2
      go_roundw
      case rel => exact ⟨t + 1, _, by omega, by go_num, by go_num, own_store (own_store hown (t * 2) _) (t * 2 + 1) _, (hk.set (a := ⟨g, t * 2, none⟩) rfl _).set (a := ⟨g, t * 2 + 1, none⟩) rfl _⟩
      case measure => simp [intOf]; omega
    · obtain rfl : t = n := by omega
      go_wp2
      go_ret
      exact ⟨rfl, ⟨_, hown⟩, hk⟩

end Go.Proofs.YtcioofnmhfehaaaGreat
