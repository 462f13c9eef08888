/-
  OWN TEXT: contracts of the program's seatOf: the function it hands on, slices.IndexFunc, seatOf itself.
-/
import Derived.Test.YtclcjnbjpelcjajImplV
import Derived.Test.YtclcjnbjpelcjajPlainSe
namespace Go.Proofs.Ytclcjnbjpelcjaj
open Go.RowKit

set_option maxHeartbeats 400000 in
theorem seatOf1_any (a0 a1 x : Int) (pa : Nat) (w : World) (hp : w.cell? ⟨pa, 0, none⟩ = some (.int .i64 x)) :
    Calls Try.prog 26 #[.agg #[.int .i64 a0, .int .i64 a1], .pointer (some ⟨pa, 0, none⟩)] w fun e w' => e = .returned (.bool (a0 == x)) ∧ Below w.heap.size w w' := by
  have hlt := World.block_lt_of_cell? w _ hp
  have hne : ¬ pa = w.heap.size := by have : pa < w.heap.size := hlt; omega
  go_enter Try.func26, Try.ntmps26
  go_wp2
  go_ret
  exact ⟨rfl, push (Below.refl _ _) _⟩

set_option maxHeartbeats 800000 in
set_option maxRecDepth 100000 in
theorem indexSeat_any (ao : Option Addr) (n c : Nat) (S : Nat → Seat) (x : Int) (pa : Nat) (w : World) (hn : n ≤ 1048576) (hz : SeatsAt w ao n S) (hp : w.cell? ⟨pa, 0, none⟩ = some (.int .i64 x)) :
    Calls Try.prog 25 #[.slice ao n c, .func (.func 26) #[] #[.pointer (some ⟨pa, 0, none⟩)]] w fun e w' => e = .returned (.int .i64 (ixAns (whoT S) x n)) ∧ Below w.heap.size w w' := by
  have hlt := World.block_lt_of_cell? w _ hp
  go_enter Try.func25, Try.ntmps25
  go_wp2
  go_loopw [5, 8] (fun _ i wr => ∃ k : Nat, k ≤ n ∧ i = .int .i64 k ∧ (∀ j, j < k → whoT S j ≠ x) ∧ Below w.heap.size w wr) (fun _ i _ => n - (intOf i).toNat)
  case atStart => exact ⟨0, Nat.zero_le _, rfl, fun j hj => by omega, Below.refl _ _⟩
  case round =>
    obtain ⟨k, hk, rfl, hall, hbel⟩ := hrel
    have HA : Hid (∀ j, j < k → whoT S j ≠ x) := hall
    clear hall
    by_cases hlt2 : k < n
    · obtain ⟨b, off, rfl, h0, h1⟩ := hz k hlt2
      have hb := World.block_lt_of_cell? w _ h0
      have c0 := (hbel.cell (p := ⟨b, off + k * 2, none⟩) hb).trans h0
      have c1 := (hbel.cell (p := ⟨b, off + k * 2 + 1, none⟩) hb).trans h1
      have HP : Hid (wr.cell? ⟨pa, 0, none⟩ = some (.int .i64 x)) := (hbel.cell (p := ⟨pa, 0, none⟩) hlt).trans hp
      clear h0 h1 hp
      by_cases he : whoT S k = x
      · have e1 : ((S k).who == x) = true := by unfold whoT at he; simpa using he
        have HF : Hid (ixAns (whoT S) x n = k) := by
          have : ixOf (whoT S) x n = k := ixOf_is hlt2 he HA.out
          unfold ixAns Hid
          rw [this, if_pos hlt2]
        clear he
        go_wp2_with (first | (go_at_call 26; refine (seatOf1_any _ _ x pa _ HP.out).mono ?_; rintro e w2 ⟨rfl, hb2⟩))
        go_ret
        exact ⟨by rw [HF.out]; rfl, after hbel hb2⟩
      · have e1 : ((S k).who == x) = false := by unfold whoT at he; simpa using he
        have HE : Hid (whoT S k ≠ x) := he
        clear he
        go_wp2_with (first | (go_at_call 26; refine (seatOf1_any _ _ x pa _ HP.out).mono ?_; rintro e w2 ⟨rfl, hb2⟩))
        go_roundw
        case rel => exact ⟨k + 1, by omega, by go_num, fun j hj => by
          by_cases e : j = k
          · subst e; exact HE.out
          · exact HA.out j (by omega), after hbel hb2⟩
        case measure => simp [intOf]; omega
    · obtain rfl : k = n := by omega
      have HF : Hid (ixAns (whoT S) x k = -1) := ixAns_no (not_has HA.out)
      go_wp2
      go_ret
      exact ⟨by rw [HF.out]; rfl, hbel⟩

set_option maxHeartbeats 800000 in
/-- seatOf: where the stay of the by stands, -1 without one. -/
theorem seatOf_any (ao : Option Addr) (n c : Nat) (S : Nat → Seat) (x : Int) (w : World) (hn : n ≤ 1048576) (hz : SeatsAt w ao n S) :
    Calls Try.prog 24 #[.slice ao n c, .int .i64 x] w fun e w' => e = .returned (.int .i64 (ixAns (whoT S) x n)) ∧ Below w.heap.size w w' := by
  have hb0 : Below w.heap.size w (w.alloc (.cells #[.int .i64 x] 3)) := push (Below.refl _ _) _
  have HZ : Hid (SeatsAt (w.alloc (.cells #[.int .i64 x] 3)) ao n S) := hz.below hb0
  have HP : Hid ((w.alloc (.cells #[.int .i64 x] 3)).cell? ⟨w.heap.size, 0, none⟩ = some (.int .i64 x)) := blk_cell (heap_alloc_new w _) 0 _ rfl
  have hmf : ∀ (fn : Fn) (first cap : Array Value) (w : World), (Instr.makeFunc fn first cap).run Try.prog w = .ok (.func fn first cap) w := fun _ _ _ _ => rfl
  go_enter Try.func24, Try.ntmps24
  go_wp2_with (first | (go_at_call 25; refine (indexSeat_any ao n c S x _ _ hn HZ.out HP.out).mono ?_; rintro e w2 ⟨rfl, hb2⟩))
  go_ret
  exact ⟨rfl, after hb0 hb2⟩

end Go.Proofs.Ytclcjnbjpelcjaj
