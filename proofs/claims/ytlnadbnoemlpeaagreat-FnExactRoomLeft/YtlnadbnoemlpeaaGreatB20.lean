/-
  OWN TEXT: ImplW, StayOf, RoomOf.
-/
import Derived.Test.YtlnadbnoemlpeaaGreatB19
import Derived.Test.YtlnadbnoemlpeaaGreatB18
import Derived.Test.YtlnadbnoemlpeaaGreatB12
namespace Go.Proofs.YtlnadbnoemlpeaaGreat
open Go.RowKit

end Go.Proofs.YtlnadbnoemlpeaaGreat

namespace Go.Proofs.YtlnadbnoemlpeaaGreat
open Go.RowKit

set_option maxHeartbeats 400000 in
theorem stayOf1_any (a0 a1 a2 a3 x : Int) (pa : Nat) (w : World) (hp : w.cell? ⟨pa, 0, none⟩ = some (.int .i64 x)) :
    Calls Tryz.prog 140 #[.agg #[.int .i64 a0, .int .i64 a1, .int .i64 a2, .int .i64 a3], .pointer (some ⟨pa, 0, none⟩)] w fun e w' => e = .returned (.bool (a0 == x)) ∧ Below w.heap.size w w' := by
  have hlt := World.block_lt_of_cell? w _ hp
  have hne : ¬ pa = w.heap.size := by have : pa < w.heap.size := hlt; omega
  go_enter Tryz.func140, Tryz.ntmps140
  go_wp2
  go_ret
  exact ⟨rfl, push (Below.refl _ _) _⟩

set_option maxHeartbeats 800000 in
set_option maxRecDepth 100000 in
theorem indexStay_any (ao : Option Addr) (n c : Nat) (S : Nat → Stay) (x : Int) (pa : Nat) (w : World) (hn : n ≤ 1048576) (hz : StaysAt w ao n S) (hp : w.cell? ⟨pa, 0, none⟩ = some (.int .i64 x)) :
    Calls Tryz.prog 139 #[.slice ao n c, .func (.func 140) #[] #[.pointer (some ⟨pa, 0, none⟩)]] w fun e w' => e = .returned (.int .i64 (ixAns (whoS S) x n)) ∧ Below w.heap.size w w' := by
  have hlt := World.block_lt_of_cell? w _ hp
  go_enter Tryz.func139, Tryz.ntmps139
  go_wp2
  go_loopw [5, 8] (fun _ i wr => ∃ k : Nat, k ≤ n ∧ i = .int .i64 k ∧ (∀ j, j < k → whoS S j ≠ x) ∧ Below w.heap.size w wr) (fun _ i _ => n - (intOf i).toNat)
  case atStart => exact ⟨0, Nat.zero_le _, rfl, fun j hj => by omega, Below.refl _ _⟩
  case round =>
    obtain ⟨k, hk, rfl, hall, hbel⟩ := hrel
    have HA : Hid (∀ j, j < k → whoS S j ≠ x) := hall
    clear hall
    by_cases hlt2 : k < n
    · obtain ⟨b, off, rfl, h0, h1, h2, h3⟩ := hz k hlt2
      have hb := World.block_lt_of_cell? w _ h0
      have c0 := (hbel.cell (p := ⟨b, off + k * 4, none⟩) hb).trans h0
      have c1 := (hbel.cell (p := ⟨b, off + k * 4 + 1, none⟩) hb).trans h1
      have c2 := (hbel.cell (p := ⟨b, off + k * 4 + 2, none⟩) hb).trans h2
      have c3 := (hbel.cell (p := ⟨b, off + k * 4 + 3, none⟩) hb).trans h3
      have HP : Hid (wr.cell? ⟨pa, 0, none⟩ = some (.int .i64 x)) := (hbel.cell (p := ⟨pa, 0, none⟩) hlt).trans hp
      clear h0 h1 h2 h3 hp
      by_cases he : whoS S k = x
      · have e1 : ((S k).who == x) = true := by unfold whoS at he; simpa using he
        have HF : Hid (ixAns (whoS S) x n = k) := by
          have : ixOf (whoS S) x n = k := ixOf_is hlt2 he HA.out
          unfold ixAns Hid
          rw [this, if_pos hlt2]
        clear he
        go_wp2_with (first | (go_at_call 140; refine (stayOf1_any _ _ _ _ x pa _ HP.out).mono ?_; rintro e w2 ⟨rfl, hb2⟩))
        go_ret
        exact ⟨by rw [HF.out]; rfl, after hbel hb2⟩
      · have e1 : ((S k).who == x) = false := by unfold whoS at he; simpa using he
        have HE : Hid (whoS S k ≠ x) := he
        clear he
        go_wp2_with (first | (go_at_call 140; refine (stayOf1_any _ _ _ _ x pa _ HP.out).mono ?_; rintro e w2 ⟨rfl, hb2⟩))
        go_roundw
        case rel => exact ⟨k + 1, by omega, by go_num, fun j hj => by
          by_cases e : j = k
          · subst e; exact HE.out
          · exact HA.out j (by omega), after hbel hb2⟩
        case measure => simp [intOf]; omega
    · obtain rfl : k = n := by omega
      have HF : Hid (ixAns (whoS S) x k = -1) := ixAns_no (not_has HA.out)
      go_wp2
      go_ret
      exact ⟨by rw [HF.out]; rfl, hbel⟩

set_option maxHeartbeats 800000 in
/-- stayOf: where the stay of the by stands, -1 without one. -/
theorem stayOf_any (ao : Option Addr) (n c : Nat) (S : Nat → Stay) (x : Int) (w : World) (hn : n ≤ 1048576) (hz : StaysAt w ao n S) :
    Calls Tryz.prog 94 #[.slice ao n c, .int .i64 x] w fun e w' => e = .returned (.int .i64 (ixAns (whoS S) x n)) ∧ Below w.heap.size w w' := by
  have hb0 : Below w.heap.size w (w.alloc (.cells #[.int .i64 x] 3)) := push (Below.refl _ _) _
  have HZ : Hid (StaysAt (w.alloc (.cells #[.int .i64 x] 3)) ao n S) := hz.below hb0
  have HP : Hid ((w.alloc (.cells #[.int .i64 x] 3)).cell? ⟨w.heap.size, 0, none⟩ = some (.int .i64 x)) := blk_cell (heap_alloc_new w _) 0 _ rfl
  have hmf : ∀ (fn : Fn) (first cap : Array Value) (w : World), (Instr.makeFunc fn first cap).run Tryz.prog w = .ok (.func fn first cap) w := fun _ _ _ _ => rfl
  go_enter Tryz.func94, Tryz.ntmps94
  go_wp2_with (first | (go_at_call 139; refine (indexStay_any ao n c S x _ _ hn HZ.out HP.out).mono ?_; rintro e w2 ⟨rfl, hb2⟩))
  go_ret
  exact ⟨rfl, after hb0 hb2⟩

end Go.Proofs.YtlnadbnoemlpeaaGreat

namespace Go.Proofs.YtlnadbnoemlpeaaGreat
open Go.RowKit

set_option maxHeartbeats 400000 in
theorem roomOf1_any (a0 a1 a2 x : Int) (a3 : Bool) (pa : Nat) (w : World) (hp : w.cell? ⟨pa, 0, none⟩ = some (.int .i64 x)) :
    Calls Tryz.prog 142 #[.agg #[.int .i64 a0, .int .i64 a1, .int .i64 a2, .bool a3], .pointer (some ⟨pa, 0, none⟩)] w fun e w' => e = .returned (.bool (a0 == x)) ∧ Below w.heap.size w w' := by
  have hlt := World.block_lt_of_cell? w _ hp
  have hne : ¬ pa = w.heap.size := by have : pa < w.heap.size := hlt; omega
  go_enter Tryz.func142, Tryz.ntmps142
  go_wp2
  go_ret
  exact ⟨rfl, push (Below.refl _ _) _⟩

set_option maxHeartbeats 800000 in
set_option maxRecDepth 100000 in
theorem indexRoom_any (ao : Option Addr) (n c : Nat) (S : Nat → Room) (x : Int) (pa : Nat) (w : World) (hn : n ≤ 1048576) (hz : RoomsAt w ao n S) (hp : w.cell? ⟨pa, 0, none⟩ = some (.int .i64 x)) :
    Calls Tryz.prog 141 #[.slice ao n c, .func (.func 142) #[] #[.pointer (some ⟨pa, 0, none⟩)]] w fun e w' => e = .returned (.int .i64 (ixAns (whoR S) x n)) ∧ Below w.heap.size w w' := by
  have hlt := World.block_lt_of_cell? w _ hp
  go_enter Tryz.func141, Tryz.ntmps141
  go_wp2
  go_loopw [5, 8] (fun _ i wr => ∃ k : Nat, k ≤ n ∧ i = .int .i64 k ∧ (∀ j, j < k → whoR S j ≠ x) ∧ Below w.heap.size w wr) (fun _ i _ => n - (intOf i).toNat)
  case atStart => exact ⟨0, Nat.zero_le _, rfl, fun j hj => by omega, Below.refl _ _⟩
  case round =>
    obtain ⟨k, hk, rfl, hall, hbel⟩ := hrel
    have HA : Hid (∀ j, j < k → whoR S j ≠ x) := hall
    clear hall
    by_cases hlt2 : k < n
    · obtain ⟨b, off, rfl, h0, h1, h2, h3⟩ := hz k hlt2
      have hb := World.block_lt_of_cell? w _ h0
      have c0 := (hbel.cell (p := ⟨b, off + k * 4, none⟩) hb).trans h0
      have c1 := (hbel.cell (p := ⟨b, off + k * 4 + 1, none⟩) hb).trans h1
      have c2 := (hbel.cell (p := ⟨b, off + k * 4 + 2, none⟩) hb).trans h2
      have c3 := (hbel.cell (p := ⟨b, off + k * 4 + 3, none⟩) hb).trans h3
      have HP : Hid (wr.cell? ⟨pa, 0, none⟩ = some (.int .i64 x)) := (hbel.cell (p := ⟨pa, 0, none⟩) hlt).trans hp
      clear h0 h1 h2 h3 hp
      by_cases he : whoR S k = x
      · have e1 : ((S k).who == x) = true := by unfold whoR at he; simpa using he
        have HF : Hid (ixAns (whoR S) x n = k) := by
          have : ixOf (whoR S) x n = k := ixOf_is hlt2 he HA.out
          unfold ixAns Hid
          rw [this, if_pos hlt2]
        clear he
        go_wp2_with (first | (go_at_call 142; refine (roomOf1_any _ _ _ x _ pa _ HP.out).mono ?_; rintro e w2 ⟨rfl, hb2⟩))
        go_ret
        exact ⟨by rw [HF.out]; rfl, after hbel hb2⟩
      · have e1 : ((S k).who == x) = false := by unfold whoR at he; simpa using he
        have HE : Hid (whoR S k ≠ x) := he
        clear he
        go_wp2_with (first | (go_at_call 142; refine (roomOf1_any _ _ _ x _ pa _ HP.out).mono ?_; rintro e w2 ⟨rfl, hb2⟩))
        go_roundw
        case rel => exact ⟨k + 1, by omega, by go_num, fun j hj => by
          by_cases e : j = k
          · subst e; exact HE.out
          · exact HA.out j (by omega), after hbel hb2⟩
        case measure => simp [intOf]; omega
    · obtain rfl : k = n := by omega
      have HF : Hid (ixAns (whoR S) x k = -1) := ixAns_no (not_has HA.out)
      go_wp2
      go_ret
      exact ⟨by rw [HF.out]; rfl, hbel⟩

set_option maxHeartbeats 800000 in
/-- roomOf: where the stay of the by stands, -1 without one. -/
theorem roomOf_any (ao : Option Addr) (n c : Nat) (S : Nat → Room) (x : Int) (w : World) (hn : n ≤ 1048576) (hz : RoomsAt w ao n S) :
    Calls Tryz.prog 95 #[.slice ao n c, .int .i64 x] w fun e w' => e = .returned (.int .i64 (ixAns (whoR S) x n)) ∧ Below w.heap.size w w' := by
  have hb0 : Below w.heap.size w (w.alloc (.cells #[.int .i64 x] 3)) := push (Below.refl _ _) _
  have HZ : Hid (RoomsAt (w.alloc (.cells #[.int .i64 x] 3)) ao n S) := hz.below hb0
  have HP : Hid ((w.alloc (.cells #[.int .i64 x] 3)).cell? ⟨w.heap.size, 0, none⟩ = some (.int .i64 x)) := blk_cell (heap_alloc_new w _) 0 _ rfl
  have hmf : ∀ (fn : Fn) (first cap : Array Value) (w : World), (Instr.makeFunc fn first cap).run Tryz.prog w = .ok (.func fn first cap) w := fun _ _ _ _ => rfl
  go_enter Tryz.func95, Tryz.ntmps95
  go_wp2_with (first | (go_at_call 141; refine (indexRoom_any ao n c S x _ _ hn HZ.out HP.out).mono ?_; rintro e w2 ⟨rfl, hb2⟩))
  go_ret
  exact ⟨rfl, after hb0 hb2⟩

end Go.Proofs.YtlnadbnoemlpeaaGreat
