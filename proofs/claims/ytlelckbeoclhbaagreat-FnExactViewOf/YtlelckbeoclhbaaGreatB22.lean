/-
  OWN TEXT: StayOf, RoomOf, SeatOf, HoldI.
-/
import Derived.Deep.LoopGhost
import Derived.Deep.DeepCutAuto
import Derived.Test.YtlelckbeoclhbaaGreatB21
import Derived.Test.YtlelckbeoclhbaaGreatB11
import Derived.Test.YtlelckbeoclhbaaGreatB17
import Derived.Test.YtlelckbeoclhbaaGreatB20
import Derived.Test.YtlelckbeoclhbaaGreatB07
set_option maxHeartbeats 12800000
set_option maxRecDepth 100000
namespace Go.Proofs.YtlelckbeoclhbaaGreat
open Go.RowKit
theorem stayOf1_any (a0 a1 a2 a3 x : Int) (pa : Nat) (w : World) (hp : w.cell? ⟨pa, 0, none⟩ = some (.int .i64 x)) :
    Calls Tryz.prog 157 #[.agg #[.int .i64 a0, .int .i64 a1, .int .i64 a2, .int .i64 a3], .pointer (some ⟨pa, 0, none⟩)] w fun e w' => e = .returned (.bool (a0 == x)) ∧ Below w.heap.size w w' := by
  have hlt := World.block_lt_of_cell? w _ hp
  have hne : ¬ pa = w.heap.size := by have : pa < w.heap.size := hlt; omega
  go_enter Tryz.func157, Tryz.ntmps157
  go_wp2
  go_ret
  exact ⟨rfl, push (Below.refl _ _) _⟩
theorem indexStay_any (ao : Option Addr) (n c : Nat) (S : Nat → Stay) (x : Int) (pa : Nat) (w : World) (hn : n ≤ 1048576) (hz : StaysAt w ao n S) (hp : w.cell? ⟨pa, 0, none⟩ = some (.int .i64 x)) :
    Calls Tryz.prog 156 #[.slice ao n c, .func (.func 157) #[] #[.pointer (some ⟨pa, 0, none⟩)]] w fun e w' => e = .returned (.int .i64 (ixAns (whoS S) x n)) ∧ Below w.heap.size w w' := by
  have hlt := World.block_lt_of_cell? w _ hp
  go_enter Tryz.func156, Tryz.ntmps156
  go_wp2
  go_loopw [5, 8] (fun _ i wr => ∃ k : Nat, k ≤ n ∧ i = .int .i64 k ∧ (∀ j, j < k → whoS S j ≠ x) ∧ Below w.heap.size w wr) (fun _ i _ => n - (intOf i).toNat)
  case atStart => exact ⟨0, Nat.zero_le _, rfl, fun j hj => by omega, Below.refl _ _⟩
  case round =>
    obtain ⟨k, hk, rfl, hall, hbel⟩ := hrel
    have HA : Hid (∀ j, j < k → whoS S j ≠ x) := hall
    clear hall
    by_cases hlt2 : k < n
    · obtain ⟨b, off, rfl, h0, h1, h2, h3⟩ := hz k hlt2
      have hb := World.block_lt_of_cell? w _ h0
      have c0 := (hbel.cell (p := ⟨b, off + k * 4, none⟩) hb).trans h0
      have c1 := (hbel.cell (p := ⟨b, off + k * 4 + 1, none⟩) hb).trans h1
      have c2 := (hbel.cell (p := ⟨b, off + k * 4 + 2, none⟩) hb).trans h2
      have c3 := (hbel.cell (p := ⟨b, off + k * 4 + 3, none⟩) hb).trans h3
      have HP : Hid (wr.cell? ⟨pa, 0, none⟩ = some (.int .i64 x)) := (hbel.cell (p := ⟨pa, 0, none⟩) hlt).trans hp
      clear h0 h1 h2 h3 hp
      by_cases he : whoS S k = x
      · have e1 : ((S k).who == x) = true := by unfold whoS at he; simpa using he
        have HF : Hid (ixAns (whoS S) x n = k) := by
          have : ixOf (whoS S) x n = k := ixOf_is hlt2 he HA.out
          unfold ixAns Hid
          rw [this, if_pos hlt2]
        clear he
        go_wp2_with (first | (go_at_call 157; refine (stayOf1_any _ _ _ _ x pa _ HP.out).mono ?_; rintro e w2 ⟨rfl, hb2⟩))
        go_ret
        exact ⟨by rw [HF.out]; rfl, after hbel hb2⟩
      · have e1 : ((S k).who == x) = false := by unfold whoS at he; simpa using he
        have HE : Hid (whoS S k ≠ x) := he
        clear he
        go_wp2_with (first | (go_at_call 157; refine (stayOf1_any _ _ _ _ x pa _ HP.out).mono ?_; rintro e w2 ⟨rfl, hb2⟩))
        go_roundw
        case rel => exact ⟨k + 1, by omega, by go_num, fun j hj => by
          by_cases e : j = k
          · subst e; exact HE.out
          · exact HA.out j (by omega), after hbel hb2⟩
        case measure => simp [intOf]; omega
    · obtain rfl : k = n := by omega
      have HF : Hid (ixAns (whoS S) x k = -1) := ixAns_no (not_has HA.out)
      go_wp2
      go_ret
      exact ⟨by rw [HF.out]; rfl, hbel⟩
theorem stayOf_any (ao : Option Addr) (n c : Nat) (S : Nat → Stay) (x : Int) (w : World) (hn : n ≤ 1048576) (hz : StaysAt w ao n S) :
    Calls Tryz.prog 124 #[.slice ao n c, .int .i64 x] w fun e w' => e = .returned (.int .i64 (ixAns (whoS S) x n)) ∧ Below w.heap.size w w' := by
  have hb0 : Below w.heap.size w (w.alloc (.cells #[.int .i64 x] 3)) := push (Below.refl _ _) _
  have HZ : Hid (StaysAt (w.alloc (.cells #[.int .i64 x] 3)) ao n S) := hz.below hb0
  have HP : Hid ((w.alloc (.cells #[.int .i64 x] 3)).cell? ⟨w.heap.size, 0, none⟩ = some (.int .i64 x)) := blk_cell (heap_alloc_new w _) 0 _ rfl
  have hmf : ∀ (fn : Fn) (first cap : Array Value) (w : World), (Instr.makeFunc fn first cap).run Tryz.prog w = .ok (.func fn first cap) w := fun _ _ _ _ => rfl
  go_enter Tryz.func124, Tryz.ntmps124
  go_wp2_with (first | (go_at_call 156; refine (indexStay_any ao n c S x _ _ hn HZ.out HP.out).mono ?_; rintro e w2 ⟨rfl, hb2⟩))
  go_ret
  exact ⟨rfl, after hb0 hb2⟩
end Go.Proofs.YtlelckbeoclhbaaGreat

namespace Go.Proofs.YtlelckbeoclhbaaGreat
open Go.RowKit
theorem roomOf1_any (a0 a1 a2 x : Int) (a3 : Bool) (pa : Nat) (w : World) (hp : w.cell? ⟨pa, 0, none⟩ = some (.int .i64 x)) :
    Calls Tryz.prog 159 #[.agg #[.int .i64 a0, .int .i64 a1, .int .i64 a2, .bool a3], .pointer (some ⟨pa, 0, none⟩)] w fun e w' => e = .returned (.bool (a0 == x)) ∧ Below w.heap.size w w' := by
  have hlt := World.block_lt_of_cell? w _ hp
  have hne : ¬ pa = w.heap.size := by have : pa < w.heap.size := hlt; omega
  go_enter Tryz.func159, Tryz.ntmps159
  go_wp2
  go_ret
  exact ⟨rfl, push (Below.refl _ _) _⟩
theorem indexRoom_any (ao : Option Addr) (n c : Nat) (S : Nat → Room) (x : Int) (pa : Nat) (w : World) (hn : n ≤ 1048576) (hz : RoomsAt w ao n S) (hp : w.cell? ⟨pa, 0, none⟩ = some (.int .i64 x)) :
    Calls Tryz.prog 158 #[.slice ao n c, .func (.func 159) #[] #[.pointer (some ⟨pa, 0, none⟩)]] w fun e w' => e = .returned (.int .i64 (ixAns (whoR S) x n)) ∧ Below w.heap.size w w' := by
  have hlt := World.block_lt_of_cell? w _ hp
  go_enter Tryz.func158, Tryz.ntmps158
  go_wp2
  go_loopw [5, 8] (fun _ i wr => ∃ k : Nat, k ≤ n ∧ i = .int .i64 k ∧ (∀ j, j < k → whoR S j ≠ x) ∧ Below w.heap.size w wr) (fun _ i _ => n - (intOf i).toNat)
  case atStart => exact ⟨0, Nat.zero_le _, rfl, fun j hj => by omega, Below.refl _ _⟩
  case round =>
    obtain ⟨k, hk, rfl, hall, hbel⟩ := hrel
    have HA : Hid (∀ j, j < k → whoR S j ≠ x) := hall
    clear hall
    by_cases hlt2 : k < n
    · obtain ⟨b, off, rfl, h0, h1, h2, h3⟩ := hz k hlt2
      have hb := World.block_lt_of_cell? w _ h0
      have c0 := (hbel.cell (p := ⟨b, off + k * 4, none⟩) hb).trans h0
      have c1 := (hbel.cell (p := ⟨b, off + k * 4 + 1, none⟩) hb).trans h1
      have c2 := (hbel.cell (p := ⟨b, off + k * 4 + 2, none⟩) hb).trans h2
      have c3 := (hbel.cell (p := ⟨b, off + k * 4 + 3, none⟩) hb).trans h3
      have HP : Hid (wr.cell? ⟨pa, 0, none⟩ = some (.int .i64 x)) := (hbel.cell (p := ⟨pa, 0, none⟩) hlt).trans hp
      clear h0 h1 h2 h3 hp
      by_cases he : whoR S k = x
      · have e1 : ((S k).who == x) = true := by unfold whoR at he; simpa using he
        have HF : Hid (ixAns (whoR S) x n = k) := by
          have : ixOf (whoR S) x n = k := ixOf_is hlt2 he HA.out
          unfold ixAns Hid
          rw [this, if_pos hlt2]
        clear he
        go_wp2_with (first | (go_at_call 159; refine (roomOf1_any _ _ _ x _ pa _ HP.out).mono ?_; rintro e w2 ⟨rfl, hb2⟩))
        go_ret
        exact ⟨by rw [HF.out]; rfl, after hbel hb2⟩
      · have e1 : ((S k).who == x) = false := by unfold whoR at he; simpa using he
        have HE : Hid (whoR S k ≠ x) := he
        clear he
        go_wp2_with (first | (go_at_call 159; refine (roomOf1_any _ _ _ x _ pa _ HP.out).mono ?_; rintro e w2 ⟨rfl, hb2⟩))
        go_roundw
        case rel => exact ⟨k + 1, by omega, by go_num, fun j hj => by
          by_cases e : j = k
          · subst e; exact HE.out
          · exact HA.out j (by omega), after hbel hb2⟩
        case measure => simp [intOf]; omega
    · obtain rfl : k = n := by omega
      have HF : Hid (ixAns (whoR S) x k = -1) := ixAns_no (not_has HA.out)
      go_wp2
      go_ret
      exact ⟨by rw [HF.out]; rfl, hbel⟩
theorem roomOf_any (ao : Option Addr) (n c : Nat) (S : Nat → Room) (x : Int) (w : World) (hn : n ≤ 1048576) (hz : RoomsAt w ao n S) :
    Calls Tryz.prog 125 #[.slice ao n c, .int .i64 x] w fun e w' => e = .returned (.int .i64 (ixAns (whoR S) x n)) ∧ Below w.heap.size w w' := by
  have hb0 : Below w.heap.size w (w.alloc (.cells #[.int .i64 x] 3)) := push (Below.refl _ _) _
  have HZ : Hid (RoomsAt (w.alloc (.cells #[.int .i64 x] 3)) ao n S) := hz.below hb0
  have HP : Hid ((w.alloc (.cells #[.int .i64 x] 3)).cell? ⟨w.heap.size, 0, none⟩ = some (.int .i64 x)) := blk_cell (heap_alloc_new w _) 0 _ rfl
  have hmf : ∀ (fn : Fn) (first cap : Array Value) (w : World), (Instr.makeFunc fn first cap).run Tryz.prog w = .ok (.func fn first cap) w := fun _ _ _ _ => rfl
  go_enter Tryz.func125, Tryz.ntmps125
  go_wp2_with (first | (go_at_call 158; refine (indexRoom_any ao n c S x _ _ hn HZ.out HP.out).mono ?_; rintro e w2 ⟨rfl, hb2⟩))
  go_ret
  exact ⟨rfl, after hb0 hb2⟩
end Go.Proofs.YtlelckbeoclhbaaGreat

namespace Go.Proofs.YtlelckbeoclhbaaGreat
open Go.RowKit
theorem seatOf1_any (a0 a1 x : Int) (pa : Nat) (w : World) (hp : w.cell? ⟨pa, 0, none⟩ = some (.int .i64 x)) :
    Calls Tryz.prog 177 #[.agg #[.int .i64 a0, .int .i64 a1], .pointer (some ⟨pa, 0, none⟩)] w fun e w' => e = .returned (.bool (a0 == x)) ∧ Below w.heap.size w w' := by
  have hlt := World.block_lt_of_cell? w _ hp
  have hne : ¬ pa = w.heap.size := by have : pa < w.heap.size := hlt; omega
  go_enter Tryz.func177, Tryz.ntmps177
  go_wp2
  go_ret
  exact ⟨rfl, push (Below.refl _ _) _⟩
theorem indexSeat_any (ao : Option Addr) (n c : Nat) (S : Nat → Seat) (x : Int) (pa : Nat) (w : World) (hn : n ≤ 1048576) (hz : SeatsAt w ao n S) (hp : w.cell? ⟨pa, 0, none⟩ = some (.int .i64 x)) :
    Calls Tryz.prog 176 #[.slice ao n c, .func (.func 177) #[] #[.pointer (some ⟨pa, 0, none⟩)]] w fun e w' => e = .returned (.int .i64 (ixAns (whoT S) x n)) ∧ Below w.heap.size w w' := by
  have hlt := World.block_lt_of_cell? w _ hp
  go_enter Tryz.func176, Tryz.ntmps176
  go_wp2
  go_loopw [5, 8] (fun _ i wr => ∃ k : Nat, k ≤ n ∧ i = .int .i64 k ∧ (∀ j, j < k → whoT S j ≠ x) ∧ Below w.heap.size w wr) (fun _ i _ => n - (intOf i).toNat)
  case atStart => exact ⟨0, Nat.zero_le _, rfl, fun j hj => by omega, Below.refl _ _⟩
  case round =>
    obtain ⟨k, hk, rfl, hall, hbel⟩ := hrel
    have HA : Hid (∀ j, j < k → whoT S j ≠ x) := hall
    clear hall
    by_cases hlt2 : k < n
    · obtain ⟨b, off, rfl, h0, h1⟩ := hz k hlt2
      have hb := World.block_lt_of_cell? w _ h0
      have c0 := (hbel.cell (p := ⟨b, off + k * 2, none⟩) hb).trans h0
      have c1 := (hbel.cell (p := ⟨b, off + k * 2 + 1, none⟩) hb).trans h1
      have HP : Hid (wr.cell? ⟨pa, 0, none⟩ = some (.int .i64 x)) := (hbel.cell (p := ⟨pa, 0, none⟩) hlt).trans hp
      clear h0 h1 hp
      by_cases he : whoT S k = x
      · have e1 : ((S k).who == x) = true := by unfold whoT at he; simpa using he
        have HF : Hid (ixAns (whoT S) x n = k) := by
          have : ixOf (whoT S) x n = k := ixOf_is hlt2 he HA.out
          unfold ixAns Hid
          rw [this, if_pos hlt2]
        clear he
        go_wp2_with (first | (go_at_call 177; refine (seatOf1_any _ _ x pa _ HP.out).mono ?_; rintro e w2 ⟨rfl, hb2⟩))
        go_ret
        exact ⟨by rw [HF.out]; rfl, after hbel hb2⟩
      · have e1 : ((S k).who == x) = false := by unfold whoT at he; simpa using he
        have HE : Hid (whoT S k ≠ x) := he
        clear he
        go_wp2_with (first | (go_at_call 177; refine (seatOf1_any _ _ x pa _ HP.out).mono ?_; rintro e w2 ⟨rfl, hb2⟩))
        go_roundw
        case rel => exact ⟨k + 1, by omega, by go_num, fun j hj => by
          by_cases e : j = k
          · subst e; exact HE.out
          · exact HA.out j (by omega), after hbel hb2⟩
        case measure => simp [intOf]; omega
    · obtain rfl : k = n := by omega
      have HF : Hid (ixAns (whoT S) x k = -1) := ixAns_no (not_has HA.out)
      go_wp2
      go_ret
      exact ⟨by rw [HF.out]; rfl, hbel⟩
theorem seatOf_any (ao : Option Addr) (n c : Nat) (S : Nat → Seat) (x : Int) (w : World) (hn : n ≤ 1048576) (hz : SeatsAt w ao n S) :
    Calls Tryz.prog 154 #[.slice ao n c, .int .i64 x] w fun e w' => e = .returned (.int .i64 (ixAns (whoT S) x n)) ∧ Below w.heap.size w w' := by
  have hb0 : Below w.heap.size w (w.alloc (.cells #[.int .i64 x] 3)) := push (Below.refl _ _) _
  have HZ : Hid (SeatsAt (w.alloc (.cells #[.int .i64 x] 3)) ao n S) := hz.below hb0
  have HP : Hid ((w.alloc (.cells #[.int .i64 x] 3)).cell? ⟨w.heap.size, 0, none⟩ = some (.int .i64 x)) := blk_cell (heap_alloc_new w _) 0 _ rfl
  have hmf : ∀ (fn : Fn) (first cap : Array Value) (w : World), (Instr.makeFunc fn first cap).run Tryz.prog w = .ok (.func fn first cap) w := fun _ _ _ _ => rfl
  go_enter Tryz.func154, Tryz.ntmps154
  go_wp2_with (first | (go_at_call 176; refine (indexSeat_any ao n c S x _ _ hn HZ.out HP.out).mono ?_; rintro e w2 ⟨rfl, hb2⟩))
  go_ret
  exact ⟨rfl, after hb0 hb2⟩
end Go.Proofs.YtlelckbeoclhbaaGreat

namespace Go.Proofs.YtlelckbeoclhbaaGreat
open Go.RowKit
theorem ixAns_pos {G : Nat → Int} {x : Int} {n : Nat} (h : ixOf G x n < n) : ixAns G x n = (ixOf G x n : Int) := by unfold ixAns; rw [if_pos h]
theorem ixAns_neg {G : Nat → Int} {x : Int} {n : Nat} (h : ¬ ixOf G x n < n) : ixAns G x n = -1 := ixAns_no (fun c => h ((has_iff G n x).1 c))
theorem holdsCar_any (b : Book) (alg : Option Addr) (clg : Nat) (l : Load) (ast : Option Addr) (cst : Nat) (w : World) (hn : l.stn ≤ 1048576) (hz : StaysAt w ast l.stn l.st) :
    Calls Tryz.prog 114 #[.slice ast l.stn cst, .agg #[.int .i64 b.name, .int .i64 b.who, .string b.own, .slice alg b.lgn clg, .int .i64 b.pe, .int .i64 b.len, .int .i64 b.hei, .int .i64 b.cl, .bool b.all, .int .i64 b.be, .int .i64 b.state, .int .i64 b.unt, .int .i64 b.price]] w fun e w' => SaysIf (HoldC l b) e ∧ Below w.heap.size w w' := by
  have HZ : Hid (StaysAt w ast l.stn l.st) := hz
  clear hz
  obtain ⟨c2, hc2⟩ : ∃ c, c = decide (¬ (b.len = 0 ∧ b.hei = 0)) := ⟨_, rfl⟩
  have H2 : Hid (c2 = decide (¬ (b.len = 0 ∧ b.hei = 0))) := hc2
  clear hc2
  have hb0 : Below w.heap.size w (w.alloc (.cells #[.int .i64 b.name, .int .i64 b.who, .string b.own, .slice alg b.lgn clg, .int .i64 b.pe, .int .i64 b.len, .int .i64 b.hei, .int .i64 b.cl, .bool b.all, .int .i64 b.be, .int .i64 b.state, .int .i64 b.unt, .int .i64 b.price] 72)) := push (Below.refl _ _) _
  have b0 := heap_alloc_new w (.cells #[.int .i64 b.name, .int .i64 b.who, .string b.own, .slice alg b.lgn clg, .int .i64 b.pe, .int .i64 b.len, .int .i64 b.hei, .int .i64 b.cl, .bool b.all, .int .i64 b.be, .int .i64 b.state, .int .i64 b.unt, .int .i64 b.price] 72)
  go_enter Tryz.func114, Tryz.ntmps114
  go_wp2_with fail
  generalize hBx : w.heap.size = Bx at b0 ⊢
  generalize w.alloc (.cells #[.int .i64 b.name, .int .i64 b.who, .string b.own, .slice alg b.lgn clg, .int .i64 b.pe, .int .i64 b.len, .int .i64 b.hei, .int .i64 b.cl, .bool b.all, .int .i64 b.be, .int .i64 b.state, .int .i64 b.unt, .int .i64 b.price] 72) = V at hb0 b0 ⊢
  have y4 := blk_cell b0 4 _ rfl
  have y5 := blk_cell b0 5 _ rfl
  have y6 := blk_cell b0 6 _ rfl
  have y7 := blk_cell b0 7 _ rfl
  have y8 := blk_cell b0 8 _ rfl
  have y9 := blk_cell b0 9 _ rfl
  refine (asksCar_any b.pe b.len b.hei b.cl b.all b.be _).mono ?_
  rw [← H2.out]
  rintro e V1 ⟨rfl, hbv⟩
  have b01 := blk_below b0 hbv
  have hb1 := after hb0 hbv
  clear y4 y5 y6 y7 y8 y9 b0 hb0 hbv
  cases c2 with
  | false =>
    have HN : Hid (HoldC l b) := .inl (by have := H2.out; simp at this; exact ⟨this.1, this.2⟩)
    go_wp2
    go_ret
    exact ⟨says_yes HN.out, hb1⟩
  | true =>
    have HC : Hid (¬ NoCar b) := by have := of_decide_eq_true H2.out.symm; exact fun h => this h
    clear H2
    have y1 := blk_cell b01 1 _ rfl
    go_upto_region 4 with (first | (go_at_call 124; refine (stayOf_any ast l.stn cst l.st b.who _ hn (HZ.out.below hb1)).mono ?_; rintro e W ⟨rfl, hbv⟩; have b1 := blk_below b01 hbv; have hbw := after hb1 hbv))
    have hBW : Bx < W.heap.size := blk_lt b1
    clear y1 b01 hbv hBx
    by_cases hf : ixOf (whoS l.st) b.who l.stn < l.stn
    case neg =>
      have e0 : decide (0 ≤ ixAns (whoS l.st) b.who l.stn) = false := by rw [ixAns_neg hf]; rfl
      have HN : Hid (¬ HoldC l b) := fun h => by rcases h with h | h; exact HC.out h; exact hf h.1
      clear hf
      generalize ixAns (whoS l.st) b.who l.stn = r at e0 ⊢
      refine wp_region_grow (by kernel_rfl) (by kernel_rfl) ?_
      repeat (first | go_big_quiet_skip | (go_big_quiet_want; go_big_quiet_op; go_big_quiet_on))
      refine wpQuiet_nil ?_
      rintro _ ⟨g, rfl⟩
      go_wp2
      go_ret
      exact ⟨says_no HN.out, after hbw g.bel⟩
    rw [ixAns_pos hf]
    obtain ⟨i, hi⟩ : ∃ i, i = ixOf (whoS l.st) b.who l.stn := ⟨_, rfl⟩
    rw [← hi] at hf ⊢
    have HI : Hid (i = ixOf (whoS l.st) b.who l.stn) := hi
    clear hi
    obtain ⟨sb, so, rfl, f0, f1, f2, f3⟩ := HZ.out i hf
    have hsb := World.block_lt_of_cell? w _ f0
    have q2 : ∀ g : Grown W, g.val.cell? ⟨sb, so + i * 4 + 2, none⟩ = some (.int .i64 (l.st i).len) := fun g => ((after hbw g.bel).cell (p := ⟨sb, so + i * 4 + 2, none⟩) hsb).trans f2
    have q3 : ∀ g : Grown W, g.val.cell? ⟨sb, so + i * 4 + 3, none⟩ = some (.int .i64 (l.st i).hei) := fun g => ((after hbw g.bel).cell (p := ⟨sb, so + i * 4 + 3, none⟩) hsb).trans f3
    have z5 : ∀ g : Grown W, g.val.cell? ⟨Bx, 5, none⟩ = some (.int .i64 b.len) := fun g => (g.bel.cell hBW).trans (blk_cell b1 5 _ rfl)
    have z6 : ∀ g : Grown W, g.val.cell? ⟨Bx, 6, none⟩ = some (.int .i64 b.hei) := fun g => (g.bel.cell hBW).trans (blk_cell b1 6 _ rfl)
    have i0 : decide (0 ≤ (i : Int)) = true := by simp
    have i1 : (0 : Int) ≤ (i : Int) := by omega
    have i2 : (i : Int) < (l.stn : Int) := by omega
    have HF : Hid (i < l.stn) := hf
    clear f0 f1 f2 f3 hf
    by_cases c1 : (l.st i).len = b.len
    case neg =>
      have e1 : ((l.st i).len == b.len) = false := by simpa using c1
      have HN : Hid (¬ HoldC l b) := fun h => by rcases h with h | h; exact HC.out h; exact c1 (by rw [HI.out]; exact h.2.1)
      clear c1
      refine wp_region_grow (by kernel_rfl) (by kernel_rfl) ?_
      repeat (first | go_big_quiet_skip | (go_big_quiet_want; go_big_quiet_op; go_big_quiet_on))
      refine wpQuiet_nil ?_
      rintro _ ⟨g, rfl⟩
      go_wp2
      go_ret
      exact ⟨says_no HN.out, after hbw g.bel⟩
    have e1 : ((l.st i).len == b.len) = true := by simpa using c1
    by_cases c2 : (l.st i).hei = b.hei
    case neg =>
      have e2 : ((l.st i).hei == b.hei) = false := by simpa using c2
      have HN : Hid (¬ HoldC l b) := fun h => by rcases h with h | h; exact HC.out h; exact c2 (by rw [HI.out]; exact h.2.2)
      clear c1 c2
      refine wp_region_grow (by kernel_rfl) (by kernel_rfl) ?_
      repeat (first | go_big_quiet_skip | (go_big_quiet_want; go_big_quiet_op; go_big_quiet_on))
      refine wpQuiet_nil ?_
      rintro _ ⟨g, rfl⟩
      go_wp2
      go_ret
      exact ⟨says_no HN.out, after hbw g.bel⟩
    have e2 : ((l.st i).hei == b.hei) = true := by simpa using c2
    have HN : Hid (HoldC l b) := .inr (by rw [← HI.out]; exact ⟨HF.out, c1, c2⟩)
    clear c1 c2
    refine wp_region_grow (by kernel_rfl) (by kernel_rfl) ?_
    repeat (first | go_big_quiet_skip | (go_big_quiet_want; go_big_quiet_op; go_big_quiet_on))
    refine wpQuiet_nil ?_
    rintro _ ⟨g, rfl⟩
    go_wp2
    go_ret
    exact ⟨says_yes HN.out, after hbw g.bel⟩
theorem holdsSeats_any (b : Book) (alg : Option Addr) (clg : Nat) (l : Load) (ase : Option Addr) (cse : Nat) (w : World) (hn : l.sen ≤ 1048576) (hz : SeatsAt w ase l.sen l.se) :
    Calls Tryz.prog 116 #[.slice ase l.sen cse, .agg #[.int .i64 b.name, .int .i64 b.who, .string b.own, .slice alg b.lgn clg, .int .i64 b.pe, .int .i64 b.len, .int .i64 b.hei, .int .i64 b.cl, .bool b.all, .int .i64 b.be, .int .i64 b.state, .int .i64 b.unt, .int .i64 b.price]] w fun e w' => SaysIf (HoldT l b) e ∧ Below w.heap.size w w' := by
  have HZ : Hid (SeatsAt w ase l.sen l.se) := hz
  clear hz
  have hb0 : Below w.heap.size w (w.alloc (.cells #[.int .i64 b.name, .int .i64 b.who, .string b.own, .slice alg b.lgn clg, .int .i64 b.pe, .int .i64 b.len, .int .i64 b.hei, .int .i64 b.cl, .bool b.all, .int .i64 b.be, .int .i64 b.state, .int .i64 b.unt, .int .i64 b.price] 72)) := push (Below.refl _ _) _
  have b0 := heap_alloc_new w (.cells #[.int .i64 b.name, .int .i64 b.who, .string b.own, .slice alg b.lgn clg, .int .i64 b.pe, .int .i64 b.len, .int .i64 b.hei, .int .i64 b.cl, .bool b.all, .int .i64 b.be, .int .i64 b.state, .int .i64 b.unt, .int .i64 b.price] 72)
  go_enter Tryz.func116, Tryz.ntmps116
  go_wp2_with fail
  generalize hBx : w.heap.size = Bx at b0 ⊢
  generalize w.alloc (.cells #[.int .i64 b.name, .int .i64 b.who, .string b.own, .slice alg b.lgn clg, .int .i64 b.pe, .int .i64 b.len, .int .i64 b.hei, .int .i64 b.cl, .bool b.all, .int .i64 b.be, .int .i64 b.state, .int .i64 b.unt, .int .i64 b.price] 72) = V at hb0 b0 ⊢
  have y1 := blk_cell b0 1 _ rfl
  refine (seatOf_any ase l.sen cse l.se b.who _ hn (HZ.out.below hb0)).mono ?_
  rintro e W ⟨rfl, hbv⟩
  have b1 := blk_below b0 hbv
  have hbw := after hb0 hbv
  have hBW : Bx < W.heap.size := blk_lt b1
  clear y1 b0 hbv hBx
  by_cases hf : ixOf (whoT l.se) b.who l.sen < l.sen
  case neg =>
    have e0 : decide (0 ≤ ixAns (whoT l.se) b.who l.sen) = false := by rw [ixAns_neg hf]; rfl
    have HN : Hid (¬ HoldT l b) := fun h => hf h.1
    clear hf
    generalize ixAns (whoT l.se) b.who l.sen = r at e0 ⊢
    go_upto_region 2 with fail
    refine wp_region_grow (by kernel_rfl) (by kernel_rfl) ?_
    repeat (first | go_big_quiet_skip | (go_big_quiet_want; go_big_quiet_op; go_big_quiet_on))
    refine wpQuiet_nil ?_
    rintro _ ⟨g, rfl⟩
    go_wp2
    go_ret
    exact ⟨says_no HN.out, after hbw g.bel⟩
  rw [ixAns_pos hf]
  obtain ⟨i, hi⟩ : ∃ i, i = ixOf (whoT l.se) b.who l.sen := ⟨_, rfl⟩
  rw [← hi] at hf ⊢
  have HI : Hid (i = ixOf (whoT l.se) b.who l.sen) := hi
  clear hi
  obtain ⟨sb, so, rfl, f0, f1⟩ := HZ.out i hf
  have hsb := World.block_lt_of_cell? w _ f0
  have q1 : ∀ g : Grown W, g.val.cell? ⟨sb, so + i * 2 + 1, none⟩ = some (.int .i64 (l.se i).many) := fun g => ((after hbw g.bel).cell (p := ⟨sb, so + i * 2 + 1, none⟩) hsb).trans f1
  have z4 : ∀ g : Grown W, g.val.cell? ⟨Bx, 4, none⟩ = some (.int .i64 b.pe) := fun g => (g.bel.cell hBW).trans (blk_cell b1 4 _ rfl)
  have i0 : decide (0 ≤ (i : Int)) = true := by simp
  have i1 : (0 : Int) ≤ (i : Int) := by omega
  have i2 : (i : Int) < (l.sen : Int) := by omega
  have HF : Hid (i < l.sen) := hf
  clear f0 f1 hf
  by_cases c1 : (l.se i).many = b.pe
  case neg =>
    have e1 : ((l.se i).many == b.pe) = false := by simpa using c1
    have HN : Hid (¬ HoldT l b) := fun h => c1 (by rw [HI.out]; exact h.2)
    clear c1
    go_upto_region 2 with fail
    refine wp_region_grow (by kernel_rfl) (by kernel_rfl) ?_
    repeat (first | go_big_quiet_skip | (go_big_quiet_want; go_big_quiet_op; go_big_quiet_on))
    refine wpQuiet_nil ?_
    rintro _ ⟨g, rfl⟩
    go_wp2
    go_ret
    exact ⟨says_no HN.out, after hbw g.bel⟩
  have e1 : ((l.se i).many == b.pe) = true := by simpa using c1
  have HN : Hid (HoldT l b) := by show HoldT l b; unfold HoldT; rw [← HI.out]; exact ⟨HF.out, c1⟩
  clear c1
  go_upto_region 2 with fail
  refine wp_region_grow (by kernel_rfl) (by kernel_rfl) ?_
  repeat (first | go_big_quiet_skip | (go_big_quiet_want; go_big_quiet_op; go_big_quiet_on))
  refine wpQuiet_nil ?_
  rintro _ ⟨g, rfl⟩
  go_wp2
  go_ret
  exact ⟨says_yes HN.out, after hbw g.bel⟩
theorem holdsCabin_any (b : Book) (alg : Option Addr) (clg : Nat) (s : Sail) (l : Load) (aca aro : Option Addr) (cca cro : Nat) (w : World) (hn : l.ron ≤ 1048576) (hcab : ∀ j, j < l.ron → 0 ≤ (l.ro j).cab ∧ (l.ro j).cab < s.ca.n) (hx : PairsAt w aca s.ca) (hz : RoomsAt w aro l.ron l.ro) :
    Calls Tryz.prog 115 #[.slice aca s.ca.n cca, .slice aro l.ron cro, .agg #[.int .i64 b.name, .int .i64 b.who, .string b.own, .slice alg b.lgn clg, .int .i64 b.pe, .int .i64 b.len, .int .i64 b.hei, .int .i64 b.cl, .bool b.all, .int .i64 b.be, .int .i64 b.state, .int .i64 b.unt, .int .i64 b.price]] w fun e w' => SaysIf (HoldR s l b) e ∧ Below w.heap.size w w' := by
  have HZ : Hid (RoomsAt w aro l.ron l.ro) := hz
  have HX : Hid (PairsAt w aca s.ca) := hx
  have HCB : Hid (∀ j, j < l.ron → 0 ≤ (l.ro j).cab ∧ (l.ro j).cab < s.ca.n) := hcab
  clear hz hx hcab
  obtain ⟨c2, hc2⟩ : ∃ c, c = decide (¬ (b.cl = 0 ∧ b.all = false ∧ b.be = 0)) := ⟨_, rfl⟩
  have H2 : Hid (c2 = decide (¬ (b.cl = 0 ∧ b.all = false ∧ b.be = 0))) := hc2
  clear hc2
  have hb0 : Below w.heap.size w (w.alloc (.cells #[.int .i64 b.name, .int .i64 b.who, .string b.own, .slice alg b.lgn clg, .int .i64 b.pe, .int .i64 b.len, .int .i64 b.hei, .int .i64 b.cl, .bool b.all, .int .i64 b.be, .int .i64 b.state, .int .i64 b.unt, .int .i64 b.price] 72)) := push (Below.refl _ _) _
  have b0 := heap_alloc_new w (.cells #[.int .i64 b.name, .int .i64 b.who, .string b.own, .slice alg b.lgn clg, .int .i64 b.pe, .int .i64 b.len, .int .i64 b.hei, .int .i64 b.cl, .bool b.all, .int .i64 b.be, .int .i64 b.state, .int .i64 b.unt, .int .i64 b.price] 72)
  go_enter Tryz.func115, Tryz.ntmps115
  go_wp2_with fail
  generalize hBx : w.heap.size = Bx at b0 ⊢
  generalize w.alloc (.cells #[.int .i64 b.name, .int .i64 b.who, .string b.own, .slice alg b.lgn clg, .int .i64 b.pe, .int .i64 b.len, .int .i64 b.hei, .int .i64 b.cl, .bool b.all, .int .i64 b.be, .int .i64 b.state, .int .i64 b.unt, .int .i64 b.price] 72) = V at hb0 b0 ⊢
  have y4 := blk_cell b0 4 _ rfl
  have y5 := blk_cell b0 5 _ rfl
  have y6 := blk_cell b0 6 _ rfl
  have y7 := blk_cell b0 7 _ rfl
  have y8 := blk_cell b0 8 _ rfl
  have y9 := blk_cell b0 9 _ rfl
  refine (asksCabin_any b.pe b.len b.hei b.cl b.all b.be _).mono ?_
  rw [← H2.out]
  rintro e V1 ⟨rfl, hbv⟩
  have b01 := blk_below b0 hbv
  have hb1 := after hb0 hbv
  clear y4 y5 y6 y7 y8 y9 b0 hb0 hbv
  cases c2 with
  | false =>
    have HN : Hid (HoldR s l b) := .inl (by have := H2.out; simp at this; exact ⟨this.1, this.2.1, this.2.2⟩)
    go_wp2
    go_ret
    exact ⟨says_yes HN.out, hb1⟩
  | true =>
    have HC : Hid (¬ NoCab b) := by have := of_decide_eq_true H2.out.symm; exact fun h => this h
    clear H2
    have y1 := blk_cell b01 1 _ rfl
    go_upto_region 4 with (first | (go_at_call 125; refine (roomOf_any aro l.ron cro l.ro b.who _ hn (HZ.out.below hb1)).mono ?_; rintro e W ⟨rfl, hbv⟩; have b1 := blk_below b01 hbv; have hbw := after hb1 hbv))
    have hBW : Bx < W.heap.size := blk_lt b1
    clear y1 b01 hbv hBx
    by_cases hf : ixOf (whoR l.ro) b.who l.ron < l.ron
    case neg =>
      have e0 : decide (0 ≤ ixAns (whoR l.ro) b.who l.ron) = false := by rw [ixAns_neg hf]; rfl
      have HN : Hid (¬ HoldR s l b) := fun h => by rcases h with h | h; exact HC.out h; exact hf h.1
      clear hf
      generalize ixAns (whoR l.ro) b.who l.ron = r at e0 ⊢
      refine wp_region_grow (by kernel_rfl) (by kernel_rfl) ?_
      repeat (first | go_big_quiet_skip | (go_big_quiet_want; go_big_quiet_op; go_big_quiet_on))
      refine wpQuiet_nil ?_
      rintro _ ⟨g, rfl⟩
      go_wp2
      go_ret
      exact ⟨says_no HN.out, after hbw g.bel⟩
    rw [ixAns_pos hf]
    obtain ⟨i, hi⟩ : ∃ i, i = ixOf (whoR l.ro) b.who l.ron := ⟨_, rfl⟩
    rw [← hi] at hf ⊢
    have HI : Hid (i = ixOf (whoR l.ro) b.who l.ron) := hi
    clear hi
    obtain ⟨kk, hkk⟩ : ∃ k : Nat, (l.ro i).cab = (k : Int) := ⟨(l.ro i).cab.toNat, by have := HCB.out i hf; omega⟩
    have hk3 : kk < s.ca.n := by have := HCB.out i hf; omega
    have HK : Hid ((l.ro i).cab.toNat = kk) := by show (l.ro i).cab.toNat = kk; omega
    obtain ⟨sb, so, rfl, f0, f1, f2, f3⟩ := HZ.out i hf
    obtain ⟨xb, xo, rfl, g0, g1⟩ := HX.out kk hk3
    have hsb := World.block_lt_of_cell? w _ f0
    have hxb := World.block_lt_of_cell? w _ g0
    have q1 : ∀ g : Grown W, g.val.cell? ⟨sb, so + i * 4 + 1, none⟩ = some (.int .i64 (kk : Int)) := fun g => ((after hbw g.bel).cell (p := ⟨sb, so + i * 4 + 1, none⟩) hsb).trans (by rw [f1, hkk])
    have q2 : ∀ g : Grown W, g.val.cell? ⟨sb, so + i * 4 + 2, none⟩ = some (.int .i64 (l.ro i).many) := fun g => ((after hbw g.bel).cell (p := ⟨sb, so + i * 4 + 2, none⟩) hsb).trans f2
    have p0 : ∀ g : Grown W, g.val.cell? ⟨xb, xo + kk * 2, none⟩ = some (.int .i64 (s.ca.A kk)) := fun g => ((after hbw g.bel).cell (p := ⟨xb, xo + kk * 2, none⟩) hxb).trans g0
    have Q3 : Hid (∀ g : Grown W, g.val.cell? ⟨sb, so + i * 4 + 3, none⟩ = some (.bool (l.ro i).all)) := fun g => ((after hbw g.bel).cell (p := ⟨sb, so + i * 4 + 3, none⟩) hsb).trans f3
    have Z8 : Hid (∀ g : Grown W, g.val.cell? ⟨Bx, 8, none⟩ = some (.bool b.all)) := fun g => (g.bel.cell hBW).trans (blk_cell b1 8 _ rfl)
    have z7 : ∀ g : Grown W, g.val.cell? ⟨Bx, 7, none⟩ = some (.int .i64 b.cl) := fun g => (g.bel.cell hBW).trans (blk_cell b1 7 _ rfl)
    have z9 : ∀ g : Grown W, g.val.cell? ⟨Bx, 9, none⟩ = some (.int .i64 b.be) := fun g => (g.bel.cell hBW).trans (blk_cell b1 9 _ rfl)
    have i0 : decide (0 ≤ (i : Int)) = true := by simp
    have i1 : (0 : Int) ≤ (i : Int) := by omega
    have i2 : (i : Int) < (l.ron : Int) := by omega
    have k1 : (0 : Int) ≤ (kk : Int) := by omega
    have k2 : (kk : Int) < (s.ca.n : Int) := by omega
    have HF : Hid (i < l.ron) := hf
    clear f0 f1 f2 f3 g0 g1 hf hkk
    by_cases ca : (l.ro i).all = b.all
    case neg =>
      have HN : Hid (¬ HoldR s l b) := fun h => by rcases h with h | h; exact HC.out h; exact ca (by rw [HI.out]; exact h.2.1)
      cases hba : b.all with
      | true =>
        have hra : (l.ro i).all = false := by cases hra : (l.ro i).all; rfl; rw [hra, hba] at ca; exact absurd rfl ca
        have q3 : ∀ g : Grown W, g.val.cell? ⟨sb, so + i * 4 + 3, none⟩ = some (.bool false) := fun g => by rw [Q3.out g, hra]
        have z8 : ∀ g : Grown W, g.val.cell? ⟨Bx, 8, none⟩ = some (.bool true) := fun g => by rw [Z8.out g, hba]
        clear ca hba hra
        refine wp_region_grow (by kernel_rfl) (by kernel_rfl) ?_
        repeat (first | go_big_quiet_skip | (go_big_quiet_want; go_big_quiet_op; go_big_quiet_on))
        refine wpQuiet_nil ?_
        rintro _ ⟨g, rfl⟩
        go_wp2
        go_ret
        exact ⟨says_no HN.out, after hbw g.bel⟩
      | false =>
        have hra : (l.ro i).all = true := by cases hra : (l.ro i).all; rw [hra, hba] at ca; exact absurd rfl ca; rfl
        have q3 : ∀ g : Grown W, g.val.cell? ⟨sb, so + i * 4 + 3, none⟩ = some (.bool true) := fun g => by rw [Q3.out g, hra]
        have z8 : ∀ g : Grown W, g.val.cell? ⟨Bx, 8, none⟩ = some (.bool false) := fun g => by rw [Z8.out g, hba]
        clear ca hba hra
        refine wp_region_grow (by kernel_rfl) (by kernel_rfl) ?_
        repeat (first | go_big_quiet_skip | (go_big_quiet_want; go_big_quiet_op; go_big_quiet_on))
        refine wpQuiet_nil ?_
        rintro _ ⟨g, rfl⟩
        go_wp2
        go_ret
        exact ⟨says_no HN.out, after hbw g.bel⟩
    have HAL : Hid ((l.ro i).all = b.all) := ca
    by_cases cc : s.ca.A kk = b.cl
    case neg =>
      have ec : (s.ca.A kk == b.cl) = false := by simpa using cc
      have HN : Hid (¬ HoldR s l b) := fun h => by rcases h with h | h; exact HC.out h; exact cc (by rw [← HK.out, HI.out]; exact h.2.2.2)
      cases hba : b.all with
      | true =>
        have q3 : ∀ g : Grown W, g.val.cell? ⟨sb, so + i * 4 + 3, none⟩ = some (.bool true) := fun g => by rw [Q3.out g, ca, hba]
        have z8 : ∀ g : Grown W, g.val.cell? ⟨Bx, 8, none⟩ = some (.bool true) := fun g => by rw [Z8.out g, hba]
        clear ca cc hba
        refine wp_region_grow (by kernel_rfl) (by kernel_rfl) ?_
        repeat (first | go_big_quiet_skip | (go_big_quiet_want; go_big_quiet_op; go_big_quiet_on))
        refine wpQuiet_nil ?_
        rintro _ ⟨g, rfl⟩
        go_wp2
        go_ret
        exact ⟨says_no HN.out, after hbw g.bel⟩
      | false =>
        have q3 : ∀ g : Grown W, g.val.cell? ⟨sb, so + i * 4 + 3, none⟩ = some (.bool false) := fun g => by rw [Q3.out g, ca, hba]
        have z8 : ∀ g : Grown W, g.val.cell? ⟨Bx, 8, none⟩ = some (.bool false) := fun g => by rw [Z8.out g, hba]
        clear ca cc hba
        by_cases cm : (l.ro i).many = b.be
        · have em : ((l.ro i).many == b.be) = true := by simpa using cm
          clear cm
          refine wp_region_grow (by kernel_rfl) (by kernel_rfl) ?_
          repeat (first | go_big_quiet_skip | (go_big_quiet_want; go_big_quiet_op; go_big_quiet_on))
          refine wpQuiet_nil ?_
          rintro _ ⟨g, rfl⟩
          go_wp2
          go_ret
          exact ⟨says_no HN.out, after hbw g.bel⟩
        · have em : ((l.ro i).many == b.be) = false := by simpa using cm
          clear cm
          refine wp_region_grow (by kernel_rfl) (by kernel_rfl) ?_
          repeat (first | go_big_quiet_skip | (go_big_quiet_want; go_big_quiet_op; go_big_quiet_on))
          refine wpQuiet_nil ?_
          rintro _ ⟨g, rfl⟩
          go_wp2
          go_ret
          exact ⟨says_no HN.out, after hbw g.bel⟩
    have ec : (s.ca.A kk == b.cl) = true := by simpa using cc
    cases hba : b.all with
    | true =>
      have HN : Hid (HoldR s l b) := .inr (by rw [← HI.out]; exact ⟨HF.out, HAL.out, .inl hba, by rw [HK.out]; exact cc⟩)
      have q3 : ∀ g : Grown W, g.val.cell? ⟨sb, so + i * 4 + 3, none⟩ = some (.bool true) := fun g => by rw [Q3.out g, ca, hba]
      have z8 : ∀ g : Grown W, g.val.cell? ⟨Bx, 8, none⟩ = some (.bool true) := fun g => by rw [Z8.out g, hba]
      clear ca cc hba
      refine wp_region_grow (by kernel_rfl) (by kernel_rfl) ?_
      repeat (first | go_big_quiet_skip | (go_big_quiet_want; go_big_quiet_op; go_big_quiet_on))
      refine wpQuiet_nil ?_
      rintro _ ⟨g, rfl⟩
      go_wp2
      go_ret
      exact ⟨says_yes HN.out, after hbw g.bel⟩
    | false =>
      have q3 : ∀ g : Grown W, g.val.cell? ⟨sb, so + i * 4 + 3, none⟩ = some (.bool false) := fun g => by rw [Q3.out g, ca, hba]
      have z8 : ∀ g : Grown W, g.val.cell? ⟨Bx, 8, none⟩ = some (.bool false) := fun g => by rw [Z8.out g, hba]
      by_cases cm : (l.ro i).many = b.be
      · have em : ((l.ro i).many == b.be) = true := by simpa using cm
        have HN : Hid (HoldR s l b) := .inr (by rw [← HI.out]; exact ⟨HF.out, HAL.out, .inr cm, by rw [HK.out]; exact cc⟩)
        clear ca cc hba cm
        refine wp_region_grow (by kernel_rfl) (by kernel_rfl) ?_
        repeat (first | go_big_quiet_skip | (go_big_quiet_want; go_big_quiet_op; go_big_quiet_on))
        refine wpQuiet_nil ?_
        rintro _ ⟨g, rfl⟩
        go_wp2
        go_ret
        exact ⟨says_yes HN.out, after hbw g.bel⟩
      · have em : ((l.ro i).many == b.be) = false := by simpa using cm
        have HN : Hid (¬ HoldR s l b) := fun h => by
          rcases h with h | h
          · exact HC.out h
          · rcases h.2.2.1 with h | h
            · rw [hba] at h; cases h
            · exact cm (by rw [HI.out]; exact h)
        clear ca cc hba cm
        refine wp_region_grow (by kernel_rfl) (by kernel_rfl) ?_
        repeat (first | go_big_quiet_skip | (go_big_quiet_want; go_big_quiet_op; go_big_quiet_on))
        refine wpQuiet_nil ?_
        rintro _ ⟨g, rfl⟩
        go_wp2
        go_ret
        exact ⟨says_no HN.out, after hbw g.bel⟩
end Go.Proofs.YtlelckbeoclhbaaGreat
