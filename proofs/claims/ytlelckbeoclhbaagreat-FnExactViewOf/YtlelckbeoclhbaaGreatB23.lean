/-
  OWN TEXT: SeatOf, HoldI, HasI, OnI.
-/
import Derived.Deep.LoopGhost
import Derived.Deep.DeepCutAuto
import Derived.Test.YtlelckbeoclhbaaGreatB21
import Derived.Test.YtlelckbeoclhbaaGreatB11
import Derived.Test.YtlelckbeoclhbaaGreatB17
import Derived.Test.YtlelckbeoclhbaaGreatB20
import Derived.Test.YtlelckbeoclhbaaGreatB22
import Derived.Test.YtlelckbeoclhbaaGreatB07
import Derived.Test.YtlelckbeoclhbaaGreatB06
import Derived.Test.YtlelckbeoclhbaaGreatB02
import Derived.Test.YtlelckbeoclhbaaGreatB00
set_option maxHeartbeats 12800000
set_option maxRecDepth 100000
namespace Go.Proofs.YtlelckbeoclhbaaGreat
open Go.RowKit
theorem seatOf1_any (a0 a1 x : Int) (pa : Nat) (w : World) (hp : w.cell? ⟨pa, 0, none⟩ = some (.int .i64 x)) :
    Calls Tryz.prog 177 #[.agg #[.int .i64 a0, .int .i64 a1], .pointer (some ⟨pa, 0, none⟩)] w fun e w' => e = .returned (.bool (a0 == x)) ∧ Below w.heap.size w w' := by
  have hlt := World.block_lt_of_cell? w _ hp
  have hne : ¬ pa = w.heap.size := by have : pa < w.heap.size := hlt; omega
  go_enter Tryz.func177, Tryz.ntmps177
  go_wp2
  go_ret
  exact ⟨rfl, push (Below.refl _ _) _⟩
theorem indexSeat_any (ao : Option Addr) (n c : Nat) (S : Nat → Seat) (x : Int) (pa : Nat) (w : World) (hn : n ≤ 1048576) (hz : SeatsAt w ao n S) (hp : w.cell? ⟨pa, 0, none⟩ = some (.int .i64 x)) :
    Calls Tryz.prog 176 #[.slice ao n c, .func (.func 177) #[] #[.pointer (some ⟨pa, 0, none⟩)]] w fun e w' => e = .returned (.int .i64 (ixAns (whoT S) x n)) ∧ Below w.heap.size w w' := by
  have hlt := World.block_lt_of_cell? w _ hp
  go_enter Tryz.func176, Tryz.ntmps176
  go_wp2
  go_loopw [5, 8] (fun _ i wr => ∃ k : Nat, k ≤ n ∧ i = .int .i64 k ∧ (∀ j, j < k → whoT S j ≠ x) ∧ Below w.heap.size w wr) (fun _ i _ => n - (intOf i).toNat)
  case atStart => exact ⟨0, Nat.zero_le _, rfl, fun j hj => by omega, Below.refl _ _⟩
  case round =>
    obtain ⟨k, hk, rfl, hall, hbel⟩ := hrel
    have HA : Hid (∀ j, j < k → whoT S j ≠ x) := hall
    clear hall
    by_cases hlt2 : k < n
    · obtain ⟨b, off, rfl, h0, h1⟩ := hz k hlt2
      have hb := World.block_lt_of_cell? w _ h0
      have c0 := (hbel.cell (p := ⟨b, off + k * 2, none⟩) hb).trans h0
      have c1 := (hbel.cell (p := ⟨b, off + k * 2 + 1, none⟩) hb).trans h1
      have HP : Hid (wr.cell? ⟨pa, 0, none⟩ = some (.int .i64 x)) := (hbel.cell (p := ⟨pa, 0, none⟩) hlt).trans hp
      clear h0 h1 hp
      by_cases he : whoT S k = x
      · have e1 : ((S k).who == x) = true := by unfold whoT at he; simpa using he
        have HF : Hid (ixAns (whoT S) x n = k) := by
          have : ixOf (whoT S) x n = k := ixOf_is hlt2 he HA.out
          unfold ixAns Hid
          rw [this, if_pos hlt2]
        clear he
        go_wp2_with (first | (go_at_call 177; refine (seatOf1_any _ _ x pa _ HP.out).mono ?_; rintro e w2 ⟨rfl, hb2⟩))
        go_ret
        exact ⟨by rw [HF.out]; rfl, after hbel hb2⟩
      · have e1 : ((S k).who == x) = false := by unfold whoT at he; simpa using he
        have HE : Hid (whoT S k ≠ x) := he
        clear he
        go_wp2_with (first | (go_at_call 177; refine (seatOf1_any _ _ x pa _ HP.out).mono ?_; rintro e w2 ⟨rfl, hb2⟩))
        go_roundw
        case rel => exact ⟨k + 1, by omega, by go_num, fun j hj => by
          by_cases e : j = k
          · subst e; exact HE.out
          · exact HA.out j (by omega), after hbel hb2⟩
        case measure => simp [intOf]; omega
    · obtain rfl : k = n := by omega
      have HF : Hid (ixAns (whoT S) x k = -1) := ixAns_no (not_has HA.out)
      go_wp2
      go_ret
      exact ⟨by rw [HF.out]; rfl, hbel⟩
theorem seatOf_any (ao : Option Addr) (n c : Nat) (S : Nat → Seat) (x : Int) (w : World) (hn : n ≤ 1048576) (hz : SeatsAt w ao n S) :
    Calls Tryz.prog 154 #[.slice ao n c, .int .i64 x] w fun e w' => e = .returned (.int .i64 (ixAns (whoT S) x n)) ∧ Below w.heap.size w w' := by
  have hb0 : Below w.heap.size w (w.alloc (.cells #[.int .i64 x] 3)) := push (Below.refl _ _) _
  have HZ : Hid (SeatsAt (w.alloc (.cells #[.int .i64 x] 3)) ao n S) := hz.below hb0
  have HP : Hid ((w.alloc (.cells #[.int .i64 x] 3)).cell? ⟨w.heap.size, 0, none⟩ = some (.int .i64 x)) := blk_cell (heap_alloc_new w _) 0 _ rfl
  have hmf : ∀ (fn : Fn) (first cap : Array Value) (w : World), (Instr.makeFunc fn first cap).run Tryz.prog w = .ok (.func fn first cap) w := fun _ _ _ _ => rfl
  go_enter Tryz.func154, Tryz.ntmps154
  go_wp2_with (first | (go_at_call 176; refine (indexSeat_any ao n c S x _ _ hn HZ.out HP.out).mono ?_; rintro e w2 ⟨rfl, hb2⟩))
  go_ret
  exact ⟨rfl, after hb0 hb2⟩
end Go.Proofs.YtlelckbeoclhbaaGreat

namespace Go.Proofs.YtlelckbeoclhbaaGreat
open Go.RowKit
theorem ixAns_pos {G : Nat → Int} {x : Int} {n : Nat} (h : ixOf G x n < n) : ixAns G x n = (ixOf G x n : Int) := by unfold ixAns; rw [if_pos h]
theorem ixAns_neg {G : Nat → Int} {x : Int} {n : Nat} (h : ¬ ixOf G x n < n) : ixAns G x n = -1 := ixAns_no (fun c => h ((has_iff G n x).1 c))
theorem holdsCar_any (b : Book) (alg : Option Addr) (clg : Nat) (l : Load) (ast : Option Addr) (cst : Nat) (w : World) (hn : l.stn ≤ 1048576) (hz : StaysAt w ast l.stn l.st) :
    Calls Tryz.prog 114 #[.slice ast l.stn cst, .agg #[.int .i64 b.name, .int .i64 b.who, .string b.own, .slice alg b.lgn clg, .int .i64 b.pe, .int .i64 b.len, .int .i64 b.hei, .int .i64 b.cl, .bool b.all, .int .i64 b.be, .int .i64 b.state, .int .i64 b.unt, .int .i64 b.price]] w fun e w' => SaysIf (HoldC l b) e ∧ Below w.heap.size w w' := by
  have HZ : Hid (StaysAt w ast l.stn l.st) := hz
  clear hz
  obtain ⟨c2, hc2⟩ : ∃ c, c = decide (¬ (b.len = 0 ∧ b.hei = 0)) := ⟨_, rfl⟩
  have H2 : Hid (c2 = decide (¬ (b.len = 0 ∧ b.hei = 0))) := hc2
  clear hc2
  have hb0 : Below w.heap.size w (w.alloc (.cells #[.int .i64 b.name, .int .i64 b.who, .string b.own, .slice alg b.lgn clg, .int .i64 b.pe, .int .i64 b.len, .int .i64 b.hei, .int .i64 b.cl, .bool b.all, .int .i64 b.be, .int .i64 b.state, .int .i64 b.unt, .int .i64 b.price] 72)) := push (Below.refl _ _) _
  have b0 := heap_alloc_new w (.cells #[.int .i64 b.name, .int .i64 b.who, .string b.own, .slice alg b.lgn clg, .int .i64 b.pe, .int .i64 b.len, .int .i64 b.hei, .int .i64 b.cl, .bool b.all, .int .i64 b.be, .int .i64 b.state, .int .i64 b.unt, .int .i64 b.price] 72)
  go_enter Tryz.func114, Tryz.ntmps114
  go_wp2_with fail
  generalize hBx : w.heap.size = Bx at b0 ⊢
  generalize w.alloc (.cells #[.int .i64 b.name, .int .i64 b.who, .string b.own, .slice alg b.lgn clg, .int .i64 b.pe, .int .i64 b.len, .int .i64 b.hei, .int .i64 b.cl, .bool b.all, .int .i64 b.be, .int .i64 b.state, .int .i64 b.unt, .int .i64 b.price] 72) = V at hb0 b0 ⊢
  have y4 := blk_cell b0 4 _ rfl
  have y5 := blk_cell b0 5 _ rfl
  have y6 := blk_cell b0 6 _ rfl
  have y7 := blk_cell b0 7 _ rfl
  have y8 := blk_cell b0 8 _ rfl
  have y9 := blk_cell b0 9 _ rfl
  refine (asksCar_any b.pe b.len b.hei b.cl b.all b.be _).mono ?_
  rw [← H2.out]
  rintro e V1 ⟨rfl, hbv⟩
  have b01 := blk_below b0 hbv
  have hb1 := after hb0 hbv
  clear y4 y5 y6 y7 y8 y9 b0 hb0 hbv
  cases c2 with
  | false =>
    have HN : Hid (HoldC l b) := .inl (by have := H2.out; simp at this; exact ⟨this.1, this.2⟩)
    go_wp2
    go_ret
    exact ⟨says_yes HN.out, hb1⟩
  | true =>
    have HC : Hid (¬ NoCar b) := by have := of_decide_eq_true H2.out.symm; exact fun h => this h
    clear H2
    have y1 := blk_cell b01 1 _ rfl
    go_upto_region 4 with (first | (go_at_call 124; refine (stayOf_any ast l.stn cst l.st b.who _ hn (HZ.out.below hb1)).mono ?_; rintro e W ⟨rfl, hbv⟩; have b1 := blk_below b01 hbv; have hbw := after hb1 hbv))
    have hBW : Bx < W.heap.size := blk_lt b1
    clear y1 b01 hbv hBx
    by_cases hf : ixOf (whoS l.st) b.who l.stn < l.stn
    case neg =>
      have e0 : decide (0 ≤ ixAns (whoS l.st) b.who l.stn) = false := by rw [ixAns_neg hf]; rfl
      have HN : Hid (¬ HoldC l b) := fun h => by rcases h with h | h; exact HC.out h; exact hf h.1
      clear hf
      generalize ixAns (whoS l.st) b.who l.stn = r at e0 ⊢
      refine wp_region_grow (by kernel_rfl) (by kernel_rfl) ?_
      repeat (first | go_big_quiet_skip | (go_big_quiet_want; go_big_quiet_op; go_big_quiet_on))
      refine wpQuiet_nil ?_
      rintro _ ⟨g, rfl⟩
      go_wp2
      go_ret
      exact ⟨says_no HN.out, after hbw g.bel⟩
    rw [ixAns_pos hf]
    obtain ⟨i, hi⟩ : ∃ i, i = ixOf (whoS l.st) b.who l.stn := ⟨_, rfl⟩
    rw [← hi] at hf ⊢
    have HI : Hid (i = ixOf (whoS l.st) b.who l.stn) := hi
    clear hi
    obtain ⟨sb, so, rfl, f0, f1, f2, f3⟩ := HZ.out i hf
    have hsb := World.block_lt_of_cell? w _ f0
    have q2 : ∀ g : Grown W, g.val.cell? ⟨sb, so + i * 4 + 2, none⟩ = some (.int .i64 (l.st i).len) := fun g => ((after hbw g.bel).cell (p := ⟨sb, so + i * 4 + 2, none⟩) hsb).trans f2
    have q3 : ∀ g : Grown W, g.val.cell? ⟨sb, so + i * 4 + 3, none⟩ = some (.int .i64 (l.st i).hei) := fun g => ((after hbw g.bel).cell (p := ⟨sb, so + i * 4 + 3, none⟩) hsb).trans f3
    have z5 : ∀ g : Grown W, g.val.cell? ⟨Bx, 5, none⟩ = some (.int .i64 b.len) := fun g => (g.bel.cell hBW).trans (blk_cell b1 5 _ rfl)
    have z6 : ∀ g : Grown W, g.val.cell? ⟨Bx, 6, none⟩ = some (.int .i64 b.hei) := fun g => (g.bel.cell hBW).trans (blk_cell b1 6 _ rfl)
    have i0 : decide (0 ≤ (i : Int)) = true := by simp
    have i1 : (0 : Int) ≤ (i : Int) := by omega
    have i2 : (i : Int) < (l.stn : Int) := by omega
    have HF : Hid (i < l.stn) := hf
    clear f0 f1 f2 f3 hf
    by_cases c1 : (l.st i).len = b.len
    case neg =>
      have e1 : ((l.st i).len == b.len) = false := by simpa using c1
      have HN : Hid (¬ HoldC l b) := fun h => by rcases h with h | h; exact HC.out h; exact c1 (by rw [HI.out]; exact h.2.1)
      clear c1
      refine wp_region_grow (by kernel_rfl) (by kernel_rfl) ?_
      repeat (first | go_big_quiet_skip | (go_big_quiet_want; go_big_quiet_op; go_big_quiet_on))
      refine wpQuiet_nil ?_
      rintro _ ⟨g, rfl⟩
      go_wp2
      go_ret
      exact ⟨says_no HN.out, after hbw g.bel⟩
    have e1 : ((l.st i).len == b.len) = true := by simpa using c1
    by_cases c2 : (l.st i).hei = b.hei
    case neg =>
      have e2 : ((l.st i).hei == b.hei) = false := by simpa using c2
      have HN : Hid (¬ HoldC l b) := fun h => by rcases h with h | h; exact HC.out h; exact c2 (by rw [HI.out]; exact h.2.2)
      clear c1 c2
      refine wp_region_grow (by kernel_rfl) (by kernel_rfl) ?_
      repeat (first | go_big_quiet_skip | (go_big_quiet_want; go_big_quiet_op; go_big_quiet_on))
      refine wpQuiet_nil ?_
      rintro _ ⟨g, rfl⟩
      go_wp2
      go_ret
      exact ⟨says_no HN.out, after hbw g.bel⟩
    have e2 : ((l.st i).hei == b.hei) = true := by simpa using c2
    have HN : Hid (HoldC l b) := .inr (by rw [← HI.out]; exact ⟨HF.out, c1, c2⟩)
    clear c1 c2
    refine wp_region_grow (by kernel_rfl) (by kernel_rfl) ?_
    repeat (first | go_big_quiet_skip | (go_big_quiet_want; go_big_quiet_op; go_big_quiet_on))
    refine wpQuiet_nil ?_
    rintro _ ⟨g, rfl⟩
    go_wp2
    go_ret
    exact ⟨says_yes HN.out, after hbw g.bel⟩
theorem holdsSeats_any (b : Book) (alg : Option Addr) (clg : Nat) (l : Load) (ase : Option Addr) (cse : Nat) (w : World) (hn : l.sen ≤ 1048576) (hz : SeatsAt w ase l.sen l.se) :
    Calls Tryz.prog 116 #[.slice ase l.sen cse, .agg #[.int .i64 b.name, .int .i64 b.who, .string b.own, .slice alg b.lgn clg, .int .i64 b.pe, .int .i64 b.len, .int .i64 b.hei, .int .i64 b.cl, .bool b.all, .int .i64 b.be, .int .i64 b.state, .int .i64 b.unt, .int .i64 b.price]] w fun e w' => SaysIf (HoldT l b) e ∧ Below w.heap.size w w' := by
  have HZ : Hid (SeatsAt w ase l.sen l.se) := hz
  clear hz
  have hb0 : Below w.heap.size w (w.alloc (.cells #[.int .i64 b.name, .int .i64 b.who, .string b.own, .slice alg b.lgn clg, .int .i64 b.pe, .int .i64 b.len, .int .i64 b.hei, .int .i64 b.cl, .bool b.all, .int .i64 b.be, .int .i64 b.state, .int .i64 b.unt, .int .i64 b.price] 72)) := push (Below.refl _ _) _
  have b0 := heap_alloc_new w (.cells #[.int .i64 b.name, .int .i64 b.who, .string b.own, .slice alg b.lgn clg, .int .i64 b.pe, .int .i64 b.len, .int .i64 b.hei, .int .i64 b.cl, .bool b.all, .int .i64 b.be, .int .i64 b.state, .int .i64 b.unt, .int .i64 b.price] 72)
  go_enter Tryz.func116, Tryz.ntmps116
  go_wp2_with fail
  generalize hBx : w.heap.size = Bx at b0 ⊢
  generalize w.alloc (.cells #[.int .i64 b.name, .int .i64 b.who, .string b.own, .slice alg b.lgn clg, .int .i64 b.pe, .int .i64 b.len, .int .i64 b.hei, .int .i64 b.cl, .bool b.all, .int .i64 b.be, .int .i64 b.state, .int .i64 b.unt, .int .i64 b.price] 72) = V at hb0 b0 ⊢
  have y1 := blk_cell b0 1 _ rfl
  refine (seatOf_any ase l.sen cse l.se b.who _ hn (HZ.out.below hb0)).mono ?_
  rintro e W ⟨rfl, hbv⟩
  have b1 := blk_below b0 hbv
  have hbw := after hb0 hbv
  have hBW : Bx < W.heap.size := blk_lt b1
  clear y1 b0 hbv hBx
  by_cases hf : ixOf (whoT l.se) b.who l.sen < l.sen
  case neg =>
    have e0 : decide (0 ≤ ixAns (whoT l.se) b.who l.sen) = false := by rw [ixAns_neg hf]; rfl
    have HN : Hid (¬ HoldT l b) := fun h => hf h.1
    clear hf
    generalize ixAns (whoT l.se) b.who l.sen = r at e0 ⊢
    go_upto_region 2 with fail
    refine wp_region_grow (by kernel_rfl) (by kernel_rfl) ?_
    repeat (first | go_big_quiet_skip | (go_big_quiet_want; go_big_quiet_op; go_big_quiet_on))
    refine wpQuiet_nil ?_
    rintro _ ⟨g, rfl⟩
    go_wp2
    go_ret
    exact ⟨says_no HN.out, after hbw g.bel⟩
  rw [ixAns_pos hf]
  obtain ⟨i, hi⟩ : ∃ i, i = ixOf (whoT l.se) b.who l.sen := ⟨_, rfl⟩
  rw [← hi] at hf ⊢
  have HI : Hid (i = ixOf (whoT l.se) b.who l.sen) := hi
  clear hi
  obtain ⟨sb, so, rfl, f0, f1⟩ := HZ.out i hf
  have hsb := World.block_lt_of_cell? w _ f0
  have q1 : ∀ g : Grown W, g.val.cell? ⟨sb, so + i * 2 + 1, none⟩ = some (.int .i64 (l.se i).many) := fun g => ((after hbw g.bel).cell (p := ⟨sb, so + i * 2 + 1, none⟩) hsb).trans f1
  have z4 : ∀ g : Grown W, g.val.cell? ⟨Bx, 4, none⟩ = some (.int .i64 b.pe) := fun g => (g.bel.cell hBW).trans (blk_cell b1 4 _ rfl)
  have i0 : decide (0 ≤ (i : Int)) = true := by simp
  have i1 : (0 : Int) ≤ (i : Int) := by omega
  have i2 : (i : Int) < (l.sen : Int) := by omega
  have HF : Hid (i < l.sen) := hf
  clear f0 f1 hf
  by_cases c1 : (l.se i).many = b.pe
  case neg =>
    have e1 : ((l.se i).many == b.pe) = false := by simpa using c1
    have HN : Hid (¬ HoldT l b) := fun h => c1 (by rw [HI.out]; exact h.2)
    clear c1
    go_upto_region 2 with fail
    refine wp_region_grow (by kernel_rfl) (by kernel_rfl) ?_
    repeat (first | go_big_quiet_skip | (go_big_quiet_want; go_big_quiet_op; go_big_quiet_on))
    refine wpQuiet_nil ?_
    rintro _ ⟨g, rfl⟩
    go_wp2
    go_ret
    exact ⟨says_no HN.out, after hbw g.bel⟩
  have e1 : ((l.se i).many == b.pe) = true := by simpa using c1
  have HN : Hid (HoldT l b) := by show HoldT l b; unfold HoldT; rw [← HI.out]; exact ⟨HF.out, c1⟩
  clear c1
  go_upto_region 2 with fail
  refine wp_region_grow (by kernel_rfl) (by kernel_rfl) ?_
  repeat (first | go_big_quiet_skip | (go_big_quiet_want; go_big_quiet_op; go_big_quiet_on))
  refine wpQuiet_nil ?_
  rintro _ ⟨g, rfl⟩
  go_wp2
  go_ret
  exact ⟨says_yes HN.out, after hbw g.bel⟩
theorem holdsCabin_any (b : Book) (alg : Option Addr) (clg : Nat) (s : Sail) (l : Load) (aca aro : Option Addr) (cca cro : Nat) (w : World) (hn : l.ron ≤ 1048576) (hcab : ∀ j, j < l.ron → 0 ≤ (l.ro j).cab ∧ (l.ro j).cab < s.ca.n) (hx : PairsAt w aca s.ca) (hz : RoomsAt w aro l.ron l.ro) :
    Calls Tryz.prog 115 #[.slice aca s.ca.n cca, .slice aro l.ron cro, .agg #[.int .i64 b.name, .int .i64 b.who, .string b.own, .slice alg b.lgn clg, .int .i64 b.pe, .int .i64 b.len, .int .i64 b.hei, .int .i64 b.cl, .bool b.all, .int .i64 b.be, .int .i64 b.state, .int .i64 b.unt, .int .i64 b.price]] w fun e w' => SaysIf (HoldR s l b) e ∧ Below w.heap.size w w' := by
  have HZ : Hid (RoomsAt w aro l.ron l.ro) := hz
  have HX : Hid (PairsAt w aca s.ca) := hx
  have HCB : Hid (∀ j, j < l.ron → 0 ≤ (l.ro j).cab ∧ (l.ro j).cab < s.ca.n) := hcab
  clear hz hx hcab
  obtain ⟨c2, hc2⟩ : ∃ c, c = decide (¬ (b.cl = 0 ∧ b.all = false ∧ b.be = 0)) := ⟨_, rfl⟩
  have H2 : Hid (c2 = decide (¬ (b.cl = 0 ∧ b.all = false ∧ b.be = 0))) := hc2
  clear hc2
  have hb0 : Below w.heap.size w (w.alloc (.cells #[.int .i64 b.name, .int .i64 b.who, .string b.own, .slice alg b.lgn clg, .int .i64 b.pe, .int .i64 b.len, .int .i64 b.hei, .int .i64 b.cl, .bool b.all, .int .i64 b.be, .int .i64 b.state, .int .i64 b.unt, .int .i64 b.price] 72)) := push (Below.refl _ _) _
  have b0 := heap_alloc_new w (.cells #[.int .i64 b.name, .int .i64 b.who, .string b.own, .slice alg b.lgn clg, .int .i64 b.pe, .int .i64 b.len, .int .i64 b.hei, .int .i64 b.cl, .bool b.all, .int .i64 b.be, .int .i64 b.state, .int .i64 b.unt, .int .i64 b.price] 72)
  go_enter Tryz.func115, Tryz.ntmps115
  go_wp2_with fail
  generalize hBx : w.heap.size = Bx at b0 ⊢
  generalize w.alloc (.cells #[.int .i64 b.name, .int .i64 b.who, .string b.own, .slice alg b.lgn clg, .int .i64 b.pe, .int .i64 b.len, .int .i64 b.hei, .int .i64 b.cl, .bool b.all, .int .i64 b.be, .int .i64 b.state, .int .i64 b.unt, .int .i64 b.price] 72) = V at hb0 b0 ⊢
  have y4 := blk_cell b0 4 _ rfl
  have y5 := blk_cell b0 5 _ rfl
  have y6 := blk_cell b0 6 _ rfl
  have y7 := blk_cell b0 7 _ rfl
  have y8 := blk_cell b0 8 _ rfl
  have y9 := blk_cell b0 9 _ rfl
  refine (asksCabin_any b.pe b.len b.hei b.cl b.all b.be _).mono ?_
  rw [← H2.out]
  rintro e V1 ⟨rfl, hbv⟩
  have b01 := blk_below b0 hbv
  have hb1 := after hb0 hbv
  clear y4 y5 y6 y7 y8 y9 b0 hb0 hbv
  cases c2 with
  | false =>
    have HN : Hid (HoldR s l b) := .inl (by have := H2.out; simp at this; exact ⟨this.1, this.2.1, this.2.2⟩)
    go_wp2
    go_ret
    exact ⟨says_yes HN.out, hb1⟩
  | true =>
    have HC : Hid (¬ NoCab b) := by have := of_decide_eq_true H2.out.symm; exact fun h => this h
    clear H2
    have y1 := blk_cell b01 1 _ rfl
    go_upto_region 4 with (first | (go_at_call 125; refine (roomOf_any aro l.ron cro l.ro b.who _ hn (HZ.out.below hb1)).mono ?_; rintro e W ⟨rfl, hbv⟩; have b1 := blk_below b01 hbv; have hbw := after hb1 hbv))
    have hBW : Bx < W.heap.size := blk_lt b1
    clear y1 b01 hbv hBx
    by_cases hf : ixOf (whoR l.ro) b.who l.ron < l.ron
    case neg =>
      have e0 : decide (0 ≤ ixAns (whoR l.ro) b.who l.ron) = false := by rw [ixAns_neg hf]; rfl
      have HN : Hid (¬ HoldR s l b) := fun h => by rcases h with h | h; exact HC.out h; exact hf h.1
      clear hf
      generalize ixAns (whoR l.ro) b.who l.ron = r at e0 ⊢
      refine wp_region_grow (by kernel_rfl) (by kernel_rfl) ?_
      repeat (first | go_big_quiet_skip | (go_big_quiet_want; go_big_quiet_op; go_big_quiet_on))
      refine wpQuiet_nil ?_
      rintro _ ⟨g, rfl⟩
      go_wp2
      go_ret
      exact ⟨says_no HN.out, after hbw g.bel⟩
    rw [ixAns_pos hf]
    obtain ⟨i, hi⟩ : ∃ i, i = ixOf (whoR l.ro) b.who l.ron := ⟨_, rfl⟩
    rw [← hi] at hf ⊢
    have HI : Hid (i = ixOf (whoR l.ro) b.who l.ron) := hi
    clear hi
    obtain ⟨kk, hkk⟩ : ∃ k : Nat, (l.ro i).cab = (k : Int) := ⟨(l.ro i).cab.toNat, by have := HCB.out i hf; omega⟩
    have hk3 : kk < s.ca.n := by have := HCB.out i hf; omega
    have HK : Hid ((l.ro i).cab.toNat = kk) := by show (l.ro i).cab.toNat = kk; omega
    obtain ⟨sb, so, rfl, f0, f1, f2, f3⟩ := HZ.out i hf
    obtain ⟨xb, xo, rfl, g0, g1⟩ := HX.out kk hk3
    have hsb := World.block_lt_of_cell? w _ f0
    have hxb := World.block_lt_of_cell? w _ g0
    have q1 : ∀ g : Grown W, g.val.cell? ⟨sb, so + i * 4 + 1, none⟩ = some (.int .i64 (kk : Int)) := fun g => ((after hbw g.bel).cell (p := ⟨sb, so + i * 4 + 1, none⟩) hsb).trans (by rw [f1, hkk])
    have q2 : ∀ g : Grown W, g.val.cell? ⟨sb, so + i * 4 + 2, none⟩ = some (.int .i64 (l.ro i).many) := fun g => ((after hbw g.bel).cell (p := ⟨sb, so + i * 4 + 2, none⟩) hsb).trans f2
    have p0 : ∀ g : Grown W, g.val.cell? ⟨xb, xo + kk * 2, none⟩ = some (.int .i64 (s.ca.A kk)) := fun g => ((after hbw g.bel).cell (p := ⟨xb, xo + kk * 2, none⟩) hxb).trans g0
    have Q3 : Hid (∀ g : Grown W, g.val.cell? ⟨sb, so + i * 4 + 3, none⟩ = some (.bool (l.ro i).all)) := fun g => ((after hbw g.bel).cell (p := ⟨sb, so + i * 4 + 3, none⟩) hsb).trans f3
    have Z8 : Hid (∀ g : Grown W, g.val.cell? ⟨Bx, 8, none⟩ = some (.bool b.all)) := fun g => (g.bel.cell hBW).trans (blk_cell b1 8 _ rfl)
    have z7 : ∀ g : Grown W, g.val.cell? ⟨Bx, 7, none⟩ = some (.int .i64 b.cl) := fun g => (g.bel.cell hBW).trans (blk_cell b1 7 _ rfl)
    have z9 : ∀ g : Grown W, g.val.cell? ⟨Bx, 9, none⟩ = some (.int .i64 b.be) := fun g => (g.bel.cell hBW).trans (blk_cell b1 9 _ rfl)
    have i0 : decide (0 ≤ (i : Int)) = true := by simp
    have i1 : (0 : Int) ≤ (i : Int) := by omega
    have i2 : (i : Int) < (l.ron : Int) := by omega
    have k1 : (0 : Int) ≤ (kk : Int) := by omega
    have k2 : (kk : Int) < (s.ca.n : Int) := by omega
    have HF : Hid (i < l.ron) := hf
    clear f0 f1 f2 f3 g0 g1 hf hkk
    by_cases ca : (l.ro i).all = b.all
    case neg =>
      have HN : Hid (¬ HoldR s l b) := fun h => by rcases h with h | h; exact HC.out h; exact ca (by rw [HI.out]; exact h.2.1)
      cases hba : b.all with
      | true =>
        have hra : (l.ro i).all = false := by cases hra : (l.ro i).all; rfl; rw [hra, hba] at ca; exact absurd rfl ca
        have q3 : ∀ g : Grown W, g.val.cell? ⟨sb, so + i * 4 + 3, none⟩ = some (.bool false) := fun g => by rw [Q3.out g, hra]
        have z8 : ∀ g : Grown W, g.val.cell? ⟨Bx, 8, none⟩ = some (.bool true) := fun g => by rw [Z8.out g, hba]
        clear ca hba hra
        refine wp_region_grow (by kernel_rfl) (by kernel_rfl) ?_
        repeat (first | go_big_quiet_skip | (go_big_quiet_want; go_big_quiet_op; go_big_quiet_on))
        refine wpQuiet_nil ?_
        rintro _ ⟨g, rfl⟩
        go_wp2
        go_ret
        exact ⟨says_no HN.out, after hbw g.bel⟩
      | false =>
        have hra : (l.ro i).all = true := by cases hra : (l.ro i).all; rw [hra, hba] at ca; exact absurd rfl ca; rfl
        have q3 : ∀ g : Grown W, g.val.cell? ⟨sb, so + i * 4 + 3, none⟩ = some (.bool true) := fun g => by rw [Q3.out g, hra]
        have z8 : ∀ g : Grown W, g.val.cell? ⟨Bx, 8, none⟩ = some (.bool false) := fun g => by rw [Z8.out g, hba]
        clear ca hba hra
        refine wp_region_grow (by kernel_rfl) (by kernel_rfl) ?_
        repeat (first | go_big_quiet_skip | (go_big_quiet_want; go_big_quiet_op; go_big_quiet_on))
        refine wpQuiet_nil ?_
        rintro _ ⟨g, rfl⟩
        go_wp2
        go_ret
        exact ⟨says_no HN.out, after hbw g.bel⟩
    have HAL : Hid ((l.ro i).all = b.all) := ca
    by_cases cc : s.ca.A kk = b.cl
    case neg =>
      have ec : (s.ca.A kk == b.cl) = false := by simpa using cc
      have HN : Hid (¬ HoldR s l b) := fun h => by rcases h with h | h; exact HC.out h; exact cc (by rw [← HK.out, HI.out]; exact h.2.2.2)
      cases hba : b.all with
      | true =>
        have q3 : ∀ g : Grown W, g.val.cell? ⟨sb, so + i * 4 + 3, none⟩ = some (.bool true) := fun g => by rw [Q3.out g, ca, hba]
        have z8 : ∀ g : Grown W, g.val.cell? ⟨Bx, 8, none⟩ = some (.bool true) := fun g => by rw [Z8.out g, hba]
        clear ca cc hba
        refine wp_region_grow (by kernel_rfl) (by kernel_rfl) ?_
        repeat (first | go_big_quiet_skip | (go_big_quiet_want; go_big_quiet_op; go_big_quiet_on))
        refine wpQuiet_nil ?_
        rintro _ ⟨g, rfl⟩
        go_wp2
        go_ret
        exact ⟨says_no HN.out, after hbw g.bel⟩
      | false =>
        have q3 : ∀ g : Grown W, g.val.cell? ⟨sb, so + i * 4 + 3, none⟩ = some (.bool false) := fun g => by rw [Q3.out g, ca, hba]
        have z8 : ∀ g : Grown W, g.val.cell? ⟨Bx, 8, none⟩ = some (.bool false) := fun g => by rw [Z8.out g, hba]
        clear ca cc hba
        by_cases cm : (l.ro i).many = b.be
        · have em : ((l.ro i).many == b.be) = true := by simpa using cm
          clear cm
          refine wp_region_grow (by kernel_rfl) (by kernel_rfl) ?_
          repeat (first | go_big_quiet_skip | (go_big_quiet_want; go_big_quiet_op; go_big_quiet_on))
          refine wpQuiet_nil ?_
          rintro _ ⟨g, rfl⟩
          go_wp2
          go_ret
          exact ⟨says_no HN.out, after hbw g.bel⟩
        · have em : ((l.ro i).many == b.be) = false := by simpa using cm
          clear cm
          refine wp_region_grow (by kernel_rfl) (by kernel_rfl) ?_
          repeat (first | go_big_quiet_skip | (go_big_quiet_want; go_big_quiet_op; go_big_quiet_on))
          refine wpQuiet_nil ?_
          rintro _ ⟨g, rfl⟩
          go_wp2
          go_ret
          exact ⟨says_no HN.out, after hbw g.bel⟩
    have ec : (s.ca.A kk == b.cl) = true := by simpa using cc
    cases hba : b.all with
    | true =>
      have HN : Hid (HoldR s l b) := .inr (by rw [← HI.out]; exact ⟨HF.out, HAL.out, .inl hba, by rw [HK.out]; exact cc⟩)
      have q3 : ∀ g : Grown W, g.val.cell? ⟨sb, so + i * 4 + 3, none⟩ = some (.bool true) := fun g => by rw [Q3.out g, ca, hba]
      have z8 : ∀ g : Grown W, g.val.cell? ⟨Bx, 8, none⟩ = some (.bool true) := fun g => by rw [Z8.out g, hba]
      clear ca cc hba
      refine wp_region_grow (by kernel_rfl) (by kernel_rfl) ?_
      repeat (first | go_big_quiet_skip | (go_big_quiet_want; go_big_quiet_op; go_big_quiet_on))
      refine wpQuiet_nil ?_
      rintro _ ⟨g, rfl⟩
      go_wp2
      go_ret
      exact ⟨says_yes HN.out, after hbw g.bel⟩
    | false =>
      have q3 : ∀ g : Grown W, g.val.cell? ⟨sb, so + i * 4 + 3, none⟩ = some (.bool false) := fun g => by rw [Q3.out g, ca, hba]
      have z8 : ∀ g : Grown W, g.val.cell? ⟨Bx, 8, none⟩ = some (.bool false) := fun g => by rw [Z8.out g, hba]
      by_cases cm : (l.ro i).many = b.be
      · have em : ((l.ro i).many == b.be) = true := by simpa using cm
        have HN : Hid (HoldR s l b) := .inr (by rw [← HI.out]; exact ⟨HF.out, HAL.out, .inr cm, by rw [HK.out]; exact cc⟩)
        clear ca cc hba cm
        refine wp_region_grow (by kernel_rfl) (by kernel_rfl) ?_
        repeat (first | go_big_quiet_skip | (go_big_quiet_want; go_big_quiet_op; go_big_quiet_on))
        refine wpQuiet_nil ?_
        rintro _ ⟨g, rfl⟩
        go_wp2
        go_ret
        exact ⟨says_yes HN.out, after hbw g.bel⟩
      · have em : ((l.ro i).many == b.be) = false := by simpa using cm
        have HN : Hid (¬ HoldR s l b) := fun h => by
          rcases h with h | h
          · exact HC.out h
          · rcases h.2.2.1 with h | h
            · rw [hba] at h; cases h
            · exact cm (by rw [HI.out]; exact h)
        clear ca cc hba cm
        refine wp_region_grow (by kernel_rfl) (by kernel_rfl) ?_
        repeat (first | go_big_quiet_skip | (go_big_quiet_want; go_big_quiet_op; go_big_quiet_on))
        refine wpQuiet_nil ?_
        rintro _ ⟨g, rfl⟩
        go_wp2
        go_ret
        exact ⟨says_no HN.out, after hbw g.bel⟩
end Go.Proofs.YtlelckbeoclhbaaGreat

namespace Go.Proofs.YtlelckbeoclhbaaGreat
open Go.RowKit
theorem indexInt_any (ao : Option Addr) (n c : Nat) (G : Nat → Int) (x : Int) (w : World) (hn : n ≤ 1048576) (hz : IntsAt w ao n G) :
    Calls Tryz.prog 155 #[.slice ao n c, .int .i64 x] w fun e w' => e = .returned (.int .i64 (ixAns G x n)) ∧ w' = w := by
  go_enter Tryz.func155, Tryz.ntmps155
  go_wp2
  go_loopw [5, 8] (fun _ i wr => ∃ k : Nat, k ≤ n ∧ i = .int .i64 k ∧ (∀ j, j < k → G j ≠ x) ∧ wr = w) (fun _ i _ => n - (intOf i).toNat)
  case atStart => exact ⟨0, Nat.zero_le _, rfl, fun j hj => by omega, rfl⟩
  case round =>
    obtain ⟨k, hk, rfl, hall, rfl⟩ := hrel
    have HA : Hid (∀ j, j < k → G j ≠ x) := hall
    clear hall
    by_cases hlt2 : k < n
    · obtain ⟨b, off, rfl, h0⟩ := hz k hlt2
      by_cases he : G k = x
      · have e1 : (x == G k) = true := by rw [he]; simp
        have HF : Hid (ixAns G x n = k) := by
          have : ixOf G x n = k := ixOf_is hlt2 he HA.out
          unfold ixAns Hid
          rw [this, if_pos hlt2]
        clear he
        go_wp2
        go_ret
        exact ⟨by rw [HF.out]; rfl, rfl⟩
      · have e1 : (x == G k) = false := by simpa using fun h => he h.symm
        have HE : Hid (G k ≠ x) := he
        clear he
        go_wp2
        go_roundw
        case rel => exact ⟨k + 1, by omega, by go_num, fun j hj => by
          by_cases e : j = k
          · subst e; exact HE.out
          · exact HA.out j (by omega), trivial⟩
        case measure => simp [intOf]; omega
    · obtain rfl : k = n := by omega
      have HF : Hid (ixAns G x k = -1) := ixAns_no (not_has HA.out)
      go_wp2
      go_ret
      exact ⟨by rw [HF.out]; rfl, rfl⟩
theorem hasInt_any (ao : Option Addr) (n c : Nat) (G : Nat → Int) (x : Int) (w : World) (hn : n ≤ 1048576) (hz : IntsAt w ao n G) :
    Calls Tryz.prog 120 #[.slice ao n c, .int .i64 x] w fun e w' => SaysIf (Has G n x) e ∧ w' = w := by
  obtain ⟨r, hr⟩ : ∃ r, r = ixAns G x n := ⟨_, rfl⟩
  have HR : Hid (r = ixAns G x n) := hr
  clear hr
  go_enter Tryz.func120, Tryz.ntmps120
  go_wp2_with fail
  refine (indexInt_any ao n c G x _ hn hz).mono ?_
  rw [← HR.out]
  rintro e w1 ⟨rfl, hw⟩
  have hw := hw.symm
  subst hw
  by_cases h : Has G n x
  · have e1 : decide (0 ≤ r) = true := by rw [HR.out]; unfold ixAns; rw [if_pos ((has_iff _ _ _).1 h)]; simp
    have HH : Hid (Has G n x) := h
    clear h
    go_wp2
    go_ret
    exact ⟨says_yes HH.out, rfl⟩
  · have e1 : decide (0 ≤ r) = false := by rw [HR.out, ixAns_no h]; rfl
    have HH : Hid (¬ Has G n x) := h
    clear h
    go_wp2
    go_ret
    exact ⟨says_no HH.out, rfl⟩
theorem isLive_any (b : Book) (alg : Option Addr) (clg : Nat) (w : World) :
    Calls Tryz.prog 119 #[.agg #[.int .i64 b.name, .int .i64 b.who, .string b.own, .slice alg b.lgn clg, .int .i64 b.pe, .int .i64 b.len, .int .i64 b.hei, .int .i64 b.cl, .bool b.all, .int .i64 b.be, .int .i64 b.state, .int .i64 b.unt, .int .i64 b.price]] w fun e w' => SaysIf (Live b) e ∧ Below w.heap.size w w' := by
  by_cases s1 : b.state = 1
  · have e1 : (b.state == 1) = true := by simpa using s1
    have HL : Hid (Live b) := .inl s1
    clear s1
    go_enter Tryz.func119, Tryz.ntmps119
    go_wp2
    go_ret
    exact ⟨says_yes HL.out, push (Below.refl _ _) _⟩
  · have e1 : (b.state == 1) = false := by simpa using s1
    by_cases s2 : b.state = 2
    · have e2 : (b.state == 2) = true := by simpa using s2
      have HL : Hid (Live b) := .inr s2
      clear s1 s2
      go_enter Tryz.func119, Tryz.ntmps119
      go_wp2
      go_ret
      exact ⟨says_yes HL.out, push (Below.refl _ _) _⟩
    · have e2 : (b.state == 2) = false := by simpa using s2
      have HL : Hid (¬ Live b) := by intro h; rcases h with h | h; exact s1 h; exact s2 h
      clear s1 s2
      go_enter Tryz.func119, Tryz.ntmps119
      go_wp2
      go_ret
      exact ⟨says_no HL.out, push (Below.refl _ _) _⟩
end Go.Proofs.YtlelckbeoclhbaaGreat

namespace Go.Proofs.YtlelckbeoclhbaaGreat
open Go.RowKit
def OnB (b : Book) (z : Int) : Prop := Live b ∧ HasLeg b z
theorem hasLeg_iff (b : Book) (z : Int) : Has b.lg b.lgn z ↔ HasLeg b z := Iff.rfl
theorem on1_any (b : Book) (alg : Option Addr) (clg : Nat) (z : Int) (pa : Nat) (w : World) (hl : b.lgn ≤ 1048576) (hy : IntsAt w alg b.lgn b.lg) (hp : w.cell? ⟨pa, 0, none⟩ = some (.int .i64 z)) :
    Calls Tryz.prog 118 #[.agg #[.int .i64 b.name, .int .i64 b.who, .string b.own, .slice alg b.lgn clg, .int .i64 b.pe, .int .i64 b.len, .int .i64 b.hei, .int .i64 b.cl, .bool b.all, .int .i64 b.be, .int .i64 b.state, .int .i64 b.unt, .int .i64 b.price], .pointer (some ⟨pa, 0, none⟩)] w fun e w' => SaysIf (OnB b z) e ∧ Below w.heap.size w w' := by
  have hlt : pa < w.heap.size := World.block_lt_of_cell? w _ hp
  have HLG : Hid (IntsAt w alg b.lgn b.lg) := hy
  clear hy
  have hb0 : Below w.heap.size w (w.alloc (.cells #[.int .i64 b.name, .int .i64 b.who, .string b.own, .slice alg b.lgn clg, .int .i64 b.pe, .int .i64 b.len, .int .i64 b.hei, .int .i64 b.cl, .bool b.all, .int .i64 b.be, .int .i64 b.state, .int .i64 b.unt, .int .i64 b.price] 72)) := push (Below.refl _ _) _
  have b0 := heap_alloc_new w (.cells #[.int .i64 b.name, .int .i64 b.who, .string b.own, .slice alg b.lgn clg, .int .i64 b.pe, .int .i64 b.len, .int .i64 b.hei, .int .i64 b.cl, .bool b.all, .int .i64 b.be, .int .i64 b.state, .int .i64 b.unt, .int .i64 b.price] 72)
  go_enter Tryz.func118, Tryz.ntmps118
  go_wp2_with fail
  generalize w.alloc (.cells #[.int .i64 b.name, .int .i64 b.who, .string b.own, .slice alg b.lgn clg, .int .i64 b.pe, .int .i64 b.len, .int .i64 b.hei, .int .i64 b.cl, .bool b.all, .int .i64 b.be, .int .i64 b.state, .int .i64 b.unt, .int .i64 b.price] 72) = W at hb0 b0 ⊢
  refine (isLive_any b alg clg _).mono ?_
  rintro e w1 ⟨⟨t, rfl, ht⟩, hb1⟩
  have HT : Hid (t = true ↔ Live b) := ht
  have b1 := blk_below b0 hb1
  have hbw := after hb0 hb1
  have p1 := (hbw.cell hlt).trans hp
  clear ht b0 hb0 hb1 hp
  cases t with
  | false =>
    have HN : Hid (¬ OnB b z) := fun h => by have := HT.out.2 h.1; cases this
    go_wp2
    go_ret
    exact ⟨says_no HN.out, hbw⟩
  | true =>
    have HL : Hid (Live b) := HT.out.1 rfl
    have y3 := blk_cell b1 3 _ rfl
    clear HT
    go_wp2_with fail
    refine (hasInt_any alg b.lgn clg b.lg z _ hl (HLG.out.below hbw)).mono ?_
    rintro e w2 ⟨⟨u, rfl, hu⟩, hw⟩
    have hw := hw.symm
    subst hw
    have HU : Hid (u = true ↔ HasLeg b z) := hu
    clear hu
    cases u with
    | false =>
      have HN : Hid (¬ OnB b z) := fun h => by have := HU.out.2 h.2; cases this
      go_wp2
      go_ret
      exact ⟨says_no HN.out, hbw⟩
    | true =>
      have HN : Hid (OnB b z) := ⟨HL.out, HU.out.1 rfl⟩
      go_wp2
      go_ret
      exact ⟨says_yes HN.out, hbw⟩
noncomputable def onRow (C : Nat → List Value) (P : Nat → Prop) (n : Nat) : List Value := (List.range ((onL P n).length * 13)).map (recCell 13 (fun j => C (onI P n j)))
theorem recRow_snoc (sz : Nat) (C : Nat → List Value) (m : Nat) (v : List Value) (hv : v.length = sz) (hC : C m = v) : (List.range ((m + 1) * sz)).map (recCell sz C) = (List.range (m * sz)).map (recCell sz C) ++ v := by
  apply List.ext_getElem?
  intro i
  rw [List.getElem?_append, List.length_map, List.length_range]
  by_cases h1 : i < m * sz
  · rw [if_pos h1, List.getElem?_map, List.getElem?_map, List.getElem?_range h1, List.getElem?_range (by rw [Nat.add_mul]; omega)]
  · rw [if_neg h1]
    by_cases h2 : i < (m + 1) * sz
    · have h3 : i - m * sz < sz := by rw [Nat.add_mul] at h2; omega
      rw [List.getElem?_map, List.getElem?_range h2, Option.map_some]
      rw [show i = m * sz + (i - m * sz) by omega, recCell_at sz C m _ h3, hC, show m * sz + (i - m * sz) - m * sz = i - m * sz by omega, List.getD_eq_getElem?_getD, List.getElem?_eq_getElem (by omega)]
      rfl
    · rw [List.getElem?_eq_none (by simp; omega), List.getElem?_eq_none (by rw [Nat.add_mul] at h2; omega)]
theorem onRow_yes {C : Nat → List Value} {P : Nat → Prop} {n : Nat} (h : P n) (hv : (C n).length = 13) : onRow C P (n + 1) = onRow C P n ++ C n := by
  unfold onRow
  rw [show (onL P (n + 1)).length = (onL P n).length + 1 by rw [onL_yes h]; simp]
  rw [recRow_snoc 13 _ _ (C n) hv (by rw [onI_last P h])]
  congr 1
  refine List.map_congr_left fun j hj => ?_
  have hj' : j < (onL P n).length * 13 := by simpa using hj
  unfold recCell
  dsimp only
  rw [onI_old P (show j / 13 < (onL P n).length by omega)]
theorem onRow_no {C : Nat → List Value} {P : Nat → Prop} {n : Nat} (h : ¬ P n) : onRow C P (n + 1) = onRow C P n := by
  unfold onRow
  rw [onL_no h]
  refine List.map_congr_left fun j hj => ?_
  have hj' : j < (onL P n).length * 13 := by simpa using hj
  unfold recCell
  dsimp only
  rw [onI_old P (show j / 13 < (onL P n).length by omega)]
theorem onL_le (P : Nat → Prop) (n : Nat) : (onL P n).length ≤ n := by rw [onL_len]; exact cnt_le P n
theorem RecsAt.of_own {w : World} {base t sz n c : Nat} {ao : Option Addr} {C : Nat → List Value} (h : w.ownsRow base t sz (.slice ao n c) n ((List.range (n * sz)).map (recCell sz C))) : RecsAt w ao n sz C := by
  intro k hk
  obtain ⟨g, rfl, _, _⟩ := own_addr h (by omega)
  refine ⟨g, 0, rfl, fun j hj => ?_⟩
  have hlt : k * sz + j < n * sz := by
    have h1 : (k + 1) * sz ≤ n * sz := Nat.mul_le_mul_right sz hk
    rw [Nat.add_mul] at h1
    omega
  rw [Nat.zero_add, own_cell h _ hlt rfl, recCell_at sz C k j hj]
def OnAns (w' : World) (base : Nat) (n : Nat) (S : Nat → Book) (C : Nat → List Value) (z : Int) (e : Ending) : Prop :=
  ∃ ao c, e = .returned (.slice ao (onL (fun i => OnB (S i) z) n).length c) ∧ (onL (fun i => OnB (S i) z) n).length ≤ c ∧ w'.ownsRow base 72 13 (.slice ao (onL (fun i => OnB (S i) z) n).length c) (onL (fun i => OnB (S i) z) n).length (onRow C (fun i => OnB (S i) z) n)
theorem OnAns.base {w : World} {b1 b2 n : Nat} {S : Nat → Book} {C : Nat → List Value} {z : Int} {e : Ending} (h : OnAns w b1 n S C z e) (hb : b2 ≤ b1) : OnAns w b2 n S C z e := by
  obtain ⟨ao, c, rfl, hc, ho⟩ := h
  exact ⟨ao, c, rfl, hc, own_base ho hb⟩
theorem thoseBook_any (ao : Option Addr) (n c : Nat) (S : Nat → Book) (C : Nat → List Value) (z : Int) (pa : Nat) (w : World) (hn : n ≤ 1048576) (hs : BooksShort n S 1048576) (hC : RecsAt w ao n 13 C) (hI : ∀ k, k < n → Book.Is w (C k) (S k)) (hp : w.cell? ⟨pa, 0, none⟩ = some (.int .i64 z)) :
    Calls Tryz.prog 117 #[.slice ao n c, .func (.func 118) #[] #[.pointer (some ⟨pa, 0, none⟩)]] w fun e w' => OnAns w' w.heap.size n S C z e ∧ Below w.heap.size w w' := by
  obtain ⟨j0, ji, jz0, jz1, jz2⟩ := info_parts Tryz.infoBooking
  have hlt := World.block_lt_of_cell? w _ hp
  have HC : Hid (RecsAt w ao n 13 C) := hC
  have HI : Hid (∀ k, k < n → Book.Is w (C k) (S k)) := hI
  have HS : Hid (BooksShort n S 1048576) := hs
  have HP : Hid (w.cell? ⟨pa, 0, none⟩ = some (.int .i64 z)) := hp
  clear hC hI hs hp
  obtain ⟨P, hP⟩ : ∃ P : Nat → Prop, P = fun i => OnB (S i) z := ⟨_, rfl⟩
  have HPD : Hid (∀ i, P i ↔ OnB (S i) z) := fun i => by rw [hP]
  unfold OnAns
  rw [← hP]
  clear hP
  go_enter Tryz.func117, Tryz.ntmps117
  go_wp2
  go_loopw [5, 7, 10] (fun v _ i wr => ∃ k : Nat, k ≤ n ∧ i = .int .i64 k ∧ wr.ownsRow w.heap.size 72 13 v (onL P k).length (onRow C P k) ∧ Below w.heap.size w wr) (fun _ _ i _ => n - (intOf i).toNat)
  case atStart => exact ⟨0, Nat.zero_le _, rfl, World.ownsRow_nil _ _ _ _, Below.refl _ _⟩
  case round =>
    obtain ⟨k, hk, rfl, ho, hbel⟩ := hrel
    have HO : Hid (wr.ownsRow w.heap.size 72 13 u5 (onL P k).length (onRow C P k)) := ho
    clear ho
    by_cases hlt2 : k < n
    · obtain ⟨bb, bo, rfl, hc⟩ := HC.out k hlt2
      have hClen := (HI.out k hlt2).length
      obtain ⟨alg, clg, eC, hlg, _⟩ := HI.out k hlt2
      obtain ⟨b, hb⟩ : ∃ b, b = S k := ⟨_, rfl⟩
      rw [← hb] at eC hlg
      have HB : Hid (b = S k) := hb
      have HLG : Hid (IntsAt w alg b.lgn b.lg) := hlg
      have HCL : Hid ((C k).length = 13) := hClen
      have hsl : b.lgn ≤ 1048576 := by rw [hb]; exact (HS.out k hlt2).2
      have hltb : bb < w.heap.size := World.block_lt_of_cell? w _ (hc 0 (by decide))
      have c0 : wr.cell? ⟨bb, bo + k * 13, none⟩ = some (.int .i64 b.name) := (hbel.cell (p := ⟨bb, bo + k * 13, none⟩) hltb).trans (by have := hc 0 (by decide); rw [eC] at this; exact this)
      have c1 : wr.cell? ⟨bb, bo + k * 13 + 1, none⟩ = some (.int .i64 b.who) := (hbel.cell (p := ⟨bb, bo + k * 13 + 1, none⟩) hltb).trans (by have := hc 1 (by decide); rw [eC] at this; exact this)
      have c2 : wr.cell? ⟨bb, bo + k * 13 + 2, none⟩ = some (.string b.own) := (hbel.cell (p := ⟨bb, bo + k * 13 + 2, none⟩) hltb).trans (by have := hc 2 (by decide); rw [eC] at this; exact this)
      have c3 : wr.cell? ⟨bb, bo + k * 13 + 3, none⟩ = some (.slice alg b.lgn clg) := (hbel.cell (p := ⟨bb, bo + k * 13 + 3, none⟩) hltb).trans (by have := hc 3 (by decide); rw [eC] at this; exact this)
      have c4 : wr.cell? ⟨bb, bo + k * 13 + 4, none⟩ = some (.int .i64 b.pe) := (hbel.cell (p := ⟨bb, bo + k * 13 + 4, none⟩) hltb).trans (by have := hc 4 (by decide); rw [eC] at this; exact this)
      have c5 : wr.cell? ⟨bb, bo + k * 13 + 5, none⟩ = some (.int .i64 b.len) := (hbel.cell (p := ⟨bb, bo + k * 13 + 5, none⟩) hltb).trans (by have := hc 5 (by decide); rw [eC] at this; exact this)
      have c6 : wr.cell? ⟨bb, bo + k * 13 + 6, none⟩ = some (.int .i64 b.hei) := (hbel.cell (p := ⟨bb, bo + k * 13 + 6, none⟩) hltb).trans (by have := hc 6 (by decide); rw [eC] at this; exact this)
      have c7 : wr.cell? ⟨bb, bo + k * 13 + 7, none⟩ = some (.int .i64 b.cl) := (hbel.cell (p := ⟨bb, bo + k * 13 + 7, none⟩) hltb).trans (by have := hc 7 (by decide); rw [eC] at this; exact this)
      have c8 : wr.cell? ⟨bb, bo + k * 13 + 8, none⟩ = some (.bool b.all) := (hbel.cell (p := ⟨bb, bo + k * 13 + 8, none⟩) hltb).trans (by have := hc 8 (by decide); rw [eC] at this; exact this)
      have c9 : wr.cell? ⟨bb, bo + k * 13 + 9, none⟩ = some (.int .i64 b.be) := (hbel.cell (p := ⟨bb, bo + k * 13 + 9, none⟩) hltb).trans (by have := hc 9 (by decide); rw [eC] at this; exact this)
      have c10 : wr.cell? ⟨bb, bo + k * 13 + 10, none⟩ = some (.int .i64 b.state) := (hbel.cell (p := ⟨bb, bo + k * 13 + 10, none⟩) hltb).trans (by have := hc 10 (by decide); rw [eC] at this; exact this)
      have c11 : wr.cell? ⟨bb, bo + k * 13 + 11, none⟩ = some (.int .i64 b.unt) := (hbel.cell (p := ⟨bb, bo + k * 13 + 11, none⟩) hltb).trans (by have := hc 11 (by decide); rw [eC] at this; exact this)
      have c12 : wr.cell? ⟨bb, bo + k * 13 + 12, none⟩ = some (.int .i64 b.price) := (hbel.cell (p := ⟨bb, bo + k * 13 + 12, none⟩) hltb).trans (by have := hc 12 (by decide); rw [eC] at this; exact this)
      have HE : Hid (C k = #[.int .i64 b.name, .int .i64 b.who, .string b.own, .slice alg b.lgn clg, .int .i64 b.pe, .int .i64 b.len, .int .i64 b.hei, .int .i64 b.cl, .bool b.all, .int .i64 b.be, .int .i64 b.state, .int .i64 b.unt, .int .i64 b.price].toList) := eC
      clear hc eC hb hlg hClen
      have hbx := push hbel (.cells #[.int .i64 b.name, .int .i64 b.who, .string b.own, .slice alg b.lgn clg, .int .i64 b.pe, .int .i64 b.len, .int .i64 b.hei, .int .i64 b.cl, .bool b.all, .int .i64 b.be, .int .i64 b.state, .int .i64 b.unt, .int .i64 b.price] 72)
      have hbox := heap_alloc_new wr (.cells #[.int .i64 b.name, .int .i64 b.who, .string b.own, .slice alg b.lgn clg, .int .i64 b.pe, .int .i64 b.len, .int .i64 b.hei, .int .i64 b.cl, .bool b.all, .int .i64 b.be, .int .i64 b.state, .int .i64 b.unt, .int .i64 b.price] 72)
      have HO1 : Hid ((wr.alloc (.cells #[.int .i64 b.name, .int .i64 b.who, .string b.own, .slice alg b.lgn clg, .int .i64 b.pe, .int .i64 b.len, .int .i64 b.hei, .int .i64 b.cl, .bool b.all, .int .i64 b.be, .int .i64 b.state, .int .i64 b.unt, .int .i64 b.price] 72)).ownsRow w.heap.size 72 13 u5 (onL P k).length (onRow C P k)) := own_below (push (Below.refl _ wr) _) HO.out
      clear HO
      go_wp2_with fail
      generalize hBx : wr.heap.size = Bx at hbox ⊢
      generalize wr.alloc (.cells #[.int .i64 b.name, .int .i64 b.who, .string b.own, .slice alg b.lgn clg, .int .i64 b.pe, .int .i64 b.len, .int .i64 b.hei, .int .i64 b.cl, .bool b.all, .int .i64 b.be, .int .i64 b.state, .int .i64 b.unt, .int .i64 b.price] 72) = W at hbx hbox HO1 ⊢
      clear hBx c0 c1 c2 c3 c4 c5 c6 c7 c8 c9 c10 c11 c12 hbel
      refine (on1_any b alg clg z pa _ hsl (HLG.out.below hbx) ((hbx.cell hlt).trans HP.out)).mono ?_
      rintro e w2 ⟨⟨t, rfl, ht⟩, hb2⟩
      have hbox2 := blk_below hbox hb2
      have hbel2 := after hbx hb2
      have HT : Hid (t = true ↔ P k) := by show t = true ↔ P k; rw [HPD.out k, ← HB.out]; exact ht
      have HO2 : Hid (w2.ownsRow w.heap.size 72 13 u5 (onL P k).length (onRow C P k)) := own_below hb2 HO1.out
      clear ht hbx hbox hb2 HO1
      cases t with
      | true =>
        have HPK : Hid (P k) := HT.out.1 rfl
        clear HT
        have y0 := blk_cell hbox2 0 _ rfl
        have y1 := blk_cell hbox2 1 _ rfl
        have y2 := blk_cell hbox2 2 _ rfl
        have y3 := blk_cell hbox2 3 _ rfl
        have y4 := blk_cell hbox2 4 _ rfl
        have y5 := blk_cell hbox2 5 _ rfl
        have y6 := blk_cell hbox2 6 _ rfl
        have y7 := blk_cell hbox2 7 _ rfl
        have y8 := blk_cell hbox2 8 _ rfl
        have y9 := blk_cell hbox2 9 _ rfl
        have y10 := blk_cell hbox2 10 _ rfl
        have y11 := blk_cell hbox2 11 _ rfl
        have y12 := blk_cell hbox2 12 _ rfl
        have hnb := heap_alloc_new w2 (.cells #[.int .i64 b.name, .int .i64 b.who, .string b.own, .slice alg b.lgn clg, .int .i64 b.pe, .int .i64 b.len, .int .i64 b.hei, .int .i64 b.cl, .bool b.all, .int .i64 b.be, .int .i64 b.state, .int .i64 b.unt, .int .i64 b.price] 72)
        have HNW : Hid (∀ j u, (C k)[j]? = some u → (w2.alloc (.cells #[.int .i64 b.name, .int .i64 b.who, .string b.own, .slice alg b.lgn clg, .int .i64 b.pe, .int .i64 b.len, .int .i64 b.hei, .int .i64 b.cl, .bool b.all, .int .i64 b.be, .int .i64 b.state, .int .i64 b.unt, .int .i64 b.price] 72)).cell? ((⟨w2.heap.size, 0, none⟩ : Addr).add j) = some u) := by
          rw [HE.out]; exact World.news_of_block hnb
        have hbn := push (Below.refl _ w2) (.cells #[.int .i64 b.name, .int .i64 b.who, .string b.own, .slice alg b.lgn clg, .int .i64 b.pe, .int .i64 b.len, .int .i64 b.hei, .int .i64 b.cl, .bool b.all, .int .i64 b.be, .int .i64 b.state, .int .i64 b.unt, .int .i64 b.price] 72)
        have HO3 : Hid _ := own_below hbn HO2.out
        have hbel3 := after hbel2 hbn
        have hsz := hbel3.size
        have hle := onL_le P k
        have H1 : Hid (∀ u ∈ C k, u.oneCell' = true) := by rw [HE.out]; intro u hu; simp at hu; rcases hu with rfl | rfl | rfl | rfl | rfl | rfl | rfl | rfl | rfl | rfl | rfl | rfl | rfl <;> rfl
        clear hnb hbn
        go_wp2_with (first | (at_builtin; refine wpList_append_any _ (by rfl) (.tmp 17) (.tmp 19) 28 (by rfl) w.heap.size 72 j0 (.agg #[.int .i64 0, .int .i64 0, .string ⟨#[]⟩, .slice none 0 0, .int .i64 0, .int .i64 0, .int .i64 0, .int .i64 0, .bool false, .int .i64 0, .int .i64 0, .int .i64 0, .int .i64 0]) 13 128 Tryz.underlying28 ji jz0 jz1 jz2 rfl (by decide) _ (onL P k).length _ (by rfl) HO3.out (some ⟨w2.heap.size, 0, none⟩) 1 1 (C k) (by rfl) (fun h => (by cases h)) (by rw [HCL.out]) (fun ad e => by cases e; exact HNW.out) H1.out (by unfold maxLen; omega) (by omega) hsz ?_; intro v' w4 ho4 hg4))
        go_roundw
        case rel =>
          refine ⟨k + 1, by omega, by go_num, ?_, hbel3.grown hg4 hsz (fun j hj => (HO2.out.lt j hj).1)⟩
          rw [onRow_yes HPK.out HCL.out, show (onL P (k + 1)).length = (onL P k).length + 1 by rw [onL_yes HPK.out]; simp]
          exact ho4
        case measure => simp [intOf]; omega
      | false =>
        have HPK : Hid (¬ P k) := fun h => by have := HT.out.2 h; cases this
        clear HT
        go_wp2
        go_roundw
        case rel =>
          refine ⟨k + 1, by omega, by go_num, ?_, hbel2⟩
          rw [onRow_no HPK.out, show (onL P (k + 1)).length = (onL P k).length by rw [onL_no HPK.out]]
          exact HO2.out
        case measure => simp [intOf]; omega
    · obtain rfl : k = n := by omega
      obtain ⟨ao', c', e', hc1, _⟩ := own_form HO.out
      have HO' := HO.out
      rw [e'] at HO'
      have HO2 : Hid _ := HO'
      subst e'
      clear HO HO'
      go_wp2
      go_ret
      exact ⟨⟨ao', c', rfl, hc1, HO2.out⟩, hbel⟩
theorem bookingsOn_any (ao : Option Addr) (n c : Nat) (S : Nat → Book) (C : Nat → List Value) (z : Int) (w : World) (hn : n ≤ 1048576) (hs : BooksShort n S 1048576) (hC : RecsAt w ao n 13 C) (hI : ∀ k, k < n → Book.Is w (C k) (S k)) :
    Calls Tryz.prog 65 #[.slice ao n c, .int .i64 z] w fun e w' => OnAns w' w.heap.size n S C z e ∧ Below w.heap.size w w' := by
  have hb0 : Below w.heap.size w (w.alloc (.cells #[.int .i64 z] 3)) := push (Below.refl _ _) _
  have HC : Hid (RecsAt (w.alloc (.cells #[.int .i64 z] 3)) ao n 13 C) := hC.below hb0
  have HI : Hid (∀ k, k < n → Book.Is (w.alloc (.cells #[.int .i64 z] 3)) (C k) (S k)) := fun k hk => (hI k hk).below hb0
  have HP : Hid ((w.alloc (.cells #[.int .i64 z] 3)).cell? ⟨w.heap.size, 0, none⟩ = some (.int .i64 z)) := blk_cell (heap_alloc_new w _) 0 _ rfl
  have hmf : ∀ (fn : Fn) (first cap : Array Value) (w : World), (Instr.makeFunc fn first cap).run Tryz.prog w = .ok (.func fn first cap) w := fun _ _ _ _ => rfl
  have HS : Hid (BooksShort n S 1048576) := hs
  clear hC hI hs
  go_enter Tryz.func65, Tryz.ntmps65
  go_wp2_with (first | (go_at_call 117; refine (thoseBook_any ao n c S C z _ _ hn HS.out HC.out HI.out HP.out).mono ?_; rintro e w2 ⟨⟨ao2, c2, rfl, hc2, ho2⟩, hb2⟩))
  go_ret
  exact ⟨⟨ao2, c2, rfl, hc2, own_base ho2 hb0.size⟩, after hb0 hb2⟩
end Go.Proofs.YtlelckbeoclhbaaGreat
