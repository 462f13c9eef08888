/-
  OWN TEXT: DrawS, DrawP, DrawT, KitSh, KitD.
-/
import Derived.Test.YtfallpinmhbemaaGreatDoorRows
import Derived.Test.YtfallpinmhbemaaGreatDoorB00
import Derived.Test.YtfallpinmhbemaaGreatDoorB01
namespace Go.Proofs.YtfallpinmhbemaaGreatDoor
open Go.RowKit

/-- The cursor cb over the code at ao, at place p, its sequence at s. -/
structure CurAt (w : World) (cb : Nat) (ao : Option Addr) (n c p s : Nat) : Prop where
  box : w.heap[cb]? = some (.cells #[.slice ao n c, .int .i64 (p : Int), .int .u64 (s : Int)] 60 (0, 0))
  code : CodeAt w cb ao n
theorem CurAt.is {w : World} {cb n c p s : Nat} {ao : Option Addr} (h : CurAt w cb ao n c p s) : CurIs w cb ao n c p := ⟨⟨p, s, Nat.le_refl _, h.box⟩, h.code⟩
theorem cur_to {w : World} {cb n c p k k' s' : Nat} {ao : Option Addr} {s x : Int} (hx : x = (s' : Int)) (hb : w.heap[cb]? = some (.cells #[.slice ao n c, .int .i64 p, .int .u64 s] 60 (0, 0))) (hc : CodeAt w cb ao n) :
    CurAt ((((w.drewN k).setCell ⟨cb, 1, none⟩ (.int .i64 ((p : Int) + 1))).setCell ⟨cb, 2, none⟩ (.int .u64 x)).drewN k') cb ao n c (p + 1) s' ∧ Kept w ((((w.drewN k).setCell ⟨cb, 1, none⟩ (.int .i64 ((p : Int) + 1))).setCell ⟨cb, 2, none⟩ (.int .u64 x)).drewN k') (fun b => b = cb) := by
  have e : (.int .i64 ((p : Int) + 1) : Value) = .int .i64 ((p + 1 : Nat) : Int) := by simp
  have hk1 : Kept w (((w.drewN k).setCell ⟨cb, 1, none⟩ (.int .i64 ((p : Int) + 1))).setCell ⟨cb, 2, none⟩ (.int .u64 x)) (fun b => b = cb) :=
    ((Kept.of_below (S := fun b => b = cb) (below_drewN (Below.refl _ w) k)).set (a := ⟨cb, 1, none⟩) rfl _).set (a := ⟨cb, 2, none⟩) rfl _
  have hk2 := hk1.trans (Kept.of_below (S := fun b => b = cb) (below_drewN (Below.refl _ _) k'))
  have hb' : (w.drewN k).heap[cb]? = some (.cells #[.slice ao n c, .int .i64 p, .int .u64 s] 60 (0, 0)) := hb
  refine ⟨⟨?_, hc.kept hk2⟩, hk2⟩
  rw [← e, ← hx]
  exact blk_set (blk_set hb' 1 _) 2 _
theorem cur_some {w : World} {cb n c p k k' : Nat} {ao : Option Addr} {s x : Int} (hx : 0 ≤ x) (hb : w.heap[cb]? = some (.cells #[.slice ao n c, .int .i64 p, .int .u64 s] 60 (0, 0))) (hc : CodeAt w cb ao n) :
    CurAt ((((w.drewN k).setCell ⟨cb, 1, none⟩ (.int .i64 ((p : Int) + 1))).setCell ⟨cb, 2, none⟩ (.int .u64 x)).drewN k') cb ao n c (p + 1) x.toNat ∧ Kept w ((((w.drewN k).setCell ⟨cb, 1, none⟩ (.int .i64 ((p : Int) + 1))).setCell ⟨cb, 2, none⟩ (.int .u64 x)).drewN k') (fun b => b = cb) :=
  cur_to (Int.toNat_of_nonneg hx).symm hb hc
theorem lcg_wrap (s : Nat) : IntKind.u64.wrap (IntKind.u64.wrap (IntKind.u64.wrap ((s : Int) * 6364136223846793005)) + 1442695040888963407) = (lcg s : Int) := by
  unfold lcg lcgOf
  rw [IntKind.wrap_u64, IntKind.wrap_u64, IntKind.wrap_u64]
  omega
theorem lcg_byte (s : Nat) : wrap64 (bits .and .u64 (IntKind.u64.wrap (IntKind.u64.wrap (IntKind.u64.wrap ((s : Int) * 6364136223846793005)) + 1442695040888963407) / 1099511627776) 255) = ((lcg s / 1099511627776 % 256 : Nat) : Int) := by
  have hl : lcg s < 18446744073709551616 := Nat.mod_lt _ (by decide)
  rw [lcg_wrap, and_255 _ (by omega) (by omega)]
  unfold wrap64
  omega

set_option maxHeartbeats 800000 in
set_option maxRecDepth 100000 in
theorem nextX (cb : Nat) (ao : Option Addr) (n c p s : Nat) (w : World) (hp : p ≤ 1000000000000000000) (h : CurAt w cb ao n c p s) :
    Calls Tryz.prog 96 #[.pointer (some ⟨cb, 0, none⟩)] w fun e w' => ∃ r s' : Nat, e = .returned (.int .i64 r) ∧ r ≤ 255 ∧ (n ≤ p → s' = lcg s ∧ r = lcg s / 1099511627776 % 256) ∧ CurAt w' cb ao n c (p + 1) s' ∧ Kept w w' (fun b => b = cb) := by
  have hb := h.box
  have hc := h.code
  have q0 : w.cell? ⟨cb, 0, none⟩ = some (.slice ao n c) := blk_cell hb 0 _ rfl
  have q1 : w.cell? ⟨cb, 1, none⟩ = some (.int .i64 p) := blk_cell hb 1 _ rfl
  have q2 : w.cell? ⟨cb, 2, none⟩ = some (.int .u64 s) := blk_cell hb 2 _ rfl
  have f1 := blk_free hb 1
  have f2 := blk_free hb 2
  have hw1 : IntKind.i64.wrap ((p : Int) + 1) = (p : Int) + 1 := by rw [IntKind.wrap_i64]; omega
  by_cases hlt : p < n
  · obtain ⟨b, off, v, rfl, hne, hcell, v0, v1⟩ := hc p hlt
    have d1 : decide ((p : Int) < (n : Int)) = true := by simp; omega
    have d2 : decide ((p : Int) + 1 ≤ (n : Int)) = true := by simp; omega
    have i1 : (p : Int) < (n : Int) := by omega
    have i0 : (0 : Int) ≤ (p : Int) := by omega
    go_enter Tryz.func96, Tryz.ntmps96
    go_wp2
    go_quiet (fail)
    go_wp2
    go_quiet (fail)
    go_wp2
    go_quiet (fail)
    go_wp2
    go_ret
    exact ⟨v.toNat, _, by rw [show ((v.toNat : Nat) : Int) = v by omega]; rfl, by omega, fun h => absurd hlt (by omega), (cur_some (by rw [IntKind.wrap_u64]; omega) hb hc).1, (cur_some (by rw [IntKind.wrap_u64]; omega) hb hc).2⟩
  · have d1 : decide ((p : Int) < (n : Int)) = false := by simp; omega
    have d2 : decide ((p : Int) + 1 ≤ (n : Int)) = false := by simp; omega
    have hby := lcg_byte s
    go_enter Tryz.func96, Tryz.ntmps96
    go_wp2
    go_quiet (fail)
    go_wp2
    go_quiet (fail)
    go_wp2
    go_ret
    obtain ⟨h1, h2⟩ := cur_to (s' := lcg s) (x := _) (p := p) (lcg_wrap s) hb hc
    exact ⟨lcg s / 1099511627776 % 256, lcg s, by rw [← hby]; rfl, by omega, fun _ => ⟨rfl, rfl⟩, h1, h2⟩

set_option maxHeartbeats 800000 in
theorem pickX (cb : Nat) (ao : Option Addr) (n c p s m : Nat) (w : World) (hp : p ≤ 1000000000000000000) (hm : 2 ≤ m) (hm2 : m ≤ 200) (h : CurAt w cb ao n c p s) :
    Calls Tryz.prog 59 #[.pointer (some ⟨cb, 0, none⟩), .int .i64 m] w fun e w' => ∃ r s' : Nat, e = .returned (.int .i64 r) ∧ r < m ∧ (n ≤ p → s' = lcg s ∧ r = lcg s / 1099511627776 % 256 % m) ∧ CurAt w' cb ao n c (p + 1) s' ∧ Kept w w' (fun b => b = cb) := by
  have d1 : decide ((m : Int) ≤ 1) = false := by simp; omega
  have m0 : ¬ ((m : Int) = 0) := by omega
  have d2 : decide ((200 : Int) < (m : Int)) = false := by simp; omega
  go_enter Tryz.func59, Tryz.ntmps59
  go_wp2_with fail
  refine (nextX cb ao n c p s _ hp h).mono ?_
  rintro e w1 ⟨r, s', rfl, hr, hx, hc1, hk1⟩
  go_wp2
  go_ret
  exact ⟨r % m, s', by simp [Int.natCast_emod], Nat.mod_lt _ (by omega), fun hn => ⟨(hx hn).1, by rw [(hx hn).2]⟩, hc1, hk1⟩
theorem oneX (cb : Nat) (ao : Option Addr) (n c p s m : Nat) (w : World) (hp : p ≤ 1000000000000000000) (hm : 2 ≤ m) (hm2 : m ≤ 200) (h : CurAt w cb ao n c p s) :
    Calls Tryz.prog 76 #[.pointer (some ⟨cb, 0, none⟩), .int .i64 m] w fun e w' => ∃ (b : Bool) (s' : Nat), e = .returned (.bool b) ∧ (n ≤ p → s' = lcg s) ∧ CurAt w' cb ao n c (p + 1) s' ∧ Kept w w' (fun b => b = cb) := by
  go_enter Tryz.func76, Tryz.ntmps76
  go_wp2_with fail
  refine (pickX cb ao n c p s m _ hp hm hm2 h).mono ?_
  rintro e w1 ⟨r, s', rfl, hr, hx, hc1, hk1⟩
  cases hd : ((r : Int) == 0) with
  | true =>
    go_wp2
    go_ret
    exact ⟨_, s', rfl, fun hn => (hx hn).1, hc1, hk1⟩
  | false =>
    go_wp2
    go_ret
    exact ⟨_, s', rfl, fun hn => (hx hn).1, hc1, hk1⟩

end Go.Proofs.YtfallpinmhbemaaGreatDoor

namespace Go.Proofs.YtfallpinmhbemaaGreatDoor
open Go.RowKit

/-- The ports that are drawn. -/
def portName (r : Nat) : ByteArray := if r = 0 then ⟨#[79, 115, 108, 111]⟩ else if r = 1 then ⟨#[75, 105, 101, 108]⟩ else if r = 2 then ⟨#[65, 98, 101, 114]⟩ else ⟨#[66, 111, 100, 101]⟩
theorem portName_ne {i j : Nat} (hi : i < 4) (hj : j < 4) (h : portName i = portName j) : i = j := by
  have h1 : i = 0 ∨ i = 1 ∨ i = 2 ∨ i = 3 := by omega
  have h2 : j = 0 ∨ j = 1 ∨ j = 2 ∨ j = 3 := by omega
  rcases h1 with rfl | rfl | rfl | rfl <;> rcases h2 with rfl | rfl | rfl | rfl <;> first | rfl | (exfalso; revert h; decide)

set_option maxHeartbeats 800000 in
theorem ofX (cb : Nat) (ao : Option Addr) (n c p s b m : Nat) (N : Nat → ByteArray) (w : World) (hp : p ≤ 1000000000000000000) (hm : 2 ≤ m) (hm2 : m ≤ 200) (h : CurAt w cb ao n c p s) (hne : b ≠ cb) (hb : ∀ k, k < m → w.cell? ⟨b, k, none⟩ = some (.string (N k))) :
    Calls Tryz.prog 77 #[.pointer (some ⟨cb, 0, none⟩), .slice (some ⟨b, 0, none⟩) m m] w fun e w' => ∃ r s' : Nat, e = .returned (.string (N r)) ∧ r < m ∧ (n ≤ p → s' = lcg s ∧ r = lcg s / 1099511627776 % 256 % m) ∧ CurAt w' cb ao n c (p + 1) s' ∧ Kept w w' (fun b => b = cb) := by
  go_enter Tryz.func77, Tryz.ntmps77
  go_wp2_with fail
  refine (pickX cb ao n c p s m _ hp hm hm2 h).mono ?_
  rintro e w1 ⟨r, s', rfl, hr, hx, hc1, hk1⟩
  have hcell := hk1.cellAt (hb r hr) (by show ¬ b = cb; exact hne)
  have i0 : (0 : Int) ≤ (r : Int) := by omega
  have i1 : (r : Int) < (m : Int) := by omega
  clear hb
  go_wp2
  go_ret
  exact ⟨r, s', rfl, hr, hx, hc1, hk1⟩

set_option maxHeartbeats 800000 in
theorem portX (cb : Nat) (ao : Option Addr) (n c p s : Nat) (w : World) (hp : p ≤ 1000000000000000000) (h : CurAt w cb ao n c p s) :
    Calls Tryz.prog 95 #[.pointer (some ⟨cb, 0, none⟩)] w fun e w' => ∃ r s' : Nat, e = .returned (.string (portName r)) ∧ r < 4 ∧ (n ≤ p → s' = lcg s ∧ r = lcg s / 1099511627776 % 256 % 4) ∧ CurAt w' cb ao n c (p + 1) s' ∧ Kept w w' (fun b => b = cb) := by
  have hbx := heap_alloc_new w (.cells #[.string (portName 0), .string (portName 1), .string (portName 2), .string (portName 3)] 9)
  have hbl : Below w.heap.size w (w.alloc (.cells #[.string (portName 0), .string (portName 1), .string (portName 2), .string (portName 3)] 9)) := push (Below.refl _ _) _
  have hcb : cb < w.heap.size := blk_lt h.box
  have h1 : CurAt (w.alloc (.cells #[.string (portName 0), .string (portName 1), .string (portName 2), .string (portName 3)] 9)) cb ao n c p s := ⟨blk_below h.box hbl, h.code.kept (Kept.of_below hbl)⟩
  go_enter Tryz.func95, Tryz.ntmps95
  go_wp2_with fail
  refine (ofX cb ao n c p s w.heap.size 4 portName _ hp (by omega) (by omega) h1 (by omega) (fun k hk => ?_)).mono ?_
  · have : k = 0 ∨ k = 1 ∨ k = 2 ∨ k = 3 := by omega
    rcases this with rfl | rfl | rfl | rfl
    · exact blk_cell hbx 0 _ rfl
    · exact blk_cell hbx 1 _ rfl
    · exact blk_cell hbx 2 _ rfl
    · exact blk_cell hbx 3 _ rfl
  rintro e w1 ⟨r, s', rfl, hr, hx, hc1, hk1⟩
  go_wp2
  go_ret
  exact ⟨r, s', rfl, hr, hx, hc1, (Kept.of_below hbl).trans hk1⟩

/-- The port that the sequence gives at s. -/
def portAt (s : Nat) : Nat := s / 1099511627776 % 256 % 4
theorem steps_succ (h : Nat → Nat) (n s : Nat) : steps h (n + 1) s = steps h n (h s) := rfl
theorem steps_zero (h : Nat → Nat) (s : Nat) : steps h 0 s = s := rfl
theorem port_turns (i s : Nat) : ∃ k, k ≤ 549755813888 ∧ portAt (steps lcgTwo (k + 1) s) ≠ i := by
  by_cases h : portAt (lcgTwo s) = i
  · obtain ⟨N, hle, hN⟩ := turns_ex
    refine ⟨N, hle, fun e => ?_⟩
    have ht := hN (lcgTwo s)
    rw [steps_succ, ← h] at e
    generalize steps lcgTwo N (lcgTwo s) = z at e ht
    unfold portAt at e
    omega
  · exact ⟨0, Nat.zero_le _, by rw [steps_succ, steps_zero]; exact h⟩
theorem least_of {P : Nat → Prop} : ∀ k, P k → ∃ m, P m ∧ ∀ j, P j → m ≤ j := by
  intro k
  induction k using Nat.strongRecOn with
  | _ k ih =>
    intro hk
    by_cases c : ∃ j, j < k ∧ P j
    · obtain ⟨j, hj, hp⟩ := c
      exact ih j hj hp
    · exact ⟨k, hk, fun j hp => by
        by_cases h : k ≤ j
        · exact h
        · exact absurd ⟨j, by omega, hp⟩ c⟩
theorem still_ex (i s : Nat) : ∃ m, portAt (steps lcgTwo (m + 1) s) ≠ i ∧ ∀ j, portAt (steps lcgTwo (j + 1) s) ≠ i → m ≤ j := by
  obtain ⟨k, _, hk⟩ := port_turns i s
  exact least_of (P := fun m => portAt (steps lcgTwo (m + 1) s) ≠ i) k hk
/-- How often the sequence still gives the port i. -/
noncomputable def still (i s : Nat) : Nat := (still_ex i s).choose
theorem still_le (i s : Nat) : still i s ≤ 549755813888 := by
  obtain ⟨k, hle, hk⟩ := port_turns i s
  have := (still_ex i s).choose_spec.2 k hk
  have e1 : (still_ex i s).choose = still i s := rfl
  rw [e1] at this
  omega
theorem still_less {i s : Nat} (h : portAt (lcgTwo s) = i) : still i (lcgTwo s) < still i s := by
  have hs := (still_ex i s).choose_spec
  have hl := (still_ex i (lcgTwo s)).choose_spec
  have e1 : (still_ex i s).choose = still i s := rfl
  have e2 : (still_ex i (lcgTwo s)).choose = still i (lcgTwo s) := rfl
  rw [e1] at hs
  rw [e2] at hl
  cases hk : still i s with
  | zero =>
    rw [hk] at hs
    have h1 := hs.1
    rw [steps_succ, steps_zero] at h1
    exact absurd h h1
  | succ k =>
    rw [hk] at hs
    have h1 := hs.1
    rw [steps_succ] at h1
    have := hl.2 k h1
    omega

end Go.Proofs.YtfallpinmhbemaaGreatDoor

namespace Go.Proofs.YtfallpinmhbemaaGreatDoor
open Go.RowKit

/-- A sailing that is drawn, in its box; the box of the answer; the cursor. -/
structure SSit (w wr : World) (xb cb : Nat) (ao : Option Addr) (n c p s : Nat) (id : Int) (fr dst : ByteArray) (dep arr : Int) (vl vc : Value) (most : Int) : Prop where
  lo : w.heap.size < xb
  box : wr.heap[xb]? = some (.cells #[.int .i64 id, .string fr, .string dst, .int .i64 dep, .int .i64 arr, vl, vc, .int .i64 most] 37 (0, 0))
  res : ∃ cs : Array Value, cs.size = 8 ∧ wr.heap[w.heap.size]? = some (.cells cs 37 (0, 0))
  cur : CurAt wr cb ao n c p s
  kept : Kept w wr (fun b => b = cb)
theorem lcgTwo_eq (s : Nat) : lcgTwo s = lcg (lcg s) := by simp only [lcgTwo]
/-- What is left of the first loop. -/
noncomputable def leftOf (n p i s : Nat) : Nat := if p < n then (n - p) + 1099511627776 else still i s
theorem leftOf_less {n p i s s1 s2 : Nat} (h1 : n ≤ p → s1 = lcg s) (h2 : n ≤ p + 1 → s2 = lcg s1 ∧ i = lcg s1 / 1099511627776 % 256 % 4) : leftOf n (p + 1 + 1) i s2 < leftOf n p i s := by
  unfold leftOf
  by_cases hp : p < n
  · rw [if_pos hp]
    by_cases hp2 : p + 1 + 1 < n
    · rw [if_pos hp2]; omega
    · rw [if_neg hp2]; have := still_le i s2; omega
  · rw [if_neg hp, if_neg (by omega)]
    have e1 := h1 (by omega)
    obtain ⟨e2, hi⟩ := h2 (by omega)
    rw [e1, ← lcgTwo_eq] at e2 hi
    rw [e2]
    refine still_less ?_
    rw [hi]
    rfl

/-- The same, read off the cursor. -/
noncomputable def curLeft (n i cb : Nat) (w : World) : Nat := leftOf n (intOf ((w.cell? ⟨cb, 1, none⟩).getD undef)).toNat i (intOf ((w.cell? ⟨cb, 2, none⟩).getD undef)).toNat
theorem curLeft_is {w : World} {cb n c p s i : Nat} {ao : Option Addr} (h : CurAt w cb ao n c p s) : curLeft n i cb w = leftOf n p i s := by
  unfold curLeft
  rw [blk_cell h.box 1 _ rfl, blk_cell h.box 2 _ rfl]
  simp [intOf]
theorem leftOf_le (n p i s : Nat) : leftOf n p i s ≤ n + 1099511627776 := by
  unfold leftOf
  split
  · omega
  · have := still_le i s; omega
theorem CurAt.below {w w' : World} {cb n c p s : Nat} {ao : Option Addr} (h : CurAt w cb ao n c p s) (hb : Below w.heap.size w w') : CurAt w' cb ao n c p s := ⟨blk_below h.box hb, h.code.kept (Kept.of_below hb)⟩

open Classical in
/-- The same, 0 where the ports are not the same. -/
noncomputable def stillLeft (n i cb xb : Nat) (w : World) : Nat := if w.cell? ⟨xb, 2, none⟩ = some (.string (portName i)) then curLeft n i cb w + 1 else 0

theorem SSit.c1 {w wr : World} {xb cb n c p s : Nat} {ao : Option Addr} {id dep arr most : Int} {fr dst : ByteArray} {vl vc : Value} (h : SSit w wr xb cb ao n c p s id fr dst dep arr vl vc most) : wr.cell? ⟨xb, 1, none⟩ = some (.string fr) := blk_cell h.box 1 _ rfl
theorem SSit.c2 {w wr : World} {xb cb n c p s : Nat} {ao : Option Addr} {id dep arr most : Int} {fr dst : ByteArray} {vl vc : Value} (h : SSit w wr xb cb ao n c p s id fr dst dep arr vl vc most) : wr.cell? ⟨xb, 2, none⟩ = some (.string dst) := blk_cell h.box 2 _ rfl
theorem SSit.on {w wr w' : World} {xb cb n c p s p' s' : Nat} {ao : Option Addr} {id dep arr most : Int} {fr dst : ByteArray} {vl vc : Value} (h : SSit w wr xb cb ao n c p s id fr dst dep arr vl vc most) (hcb : cb < w.heap.size) (hc : CurAt w' cb ao n c p' s') (hk : Kept wr w' (fun b => b = cb)) : SSit w w' xb cb ao n c p' s' id fr dst dep arr vl vc most := by
  obtain ⟨h1, h2, ⟨cs, h3, h4⟩, _, h6⟩ := h
  exact ⟨h1, hk.blk h2 (by omega), ⟨cs, h3, hk.blk h4 (by omega)⟩, hc, h6.trans hk⟩
theorem CurAt.other {w : World} {cb n c p s b i : Nat} {ao : Option Addr} (h : CurAt w cb ao n c p s) (hne : cb ≠ b) (hcode : ∀ k, k < n → ∀ b' off, ao = some ⟨b', off, none⟩ → b' ≠ b) (u : Value) : CurAt (w.setCell ⟨b, i, none⟩ u) cb ao n c p s := by
  refine ⟨blk_set_other h.box i u hne, fun k hk => ?_⟩
  obtain ⟨b', off, v, e, hn, hc, h1, h2⟩ := h.code k hk
  refine ⟨b', off, v, e, hn, ?_, h1, h2⟩
  have hb : ((w.setCell ⟨b, i, none⟩ u).heap[b']?) = w.heap[b']? := Below.heap_setCell w ⟨b, i, none⟩ u b' (hcode k hk b' off e)
  unfold World.cell? at hc ⊢
  rw [hb]; exact hc
theorem portList_ne {i j : Nat} (hi : i < 4) (hj : j < 4) (h : i ≠ j) : ((portName i).toList == (portName j).toList) = false := by
  have h1 : i = 0 ∨ i = 1 ∨ i = 2 ∨ i = 3 := by omega
  have h2 : j = 0 ∨ j = 1 ∨ j = 2 ∨ j = 3 := by omega
  rcases h1 with rfl | rfl | rfl | rfl <;> rcases h2 with rfl | rfl | rfl | rfl <;> first | exact absurd rfl h | decide +kernel
/-- Where the bytes lie. -/
def CodeLow (w : World) (ao : Option Addr) (n : Nat) : Prop := ∀ k, k < n → ∀ b off, ao = some ⟨b, off, none⟩ → b < w.heap.size
theorem SSit.dst {w wr : World} {xb cb n c p s : Nat} {ao : Option Addr} {id dep arr most : Int} {fr dst : ByteArray} {vl vc : Value} (h : SSit w wr xb cb ao n c p s id fr dst dep arr vl vc most) (hcb : cb < w.heap.size) (hl : CodeLow w ao n) (d : ByteArray) : SSit w (wr.setCell ⟨xb, 2, none⟩ (.string d)) xb cb ao n c p s id fr d dep arr vl vc most := by
  obtain ⟨h1, h2, ⟨cs, h3, h4⟩, h5, h6⟩ := h
  exact ⟨h1, by simpa using blk_set h2 2 (.string d), ⟨cs, h3, blk_set_other h4 _ _ (by omega)⟩, h5.other (by omega) (fun k hk b' off e => by have := hl k hk b' off e; omega) _,
    ⟨h6.os, h6.tape, h6.output, by have := h6.size; simpa using this, fun k hk hn => (Below.heap_setCell wr ⟨xb, 2, none⟩ (.string d) k (by show k ≠ xb; omega)).trans (h6.block k hk hn)⟩⟩

end Go.Proofs.YtfallpinmhbemaaGreatDoor

namespace Go.Proofs.YtfallpinmhbemaaGreatDoor
open Go.RowKit

def ShortS (s : Sail) (B : Nat) : Prop := s.fr.size ≤ B ∧ s.dst.size ≤ B ∧ s.la.n ≤ B ∧ s.ca.n ≤ B
def ShortAll (N : Nat) (S : Nat → Sail) (B : Nat) : Prop := ∀ i, i < N → ShortS (S i) B
theorem Tryz.infoLane : (Tryz.prog.info? 106).map (fun i => (i.zero, i.size, i.bytes)) = some (some (.agg #[.int .i64 0, .int .i64 0]), 2, 16) := by kernel_rfl
theorem Tryz.infoCabin : (Tryz.prog.info? 110).map (fun i => (i.zero, i.size, i.bytes)) = some (some (.agg #[.int .i64 0, .int .i64 0]), 2, 16) := by kernel_rfl
theorem Tryz.infoSailing : (Tryz.prog.info? 37).map (fun i => (i.zero, i.size, i.bytes)) = some (some (.agg #[.int .i64 0, .string ⟨#[]⟩, .string ⟨#[]⟩, .int .i64 0, .int .i64 0, .slice none 0 0, .slice none 0 0, .int .i64 0]), 8, 112) := by kernel_rfl

end Go.Proofs.YtfallpinmhbemaaGreatDoor

namespace Go.Proofs.YtfallpinmhbemaaGreatDoor
open Go.RowKit

/-- The cell j of a row of records of sz cells each. -/
def recCell (sz : Nat) (C : Nat → List Value) (j : Nat) : Value := (C (j / sz)).getD (j % sz) (.bool false)
theorem recCell_at (sz : Nat) (C : Nat → List Value) (k j : Nat) (hj : j < sz) : recCell sz C (k * sz + j) = (C k).getD j (.bool false) := by
  unfold recCell
  have h0 : 0 < sz := by omega
  rw [show (k * sz + j) / sz = k by rw [Nat.add_comm, Nat.add_mul_div_right _ _ h0, Nat.div_eq_of_lt hj, Nat.zero_add], show (k * sz + j) % sz = j by rw [Nat.add_comm, Nat.add_mul_mod_self_right, Nat.mod_eq_of_lt hj]]
/-- A run of stores into one block. -/
def setFrom (w : World) (g : Nat) : Nat → List Value → World
  | _, [] => w
  | o, v :: vs => setFrom (w.setCell ⟨g, o, none⟩ v) g (o + 1) vs
theorem setFrom_other {g x t n : Nat} {f : Nat → Value} (hx : x ≠ g) : ∀ (vs : List Value) (o : Nat) (w : World), w.rowIs x t n f → (setFrom w g o vs).rowIs x t n f
  | [], _, _, h => h
  | v :: r, o, _, h => setFrom_other hx r (o + 1) _ (h.setOther (by exact hx) v)
theorem setFrom_blk_other {g b : Nat} {x : Obj} (hne : b ≠ g) : ∀ (vs : List Value) (o : Nat) (w : World), w.heap[b]? = some x → (setFrom w g o vs).heap[b]? = some x
  | [], _, _, h => h
  | v :: r, o, _, h => setFrom_blk_other hne r (o + 1) _ (blk_set_other h o v hne)
theorem setFrom_below {g : Nat} {w0 : World} (hg : w0.heap.size ≤ g) : ∀ (vs : List Value) (o : Nat) (w : World), Below w0.heap.size w0 w → Below w0.heap.size w0 (setFrom w g o vs)
  | [], _, _, h => h
  | v :: r, o, _, h => setFrom_below hg r (o + 1) _ (h.setCell (by exact hg) v)
theorem setFrom_kept {g : Nat} {S : Nat → Prop} {w0 : World} (hg : S g) : ∀ (vs : List Value) (o : Nat) (w : World), Kept w0 w S → Kept w0 (setFrom w g o vs) S
  | [], _, _, h => h
  | v :: r, o, _, h => setFrom_kept hg r (o + 1) _ (h.set (a := ⟨g, o, none⟩) hg v)
theorem setFrom_size (g : Nat) : ∀ (vs : List Value) (o : Nat) (w : World), (setFrom w g o vs).heap.size = w.heap.size
  | [], _, _ => rfl
  | v :: r, o, w => by rw [setFrom, setFrom_size g r (o + 1), World.size_setCell]
theorem setFrom_row {b t n : Nat} : ∀ (vs : List Value) (o : Nat) (w : World) (f : Nat → Value), w.rowIs b t n f → (setFrom w b o vs).rowIs b t n (fun j => if o ≤ j ∧ j < o + vs.length then vs.getD (j - o) (.bool false) else f j)
  | [], o, w, f, h => h.congr (fun j _ => by rw [if_neg (by simp)])
  | v :: r, o, w, f, h => by
    have ih := setFrom_row r (o + 1) _ _ (h.set o v)
    refine ih.congr (fun j _ => ?_)
    by_cases h1 : j = o
    · subst h1
      rw [if_neg (by omega), if_pos rfl, if_pos (by simp), Nat.sub_self]
      rfl
    · by_cases h2 : o + 1 ≤ j ∧ j < o + 1 + r.length
      · rw [if_pos h2, if_pos (by simp; omega), show j - o = (j - (o + 1)) + 1 by omega]
        simp
      · rw [if_neg h2, if_neg h1, if_neg (by simp; omega)]
/-- A record is stored into a row of records. -/
theorem rec_set {w : World} {g t n sz k : Nat} {C C' : Nat → List Value} {vs : List Value} (h : w.rowIs g t n (recCell sz C)) (hv : vs.length = sz) (h0 : 0 < sz) (hC : ∀ i, i ≠ k → C' i = C i) (hk : C' k = vs) :
    (setFrom w g (k * sz) vs).rowIs g t n (recCell sz C') := by
  refine (setFrom_row vs (k * sz) w _ h).congr fun j _ => ?_
  by_cases e : j / sz = k
  · have h1 : k * sz ≤ j := by rw [← e]; exact Nat.div_mul_le_self j sz
    have h2 : j < k * sz + sz := by
      have := Nat.lt_div_mul_add h0 (a := j)
      rw [e] at this; exact this
    rw [if_pos ⟨h1, by omega⟩]
    unfold recCell
    rw [e, hk, show j % sz = j - k * sz by have := Nat.div_add_mod j sz; rw [e, Nat.mul_comm] at this; omega]
  · rw [if_neg (by
      rintro ⟨h1, h2⟩
      apply e
      rw [hv] at h2
      have : j = (j - k * sz) + k * sz := by omega
      rw [this, Nat.add_mul_div_right _ _ h0, Nat.div_eq_of_lt (by omega), Nat.zero_add])]
    unfold recCell
    rw [hC _ e]

/-- The slice at ao reads as N records of sz cells. -/
def RecsAt (w : World) (ao : Option Addr) (N sz : Nat) (C : Nat → List Value) : Prop :=
  ∀ k, k < N → ∃ b off, ao = some ⟨b, off, none⟩ ∧ ∀ j, j < sz → w.cell? ⟨b, off + k * sz + j, none⟩ = some ((C k).getD j (.bool false))
theorem RecsAt.below {w w' : World} {ao : Option Addr} {N sz : Nat} {C : Nat → List Value} (h : RecsAt w ao N sz C) (hb : Below w.heap.size w w') : RecsAt w' ao N sz C := by
  intro k hk
  obtain ⟨b, off, e, hc⟩ := h k hk
  exact ⟨b, off, e, fun j hj => (hb.cell (World.block_lt_of_cell? w _ (hc j hj))).trans (hc j hj)⟩
theorem RecsAt.of_row {w : World} {g t N sz : Nat} {C : Nat → List Value} (h : w.rowIs g t (N * sz) (recCell sz C)) : RecsAt w (some ⟨g, 0, none⟩) N sz C := by
  intro k hk
  refine ⟨g, 0, rfl, fun j hj => ?_⟩
  have : k * sz + j < N * sz := by
    have h1 : (k + 1) * sz ≤ N * sz := Nat.mul_le_mul_right sz hk
    rw [Nat.add_mul] at h1
    omega
  rw [Nat.zero_add, h.cell this, recCell_at sz C k j hj]
theorem RecsAt.upto {w : World} {ao : Option Addr} {N M sz : Nat} {C : Nat → List Value} (h : RecsAt w ao N sz C) (hM : M ≤ N) : RecsAt w ao M sz C := fun k hk => h k (by omega)

/-- The cells of N made records that are all zero. -/
theorem made_recs {z : Array Value} {sz : Nat} (hz : z.size = sz) (n j : Nat) (hj : j < n * sz) : (madeCells z (n * sz)).toList.getD j (.bool false) = recCell sz (fun _ => z.toList) j := by
  have h0 : 0 < sz := by rcases Nat.eq_zero_or_pos sz with h | h; subst h; omega; exact h
  simp only [madeCells, Array.toList_map, List.getD_eq_getElem?_getD, List.getElem?_map, Array.toList_range, List.getElem?_range hj, Option.map_some, Option.getD_some]
  unfold recCell
  rw [List.getD_eq_getElem?_getD]
  have hm : j % sz < z.size := by rw [hz]; exact Nat.mod_lt _ h0
  simp [hz]
  rw [getElem!_pos z _ hm, Array.getElem?_eq_getElem hm]
  rfl

end Go.Proofs.YtfallpinmhbemaaGreatDoor
