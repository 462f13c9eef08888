/-
  OWN TEXT: Draw1, DrawAm.
-/
import Derived.Test.YtdmkpflphjemoaaRows
import Derived.Deep.LoopGhost
import Derived.Laws.BitsLemmas
import Derived.Deep.RegionHeld3
import Derived.Test.YtdmkpflphjemoaaB03
namespace Go.Proofs.Ytdmkpflphjemoaa
open Go.RowKit

/-- The code at ao can be read, and lies in another block than cb. -/
def CodeAt (w : World) (cb : Nat) (ao : Option Addr) (n : Nat) : Prop :=
  ∀ k, k < n → ∃ b off v, ao = some ⟨b, off, none⟩ ∧ b ≠ cb ∧ w.cell? ⟨b, off + k, none⟩ = some (.int .u8 v) ∧ 0 ≤ v ∧ v ≤ 255
theorem Kept.cellAt {w w' : World} {S : Nat → Prop} (h : Kept w w' S) {a : Addr} {v : Value} (hc : w.cell? a = some v) (hs : ¬ S a.block) : w'.cell? a = some v := by
  have hlt := World.block_lt_of_cell? w _ hc
  have := h.block a.block hlt hs
  unfold World.cell? at hc ⊢
  rw [this]; exact hc
theorem CodeAt.kept {w w' : World} {cb n : Nat} {ao : Option Addr} (h : CodeAt w cb ao n) (hk : Kept w w' (fun b => b = cb)) : CodeAt w' cb ao n := by
  intro k hk'
  obtain ⟨b, off, v, e, hne, hc, h1, h2⟩ := h k hk'
  exact ⟨b, off, v, e, hne, hk.cellAt hc hne, h1, h2⟩
/-- The cursor cb over the code at ao, at most at place a. -/
def CurIs (w : World) (cb : Nat) (ao : Option Addr) (n c a : Nat) : Prop :=
  (∃ (p : Nat) (s : Int), p ≤ a ∧ w.heap[cb]? = some (.cells #[.slice ao n c, .int .i64 p, .int .u64 s] 45 (0, 0))) ∧ CodeAt w cb ao n
theorem CurIs.more {w : World} {cb n c a b : Nat} {ao : Option Addr} (h : CurIs w cb ao n c a) (hab : a ≤ b) : CurIs w cb ao n c b := by
  obtain ⟨⟨p, s, hp, hb⟩, hc⟩ := h
  exact ⟨⟨p, s, by omega, hb⟩, hc⟩

theorem and_255 (x : Int) (h0 : 0 ≤ x) (h1 : x < 18446744073709551616) : bits .and .u64 x 255 = x % 256 :=
  bits_mask .u64 64 (by decide) (fun n h0 h1 => by rw [IntKind.wrap_u64]; omega) 8 (by decide) x h0 h1
theorem low_byte (y : Int) : ∃ r : Nat, wrap64 (bits .and .u64 (IntKind.u64.wrap y / 1099511627776) 255) = (r : Int) ∧ r ≤ 255 := by
  have hw := IntKind.wrap_u64 y
  rw [and_255 _ (by rw [hw]; omega) (by rw [hw]; omega)]
  refine ⟨((IntKind.u64.wrap y / 1099511627776) % 256).toNat, ?_, by omega⟩
  unfold wrap64
  omega
/-- The cursor one place on. -/
theorem cur_on {w : World} {cb n c p a k k' : Nat} {ao : Option Addr} {s s' : Int} (hp : p ≤ a) (hb : w.heap[cb]? = some (.cells #[.slice ao n c, .int .i64 p, .int .u64 s] 45 (0, 0))) (hc : CodeAt w cb ao n) :
    CurIs ((((w.drewN k).setCell ⟨cb, 1, none⟩ (.int .i64 ((p : Int) + 1))).setCell ⟨cb, 2, none⟩ (.int .u64 s')).drewN k') cb ao n c (a + 1) ∧ Kept w ((((w.drewN k).setCell ⟨cb, 1, none⟩ (.int .i64 ((p : Int) + 1))).setCell ⟨cb, 2, none⟩ (.int .u64 s')).drewN k') (fun b => b = cb) := by
  have e : (.int .i64 ((p : Int) + 1) : Value) = .int .i64 ((p + 1 : Nat) : Int) := by simp
  have hk1 : Kept w (((w.drewN k).setCell ⟨cb, 1, none⟩ (.int .i64 ((p : Int) + 1))).setCell ⟨cb, 2, none⟩ (.int .u64 s')) (fun b => b = cb) :=
    ((Kept.of_below (S := fun b => b = cb) (below_drewN (Below.refl _ w) k)).set (a := ⟨cb, 1, none⟩) rfl _).set (a := ⟨cb, 2, none⟩) rfl _
  have hk2 := hk1.trans (Kept.of_below (S := fun b => b = cb) (below_drewN (Below.refl _ _) k'))
  have hb' : (w.drewN k).heap[cb]? = some (.cells #[.slice ao n c, .int .i64 p, .int .u64 s] 45 (0, 0)) := hb
  exact ⟨⟨⟨p + 1, s', by omega, by rw [← e]; exact blk_set (blk_set hb' 1 _) 2 _⟩, hc.kept hk2⟩, hk2⟩

set_option maxHeartbeats 800000 in
set_option maxRecDepth 100000 in
theorem next_any (cb : Nat) (ao : Option Addr) (n c a : Nat) (w : World) (ha : a ≤ 1000000000000000000) (h : CurIs w cb ao n c a) :
    Calls Try.prog 44 #[.pointer (some ⟨cb, 0, none⟩)] w fun e w' => (∃ r : Nat, e = .returned (.int .i64 r) ∧ r ≤ 255) ∧ CurIs w' cb ao n c (a + 1) ∧ Kept w w' (fun b => b = cb) := by
  obtain ⟨⟨p, s, hp, hb⟩, hc⟩ := h
  have q0 : w.cell? ⟨cb, 0, none⟩ = some (.slice ao n c) := blk_cell hb 0 _ rfl
  have q1 : w.cell? ⟨cb, 1, none⟩ = some (.int .i64 p) := blk_cell hb 1 _ rfl
  have q2 : w.cell? ⟨cb, 2, none⟩ = some (.int .u64 s) := blk_cell hb 2 _ rfl
  have f1 := blk_free hb 1
  have f2 := blk_free hb 2
  have hw1 : IntKind.i64.wrap ((p : Int) + 1) = (p : Int) + 1 := by rw [IntKind.wrap_i64]; omega
  by_cases hlt : p < n
  · obtain ⟨b, off, v, rfl, hne, hcell, v0, v1⟩ := hc p hlt
    have d1 : decide ((p : Int) < (n : Int)) = true := by simp; omega
    have d2 : decide ((p : Int) + 1 ≤ (n : Int)) = true := by simp; omega
    have i1 : (p : Int) < (n : Int) := by omega
    have i0 : (0 : Int) ≤ (p : Int) := by omega
    go_enter Try.func44, Try.ntmps44
    go_wp2
    go_quiet (fail)
    go_wp2
    go_quiet (fail)
    go_wp2
    go_quiet (fail)
    go_wp2
    go_ret
    exact ⟨⟨v.toNat, by rw [show ((v.toNat : Nat) : Int) = v by omega]; rfl, by omega⟩, cur_on hp hb hc⟩
  · have d1 : decide ((p : Int) < (n : Int)) = false := by simp; omega
    have d2 : decide ((p : Int) + 1 ≤ (n : Int)) = false := by simp; omega
    go_enter Try.func44, Try.ntmps44
    go_wp2
    go_quiet (fail)
    go_wp2
    go_quiet (fail)
    go_wp2
    obtain ⟨r, hr, hr2⟩ := low_byte (IntKind.u64.wrap (IntKind.u64.wrap (s * 6364136223846793005)) + 1442695040888963407)
    rw [hr]
    go_ret
    exact ⟨⟨r, rfl, hr2⟩, cur_on hp hb hc⟩

/-- What a draw leaves: the cursor at most k places on. -/
def Drawn (w w' : World) (cb : Nat) (ao : Option Addr) (n c a : Nat) : Prop := CurIs w' cb ao n c a ∧ Kept w w' (fun b => b = cb)

set_option maxHeartbeats 800000 in
theorem pick_any (cb : Nat) (ao : Option Addr) (n c a : Nat) (m : Nat) (w : World) (ha : a ≤ 900000000000000000) (hm : 1 ≤ m) (hm2 : m ≤ 100000) (h : CurIs w cb ao n c a) :
    Calls Try.prog 16 #[.pointer (some ⟨cb, 0, none⟩), .int .i64 m] w fun e w' => (∃ r : Nat, e = .returned (.int .i64 r) ∧ r < m) ∧ CurIs w' cb ao n c (a + 2) ∧ Kept w w' (fun b => b = cb) := by
  by_cases h1 : m = 1
  · subst h1
    go_enter Try.func16, Try.ntmps16
    go_wp2
    go_ret
    exact ⟨⟨0, rfl, by omega⟩, h.more (by omega), Kept.refl _ _⟩
  · have d1 : decide ((m : Int) ≤ 1) = false := by simp; omega
    have m0 : ¬ ((m : Int) = 0) := by omega
    go_enter Try.func16, Try.ntmps16
    go_wp2_with fail
    refine (next_any cb ao n c a _ (by omega) h).mono ?_
    rintro e w1 ⟨⟨r, rfl, hr⟩, hc1, hk1⟩
    by_cases h2 : 200 < m
    · have d2 : decide ((200 : Int) < (m : Int)) = true := by simp; omega
      go_wp2_with fail
      refine (next_any cb ao n c (a + 1) _ (by omega) hc1).mono ?_
      rintro e w2 ⟨⟨r2, rfl, hr2⟩, hc2, hk2⟩
      have hw : IntKind.i64.wrap ((r : Int) * 256 + (r2 : Int)) = ((r * 256 + r2 : Nat) : Int) := by rw [IntKind.wrap_i64]; omega
      go_wp2
      go_ret
      exact ⟨⟨(r * 256 + r2) % m, by simp [Int.natCast_emod], Nat.mod_lt _ (by omega)⟩, hc2, hk1.trans hk2⟩
    · have d2 : decide ((200 : Int) < (m : Int)) = false := by simp; omega
      go_wp2
      go_ret
      exact ⟨⟨r % m, by simp [Int.natCast_emod], Nat.mod_lt _ (by omega)⟩, hc1.more (by omega), hk1⟩

theorem one_any (cb : Nat) (ao : Option Addr) (n c a : Nat) (m : Nat) (w : World) (ha : a ≤ 900000000000000000) (hm : 1 ≤ m) (hm2 : m ≤ 100000) (h : CurIs w cb ao n c a) :
    Calls Try.prog 17 #[.pointer (some ⟨cb, 0, none⟩), .int .i64 m] w fun e w' => (∃ b : Bool, e = .returned (.bool b)) ∧ CurIs w' cb ao n c (a + 2) ∧ Kept w w' (fun b => b = cb) := by
  go_enter Try.func17, Try.ntmps17
  go_wp2_with fail
  refine (pick_any cb ao n c a m _ ha hm hm2 h).mono ?_
  rintro e w1 ⟨⟨r, rfl, hr⟩, hc1, hk1⟩
  cases hd : ((r : Int) == 0) with
  | true =>
    go_wp2
    go_ret
    exact ⟨⟨_, rfl⟩, hc1, hk1⟩
  | false =>
    go_wp2
    go_ret
    exact ⟨⟨_, rfl⟩, hc1, hk1⟩

end Go.Proofs.Ytdmkpflphjemoaa

namespace Go.Proofs.Ytdmkpflphjemoaa
open Go.RowKit

theorem among_any (cb : Nat) (ao : Option Addr) (n c a : Nat) (b off m cap : Nat) (F : Nat → Int) (w : World) (ha : a ≤ 900000000000000000) (hm : 1 ≤ m) (hm2 : m ≤ 100000) (h : CurIs w cb ao n c a) (hne : b ≠ cb) (hF : ∀ k, k < m → w.cell? ⟨b, off + k, none⟩ = some (.int .i64 (F k))) :
    Calls Try.prog 18 #[.pointer (some ⟨cb, 0, none⟩), .slice (some ⟨b, off, none⟩) m cap] w fun e w' => (∃ x : Int, e = .returned (.int .i64 x)) ∧ CurIs w' cb ao n c (a + 2) ∧ Kept w w' (fun b => b = cb) := by
  have HF : Hid (∀ k, k < m → w.cell? ⟨b, off + k, none⟩ = some (.int .i64 (F k))) := hF
  clear hF
  go_enter Try.func18, Try.ntmps18
  go_wp2_with fail
  refine (pick_any cb ao n c a m _ ha hm hm2 h).mono ?_
  rintro e w1 ⟨⟨r, rfl, hr⟩, hc1, hk1⟩
  have c1 := hk1.cellAt (HF.out r hr) hne
  have i1 : (r : Int) < (m : Int) := by omega
  go_wp2
  go_ret
  exact ⟨⟨_, rfl⟩, hc1, hk1⟩

end Go.Proofs.Ytdmkpflphjemoaa
