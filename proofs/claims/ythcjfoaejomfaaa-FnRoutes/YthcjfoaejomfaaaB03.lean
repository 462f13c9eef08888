/-
  OWN TEXT: DrawAm, DrawK.
-/
import Derived.Test.YthcjfoaejomfaaaB01
namespace Go.Proofs.Ythcjfoaejomfaaa
open Go.RowKit

theorem among_any (cb : Nat) (ao : Option Addr) (n c a : Nat) (b off m cap : Nat) (F : Nat → Int) (w : World) (ha : a ≤ 900000000000000000) (hm : 1 ≤ m) (hm2 : m ≤ 100000) (h : CurIs w cb ao n c a) (hne : b ≠ cb) (hF : ∀ k, k < m → w.cell? ⟨b, off + k, none⟩ = some (.int .i64 (F k))) :
    Calls Try.prog 14 #[.pointer (some ⟨cb, 0, none⟩), .slice (some ⟨b, off, none⟩) m cap] w fun e w' => (∃ x : Int, e = .returned (.int .i64 x)) ∧ CurIs w' cb ao n c (a + 2) ∧ Kept w w' (fun b => b = cb) := by
  have HF : Hid (∀ k, k < m → w.cell? ⟨b, off + k, none⟩ = some (.int .i64 (F k))) := hF
  clear hF
  go_enter Try.func14, Try.ntmps14
  go_wp2_with fail
  refine (pick_any cb ao n c a m _ ha hm hm2 h).mono ?_
  rintro e w1 ⟨⟨r, rfl, hr⟩, hc1, hk1⟩
  have c1 := hk1.cellAt (HF.out r hr) hne
  have i1 : (r : Int) < (m : Int) := by omega
  go_wp2
  go_ret
  exact ⟨⟨_, rfl⟩, hc1, hk1⟩

end Go.Proofs.Ythcjfoaejomfaaa

namespace Go.Proofs.Ythcjfoaejomfaaa
open Go.RowKit

/-- A cursor that stands behind new blocks. -/
theorem CurIs.below {w w' : World} {cb n c a : Nat} {ao : Option Addr} (h : CurIs w cb ao n c a) (hb : Below w.heap.size w w') : CurIs w' cb ao n c a := by
  obtain ⟨⟨p, s, hp, hk⟩, hc⟩ := h
  exact ⟨⟨p, s, hp, blk_below hk hb⟩, hc.kept (Kept.of_below hb)⟩

theorem CurIs.lt {w : World} {cb n c a : Nat} {ao : Option Addr} (h : CurIs w cb ao n c a) : cb < w.heap.size := by
  obtain ⟨⟨p, s, hp, hb⟩, _⟩ := h
  exact blk_lt hb

theorem CurIs.code_lt {w : World} {cb n c a : Nat} {ao : Option Addr} (h : CurIs w cb ao n c a) : ∀ k, k < n → ∀ b off, ao = some ⟨b, off, none⟩ → b < w.heap.size := by
  intro k hk b off e
  obtain ⟨b', off', v, e', _, hcell, _, _⟩ := h.2 k hk
  rw [e] at e'
  cases e'
  exact World.block_lt_of_cell? w _ hcell

set_option maxHeartbeats 800000 in
theorem amongL (cb : Nat) (ao : Option Addr) (n c a : Nat) (m : Nat) (l : List Int) (w : World) (hl : l.length = m) (ha : a ≤ 900000000000000000) (hm : 1 ≤ m) (hm2 : m ≤ 100000) (h : CurIs w cb ao n c a) (b : Nat) (hb : w.heap[b]? = some (.cells (l.map (fun x => Value.int .i64 x)).toArray 3 (0, 0))) (hne : b ≠ cb) :
    Calls Try.prog 14 #[.pointer (some ⟨cb, 0, none⟩), .slice (some ⟨b, 0, none⟩) m m] w fun e w' => (∃ x : Int, e = .returned (.int .i64 x)) ∧ CurIs w' cb ao n c (a + 2) ∧ Kept w w' (fun b => b = cb) := by
  refine among_any cb ao n c a b 0 m m (fun k => l.getD k 0) w ha hm hm2 h hne (fun k hk => ?_)
  rw [Nat.zero_add]
  refine blk_cell hb k _ ?_
  simp only [List.getElem?_toArray, List.getElem?_map, List.getD_eq_getElem?_getD]
  rw [List.getElem?_eq_getElem (by omega)]
  rfl

/-- The bytes at ao can be read. -/
def BytesAt (w : World) (ao : Option Addr) (n : Nat) : Prop := ∀ k, k < n → ∃ b off v, ao = some ⟨b, off, none⟩ ∧ w.cell? ⟨b, off + k, none⟩ = some (.int .u8 v) ∧ 0 ≤ v ∧ v ≤ 255

theorem BytesAt.below {w w' : World} {ao : Option Addr} {n : Nat} (h : BytesAt w ao n) (hb : Below w.heap.size w w') : BytesAt w' ao n := by
  intro k hk
  obtain ⟨b, off, v, e, hc, h1, h2⟩ := h k hk
  exact ⟨b, off, v, e, (hb.cell (World.block_lt_of_cell? w _ hc)).trans hc, h1, h2⟩

theorem cur_new {w : World} {ao : Option Addr} {n c : Nat} (h : BytesAt w ao n) : CurIs (w.alloc (.cells #[.slice ao n c, .int .i64 0, .int .u64 0] 40)) w.heap.size ao n c 0 := by
  refine ⟨⟨0, 0, Nat.le_refl _, heap_alloc_new w _⟩, fun k hk => ?_⟩
  obtain ⟨b, off, v, e, hc, h1, h2⟩ := h k hk
  have hlt : b < w.heap.size := World.block_lt_of_cell? w _ hc
  exact ⟨b, off, v, e, by omega, ((push (Below.refl _ w) _).cell (p := ⟨b, off + k, none⟩) hlt).trans hc, h1, h2⟩

end Go.Proofs.Ythcjfoaejomfaaa
