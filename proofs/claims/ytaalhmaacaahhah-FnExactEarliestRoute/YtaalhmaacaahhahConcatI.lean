/-
  OWN TEXT: contracts of slices.Grow at nil and slices.Concat at a list of numbers and one number.
-/
import Derived.Test.YtaalhmaacaahhahKitB
import Derived.Deep.LoopGhost
import Derived.Lib.AppendZeros
namespace Go.Proofs.Ytaalhmaacaahhah
open Go.RowKit

set_option maxHeartbeats 800000 in
theorem growI_nil (k : Nat) (w : World) (h0 : 0 < k) (hk : k ≤ 4194304) :
    Calls Try.prog 82 #[.slice none 0 0, .int .i64 k] w fun e w' => (∃ v, e = .returned v ∧ w'.ownsRow w.heap.size 3 1 v 0 []) ∧ Below w.heap.size w w' := by
  obtain ⟨j0, ji, jz0, jz1, jz2⟩ := info_parts Try.infoInt
  have hrun := Lib.run_append_nil_zeros (P := Try.prog) w 29 3 29 3 j0 (.int .i64 0) .i64 .i64 Try.underlying29 Try.underlying3 ji jz0 k h0 (by omega) (by omega) (by rw [jz2]; omega)
  have d0 : decide ((k : Int) < 0) = false := by simp
  have d1 : decide (0 < k) = true := by simpa using h0
  go_enter Try.func82, Try.ntmps82
  go_wp2_with (first | (at_builtin; refine Lib.wpList_append_run _ rfl _ _ _ _ rfl _ _ rfl rfl _ _ hrun ?_))
  go_ret
  have hge := grownCap_ge w k 0 3
  refine ⟨⟨_, rfl, rfl, .inr ⟨w.heap.size, _, _, rfl, Nat.le_refl _, heap_alloc_new w _, Nat.zero_le _, grownCap_le_maxLen w k 0 _ (by unfold maxLen; omega), ?_, rfl⟩⟩, (push (Below.refl _ w) _).drew⟩
  rw [Array.size_append, size_zeroCells, size_zeroCells]
  show k * 1 + (_ - k) * 1 = _ * 1
  omega

def cumI (n r : Nat) : Nat := if r = 0 then 0 else if r = 1 then n else n + 1
def partI (ls : List Int) (x : Int) (r : Nat) : List Int := if r = 0 then [] else if r = 1 then ls else ls ++ [x]

set_option maxHeartbeats 3200000 in
set_option maxRecDepth 100000 in
theorem concat_legs (lb qb : Nat) (ha : Option Addr) (n hc : Nat) (ls : List Int) (x : Int) (w : World) (e1 : ls.length = n) (hn : n ≤ 1048576)
    (hlb : w.heap[lb]? = some (.cells #[.slice ha n hc, .slice (some ⟨qb, 0, none⟩) 1 1] 29 (0, 0))) (hx : IntsAt w ha n (getI ls)) (hy : w.cell? ⟨qb, 0, none⟩ = some (.int .i64 x)) (hna : ha = none → n = 0 ∧ hc = 0) :
    Calls Try.prog 70 #[.slice (some ⟨lb, 0, none⟩) 2 2] w fun e w' => (∃ ao' c', e = .returned (.slice ao' (n + 1) c') ∧ w'.ownsRow w.heap.size 3 1 (.slice ao' (n + 1) c') (n + 1) (cellsI (ls ++ [x]))) ∧ Below w.heap.size w w' := by
  obtain ⟨j0, ji, jz0, jz1, jz2⟩ := info_parts Try.infoInt
  have E1 : Hid (ls.length = n) := e1
  have hqb := World.block_lt_of_cell? w _ hy
  have HX : Hid (IntsAt w ha ls.length (getI ls)) := by rw [Hid, e1]; exact hx
  clear e1 hx
  have p0 : w.cell? ⟨lb, 0, none⟩ = some (.slice ha n hc) := blk_cell hlb 0 _ rfl
  have p1 : w.cell? ⟨lb, 1, none⟩ = some (.slice (some ⟨qb, 0, none⟩) 1 1) := blk_cell hlb 1 _ rfl
  have c0 : cumI n 0 = 0 := rfl
  have c1 : cumI n 1 = n := rfl
  have c2 : cumI n 2 = n + 1 := rfl
  go_enter Try.func70, Try.ntmps70
  go_wp2
  go_loopg [3, 5, 11] 2 (fun g s _ i wr => ∃ r : Nat, r ≤ 2 ∧ g = 2 - r ∧ i = .int .i64 r ∧ s = .int .i64 (cumI n r) ∧ wr = w)
  case atStart => exact ⟨0, by omega, rfl, rfl, rfl, rfl⟩
  case round =>
    obtain ⟨r, hr, rfl, rfl, rfl, hwr⟩ := hrel
    have hwr' := hwr.symm
    subst hwr'
    clear hwr
    have hc3 : r = 0 ∨ r = 1 ∨ r = 2 := by omega
    rcases hc3 with rfl | rfl | rfl
    · go_wp2
      go_roundg 1
      case measure => omega
      case rel => exact ⟨1, by omega, rfl, by go_num, by rw [c1], rfl⟩
    · have hd : decide ((n : Int) + 1 < 0) = false := by simp; omega
      go_wp2
      go_roundg 0
      case measure => omega
      case rel => exact ⟨2, by omega, rfl, by go_num, by rw [c2]; go_num, rfl⟩
    · go_wp2_with fail
      refine (growI_nil (n + 1) _ (by omega) (by omega)).mono ?_
      rintro e w1 ⟨⟨v, rfl, ho1⟩, hb1⟩
      clear p0 p1
      go_wp2
      go_loopg [6, 8, 27] 2 (fun g u _ i wr => ∃ r : Nat, r ≤ 2 ∧ g = 2 - r ∧ i = .int .i64 r ∧ wr.ownsRow w.heap.size 3 1 u (cumI n r) (cellsI (partI ls x r)) ∧ Below w.heap.size w wr)
      case atStart => exact ⟨0, by omega, rfl, rfl, ho1, hb1⟩
      case round =>
        obtain ⟨r, hr, rfl, rfl, ho, hbel⟩ := hrel
        obtain ⟨w2, ew2⟩ : ∃ x, x = wr := ⟨_, rfl⟩
        subst ew2
        have hsz := hbel.size
        have hlb2 := blk_below hlb hbel
        have p0 : w2.cell? ⟨lb, 0, none⟩ = some (.slice ha n hc) := blk_cell hlb2 0 _ rfl
        have p1 : w2.cell? ⟨lb, 1, none⟩ = some (.slice (some ⟨qb, 0, none⟩) 1 1) := blk_cell hlb2 1 _ rfl
        have hc3 : r = 0 ∨ r = 1 ∨ r = 2 := by omega
        rcases hc3 with rfl | rfl | rfl
        · have HC : Hid (∀ ad, ha = some ad → ∀ j u, (cellsI ls)[j]? = some u → w2.cell? (ad.add j) = some u) := ints_cells (HX.out.below hbel)
          go_wp2_with (first | (at_builtin; refine wpList_append_any _ (by rfl) (.tmp 31) (.tmp 32) 29 (by rfl) w.heap.size 3 j0 (.int .i64 0) 1 8 Try.underlying29 ji jz0 jz1 jz2 rfl (by decide) _ 0 [] (by rfl) ho ha n hc (cellsI ls) (by rfl) hna (by rw [cellsI_length, E1.out, Nat.mul_one]) HC.out (cellsI_one ls) (by unfold maxLen; omega) (by omega) hsz ?_; intro v' w3 ho3 hg3))
          go_roundg 1
          case measure => omega
          case rel => exact ⟨1, by omega, rfl, by go_num, by
            rw [c1]; rw [Nat.zero_add, List.nil_append] at ho3; exact ho3, hbel.grown hg3 hsz (fun j hj => (ho.lt j hj).1)⟩
        · have HC : Hid (∀ ad, (some ⟨qb, 0, none⟩ : Option Addr) = some ad → ∀ j u, (cellsI [x])[j]? = some u → w2.cell? (ad.add j) = some u) := by
            intro ad e j u hu
            cases e
            obtain ⟨hj, rfl⟩ := intList_get _ _ _ _ hu
            obtain rfl : j = 0 := by simpa using hj
            exact (hbel.cell (p := ⟨qb, 0, none⟩) hqb).trans hy
          have ho' : w2.ownsRow w.heap.size 3 1 u6 n (cellsI ls) := ho
          clear ho
          go_wp2_with (first | (at_builtin; refine wpList_append_any _ (by rfl) (.tmp 31) (.tmp 32) 29 (by rfl) w.heap.size 3 j0 (.int .i64 0) 1 8 Try.underlying29 ji jz0 jz1 jz2 rfl (by decide) _ n (cellsI ls) (by rfl) ho' (some ⟨qb, 0, none⟩) 1 1 (cellsI [x]) (by rfl) (fun h => (by cases h)) (by rw [cellsI_length]; rfl) HC.out (cellsI_one _) (by unfold maxLen; omega) (by omega) hsz ?_; intro v' w3 ho3 hg3))
          go_roundg 0
          case measure => omega
          case rel => exact ⟨2, by omega, rfl, by go_num, by
            rw [c2]
            have : cellsI (partI ls x 2) = cellsI ls ++ cellsI [x] := cellsI_append _ _
            rw [this]; exact ho3, hbel.grown hg3 hsz (fun j hj => (ho'.lt j hj).1)⟩
        · rw [c2] at ho
          have ho' : w2.ownsRow w.heap.size 3 1 u6 (n + 1) (cellsI (ls ++ [x])) := ho
          clear ho
          obtain ⟨ao', c', rfl, _⟩ := own_form ho'
          go_wp2
          go_ret
          exact ⟨⟨ao', c', rfl, ho'⟩, hbel⟩

end Go.Proofs.Ytaalhmaacaahhah
