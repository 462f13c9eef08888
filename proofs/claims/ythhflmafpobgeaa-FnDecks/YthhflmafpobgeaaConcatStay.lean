/-
  OWN TEXT: contracts of slices.Grow at nil and slices.Concat at two lists of Stay.
-/
import Derived.Test.YthhflmafpobgeaaKitB
import Derived.Test.YthhflmafpobgeaaInfoStay
import Derived.Deep.LoopGhost
import Derived.Lib.AppendZeros
namespace Go.Proofs.Ythhflmafpobgeaa
open Go.RowKit

set_option maxHeartbeats 800000 in
theorem growStay_nil (k : Nat) (w : World) (hk : k ≤ 4194304) :
    Calls Try.prog 136 #[.slice none 0 0, .int .i64 k] w fun e w' => (∃ v, e = .returned v ∧ w'.ownsRow w.heap.size 72 4 v 0 []) ∧ Below w.heap.size w w' := by
  have d0 : decide ((k : Int) < 0) = false := by simp
  by_cases h0 : 0 < k
  · obtain ⟨j0, ji, jz0, jz1, jz2⟩ := info_parts Try.infoStay
    have hrun := Lib.run_append_nil_zeros (P := Try.prog) w 65 3 65 72 j0 (.agg #[.int .i64 0, .int .i64 0, .int .i64 0, .int .i64 0]) .i64 .i64 Try.underlying65 Try.underlying3 ji jz0 k h0 (by omega) (by omega) (by rw [jz2]; omega)
    have d1 : decide (0 < k) = true := by simpa using h0
    go_enter Try.func136, Try.ntmps136
    go_wp2_with (first | (at_builtin; refine Lib.wpList_append_run _ rfl _ _ _ _ rfl _ _ rfl rfl _ _ hrun ?_))
    go_ret
    have hge := grownCap_ge w k 0 72
    refine ⟨⟨_, rfl, rfl, .inr ⟨w.heap.size, _, _, rfl, Nat.le_refl _, heap_alloc_new w _, Nat.zero_le _, grownCap_le_maxLen w k 0 _ (by unfold maxLen; omega), ?_, rfl⟩⟩, (push (Below.refl _ w) _).drew⟩
    rw [Array.size_append, size_zeroCells, size_zeroCells]
    show k * 4 + (_ - k) * 4 = _ * 4
    omega
  · obtain rfl : k = 0 := by omega
    go_enter Try.func136, Try.ntmps136
    go_wp2
    go_ret
    exact ⟨⟨_, rfl, rfl, .inl ⟨rfl, rfl⟩⟩, Below.refl _ _⟩

def cumStay (n j r : Nat) : Nat := if r = 0 then 0 else if r = 1 then n else n + j

set_option maxHeartbeats 3200000 in
set_option maxRecDepth 100000 in
theorem concatStay (lb : Nat) (ha qa : Option Addr) (n j hc qc : Nat) (S T : Nat → Stay) (w : World) (hn : n ≤ 1048576) (hj : j ≤ 1048576)
    (hlb : w.heap[lb]? = some (.cells #[.slice ha n hc, .slice qa j qc] 65 (0, 0))) (hx : StaysAt w ha n S) (hy : StaysAt w qa j T) (hna : ha = none → n = 0 ∧ hc = 0) (hnq : qa = none → j = 0 ∧ qc = 0) :
    Calls Try.prog 93 #[.slice (some ⟨lb, 0, none⟩) 2 2] w fun e w' => (∃ v, e = .returned v ∧ w'.ownsRow w.heap.size 72 4 v (n + j) (stayList (stayCat S n T) (n + j))) ∧ Below w.heap.size w w' := by
  obtain ⟨j0, ji, jz0, jz1, jz2⟩ := info_parts Try.infoStay
  have HX : Hid (StaysAt w ha n S) := hx
  have HY : Hid (StaysAt w qa j T) := hy
  have p0 : w.cell? ⟨lb, 0, none⟩ = some (.slice ha n hc) := blk_cell hlb 0 _ rfl
  have p1 : w.cell? ⟨lb, 1, none⟩ = some (.slice qa j qc) := blk_cell hlb 1 _ rfl
  have c0 : cumStay n j 0 = 0 := rfl
  have c1 : cumStay n j 1 = n := rfl
  have c2 : cumStay n j 2 = n + j := rfl
  have hS : stayList (stayCat S n T) n = stayList S n := stayList_congr (fun i hi => if_pos hi)
  have HS : Hid (stayList (stayCat S n T) n = stayList S n) := hS
  clear hx hy hS
  go_enter Try.func93, Try.ntmps93
  go_wp2
  go_loopg [3, 5, 11] 2 (fun g s _ i wr => ∃ r : Nat, r ≤ 2 ∧ g = 2 - r ∧ i = .int .i64 r ∧ s = .int .i64 (cumStay n j r) ∧ wr = w)
  case atStart => exact ⟨0, by omega, rfl, rfl, rfl, rfl⟩
  case round =>
    obtain ⟨r, hr, rfl, rfl, rfl, hwr⟩ := hrel
    have hwr' := hwr.symm
    subst hwr'
    clear hwr
    have hc3 : r = 0 ∨ r = 1 ∨ r = 2 := by omega
    rcases hc3 with rfl | rfl | rfl
    · go_wp2
      go_roundg 1
      case measure => omega
      case rel => exact ⟨1, by omega, rfl, by go_num, by rw [c1], rfl⟩
    · have hd : decide ((n : Int) + (j : Int) < 0) = false := by simp; omega
      go_wp2
      go_roundg 0
      case measure => omega
      case rel => exact ⟨2, by omega, rfl, by go_num, by rw [c2]; go_num, rfl⟩
    · go_wp2_with fail
      refine (growStay_nil (n + j) _ (by omega)).mono ?_
      rintro e w1 ⟨⟨v, rfl, ho1⟩, hb1⟩
      clear p0 p1
      go_wp2
      go_loopg [6, 8, 27] 2 (fun g u _ i wr => ∃ r : Nat, r ≤ 2 ∧ g = 2 - r ∧ i = .int .i64 r ∧ wr.ownsRow w.heap.size 72 4 u (cumStay n j r) (stayList (stayCat S n T) (cumStay n j r)) ∧ Below w.heap.size w wr)
      case atStart => exact ⟨0, by omega, rfl, rfl, ho1, hb1⟩
      case round =>
        obtain ⟨r, hr, rfl, rfl, ho, hbel⟩ := hrel
        obtain ⟨w2, ew2⟩ : ∃ x, x = wr := ⟨_, rfl⟩
        subst ew2
        have hsz := hbel.size
        have hlb2 := blk_below hlb hbel
        have p0 : w2.cell? ⟨lb, 0, none⟩ = some (.slice ha n hc) := blk_cell hlb2 0 _ rfl
        have p1 : w2.cell? ⟨lb, 1, none⟩ = some (.slice qa j qc) := blk_cell hlb2 1 _ rfl
        have hc3 : r = 0 ∨ r = 1 ∨ r = 2 := by omega
        rcases hc3 with rfl | rfl | rfl
        · have HC : Hid (∀ ad, ha = some ad → ∀ i u, (stayList S n)[i]? = some u → w2.cell? (ad.add i) = some u) := stays_cells (HX.out.below hbel)
          go_wp2_with (first | (at_builtin; refine wpList_append_any _ (by rfl) (.tmp 31) (.tmp 32) 65 (by rfl) w.heap.size 72 j0 (.agg #[.int .i64 0, .int .i64 0, .int .i64 0, .int .i64 0]) 4 32 Try.underlying65 ji jz0 jz1 jz2 rfl (by decide) _ 0 [] (by rfl) ho ha n hc (stayList S n) (by rfl) hna (stayList_length _ _) HC.out (stayList_one _ _) (by unfold maxLen; omega) (by omega) hsz ?_; intro v' w3 ho3 hg3))
          go_roundg 1
          case measure => omega
          case rel => exact ⟨1, by omega, rfl, by go_num, by
            rw [c1]; rw [Nat.zero_add, List.nil_append] at ho3; rw [HS.out]; exact ho3, hbel.grown hg3 hsz (fun j hj => (ho.lt j hj).1)⟩
        · have HC : Hid (∀ ad, qa = some ad → ∀ i u, (stayList T j)[i]? = some u → w2.cell? (ad.add i) = some u) := stays_cells (HY.out.below hbel)
          rw [c1, HS.out] at ho
          go_wp2_with (first | (at_builtin; refine wpList_append_any _ (by rfl) (.tmp 31) (.tmp 32) 65 (by rfl) w.heap.size 72 j0 (.agg #[.int .i64 0, .int .i64 0, .int .i64 0, .int .i64 0]) 4 32 Try.underlying65 ji jz0 jz1 jz2 rfl (by decide) _ n (stayList S n) (by rfl) ho qa j qc (stayList T j) (by rfl) hnq (stayList_length _ _) HC.out (stayList_one _ _) (by unfold maxLen; omega) (by omega) hsz ?_; intro v' w3 ho3 hg3))
          go_roundg 0
          case measure => omega
          case rel => exact ⟨2, by omega, rfl, by go_num, by
            rw [c2, stayList_cat]; exact ho3, hbel.grown hg3 hsz (fun j hj => (ho.lt j hj).1)⟩
        · rw [c2] at ho
          go_wp2
          go_ret
          exact ⟨⟨_, rfl, ho⟩, hbel⟩

end Go.Proofs.Ythhflmafpobgeaa
