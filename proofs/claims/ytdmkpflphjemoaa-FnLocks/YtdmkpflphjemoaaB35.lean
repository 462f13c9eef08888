/-
  OWN TEXT: ForS0, ConcatA.
-/
import Derived.Deep.LoopGhost
import Derived.Lib.AppendZeros
import Derived.Test.YtdmkpflphjemoaaB33
import Derived.Test.YtdmkpflphjemoaaB10
import Derived.Test.YtdmkpflphjemoaaB05
namespace Go.Proofs.Ytdmkpflphjemoaa
open Go.RowKit

/-- ks is the rising list of those that x waits for. -/
def ForIs (N : Nat) (H Q : Nat → Line) (x : Int) (ks : List Int) : Prop :=
  (noWait N Q x ∧ ks = []) ∨ ∃ i j, waitsIn N Q x i ∧ firstAt (Q i) x j ∧ Strict ks ∧ ∀ y, y ∈ ks ↔ y ∈ seqTo (catLine (H i) (Q i) j) ((Q i).S j) ((H i).n + j)
theorem forIs_one {N : Nat} {H Q : Nat → Line} {x : Int} {ks ks' : List Int} (h : ForIs N H Q x ks) (h' : ForIs N H Q x ks') : ks' = ks := by
  rcases h with ⟨hn, rfl⟩ | ⟨i, j, hi, hj, hs, hm⟩
  · rcases h' with ⟨_, rfl⟩ | ⟨i, j, hi, _⟩
    · rfl
    · exact absurd hi (noWait_not hn)
  · rcases h' with ⟨hn, _⟩ | ⟨i', j', hi', hj', hs', hm'⟩
    · exact absurd hi (noWait_not hn)
    · obtain rfl := waitsIn_one hi hi'
      obtain rfl := firstAt_one hj hj'
      exact strict_one hs' hs (fun y => (hm' y).trans (hm y).symm)

end Go.Proofs.Ytdmkpflphjemoaa

namespace Go.Proofs.Ytdmkpflphjemoaa
open Go.RowKit

theorem ahead_is (ad : Addr) (n c j : Nat) (w : World) (hj : j ≤ n) (hn : n ≤ c) : Calls Try.prog 65 #[.slice (some ad) n c, .int .i64 j] w fun e w' => e = .returned (.slice (some ad) j j) ∧ w' = w := by
  have h1 : (j : Int) ≤ (c : Int) := by omega
  have h2 : (0 : Int) ≤ (j : Int) := by omega
  go_enter Try.func65, Try.ntmps65
  go_wp2
  go_ret
  exact ⟨rfl, rfl⟩

set_option maxHeartbeats 800000 in
theorem grow_nil (k : Nat) (w : World) (h0 : 0 < k) (hk : k ≤ 4194304) :
    Calls Try.prog 80 #[.slice none 0 0, .int .i64 k] w fun e w' => (∃ v, e = .returned v ∧ w'.ownsRow w.heap.size 57 2 v 0 []) ∧ Below w.heap.size w w' := by
  obtain ⟨j0, ji, jz0, jz1, jz2⟩ := info_parts Try.infoAsked
  have hrun := Lib.run_append_nil_zeros (P := Try.prog) w 79 3 79 57 j0 (.agg #[.int .i64 0, .bool false]) .i64 .i64 Try.underlying79 Try.underlying3 ji jz0 k h0 (by omega) (by omega) (by rw [jz2]; omega)
  have d0 : decide ((k : Int) < 0) = false := by simp
  have d1 : decide (0 < k) = true := by simpa using h0
  go_enter Try.func80, Try.ntmps80
  go_wp2_with (first | (at_builtin; refine Lib.wpList_append_run _ rfl _ _ _ _ rfl _ _ rfl rfl _ _ hrun ?_))
  go_ret
  have hge := grownCap_ge w k 0 57
  refine ⟨⟨_, rfl, rfl, .inr ⟨w.heap.size, _, _, rfl, Nat.le_refl _, heap_alloc_new w _, Nat.zero_le _, grownCap_le_maxLen w k 0 _ (by unfold maxLen; omega), ?_, rfl⟩⟩, (push (Below.refl _ w) _).drew⟩
  rw [Array.size_append, size_zeroCells, size_zeroCells]
  show k * 2 + (_ - k) * 2 = _ * 2
  omega

def cum2 (n j r : Nat) : Nat := if r = 0 then 0 else if r = 1 then n else n + j

set_option maxHeartbeats 3200000 in
set_option maxRecDepth 100000 in
theorem concat_two (lb : Nat) (ha qa : Option Addr) (n j hc qc : Nat) (h q : Line) (w : World) (e1 : h.n = n) (hn0 : 0 < n) (hn : n ≤ 1048576) (hj : j ≤ 1048576) (hq : j ≤ q.n)
    (hlb : w.heap[lb]? = some (.cells #[.slice ha n hc, .slice qa j qc] 79 (0, 0))) (hx : LineAt w ha h) (hy : LineAt w qa q) (hna : ha = none → n = 0 ∧ hc = 0) (hnq : qa = none → j = 0 ∧ qc = 0) :
    Calls Try.prog 64 #[.slice (some ⟨lb, 0, none⟩) 2 2] w fun e w' => (∃ ao' c', e = .returned (.slice ao' (n + j) c') ∧ w'.ownsRow w.heap.size 57 2 (.slice ao' (n + j) c') (n + j) (askList (catLine h q j))) ∧ Below w.heap.size w w' := by
  obtain ⟨j0, ji, jz0, jz1, jz2⟩ := info_parts Try.infoAsked
  have E1 : Hid (h.n = n) := e1
  clear e1
  have p0 : w.cell? ⟨lb, 0, none⟩ = some (.slice ha n hc) := blk_cell hlb 0 _ rfl
  have p1 : w.cell? ⟨lb, 1, none⟩ = some (.slice qa j qc) := blk_cell hlb 1 _ rfl
  have c0 : cum2 n j 0 = 0 := rfl
  have c1 : cum2 n j 1 = n := rfl
  have c2 : cum2 n j 2 = n + j := rfl
  go_enter Try.func64, Try.ntmps64
  go_wp2
  go_loopg [3, 11] 2 (fun g s i wr => ∃ r : Nat, r ≤ 2 ∧ g = 2 - r ∧ i = .int .i64 r ∧ s = .int .i64 (cum2 n j r) ∧ wr = w)
  case atStart => exact ⟨0, by omega, rfl, rfl, rfl, rfl⟩
  case round =>
    obtain ⟨r, hr, rfl, rfl, rfl, hwr⟩ := hrel
    have hwr' := hwr.symm
    subst hwr'
    clear hwr
    have hc3 : r = 0 ∨ r = 1 ∨ r = 2 := by omega
    rcases hc3 with rfl | rfl | rfl
    · go_wp2
      go_roundg 1
      case measure => omega
      case rel => exact ⟨1, by omega, rfl, by go_num, by rw [c1], rfl⟩
    · have hd : decide ((n : Int) + (j : Int) < 0) = false := by simp; omega
      go_wp2
      go_roundg 0
      case measure => omega
      case rel => exact ⟨2, by omega, rfl, by go_num, by rw [c2]; go_num, rfl⟩
    · go_wp2_with fail
      refine (grow_nil (n + j) _ (by omega) (by omega)).mono ?_
      rintro e w1 ⟨⟨v, rfl, ho1⟩, hb1⟩
      have hlb1 := blk_below hlb hb1
      clear p0 p1
      go_wp2
      go_loopg [6, 27] 2 (fun g u i wr => ∃ r : Nat, r ≤ 2 ∧ g = 2 - r ∧ i = .int .i64 r ∧ wr.ownsRow w.heap.size 57 2 u (cum2 n j r) (askList (headLine (catLine h q j) (cum2 n j r))) ∧ Below w.heap.size w wr)
      case atStart => exact ⟨0, by omega, rfl, rfl, ho1, hb1⟩
      case round =>
        obtain ⟨r, hr, rfl, rfl, ho, hbel⟩ := hrel
        obtain ⟨w2, ew2⟩ : ∃ x, x = wr := ⟨_, rfl⟩
        subst ew2
        have hsz := hbel.size
        have hlb2 := blk_below hlb hbel
        have p0 : w2.cell? ⟨lb, 0, none⟩ = some (.slice ha n hc) := blk_cell hlb2 0 _ rfl
        have p1 : w2.cell? ⟨lb, 1, none⟩ = some (.slice qa j qc) := blk_cell hlb2 1 _ rfl
        have hc3 : r = 0 ∨ r = 1 ∨ r = 2 := by omega
        rcases hc3 with rfl | rfl | rfl
        · go_wp2_with (first | (at_builtin; refine wpList_append_any _ (by rfl) (.tmp 31) (.tmp 32) 79 (by rfl) w.heap.size 57 j0 (.agg #[.int .i64 0, .bool false]) 2 16 Try.underlying79 ji jz0 jz1 jz2 rfl (by decide) _ 0 [] (by rfl) ho ha n hc (askList h) (by rfl) hna (by rw [askList_length, E1.out]) (line_cells (hx.below hbel)) (askList_one h) (by unfold maxLen; omega) (by omega) hsz ?_; intro v' w3 ho3 hg3))
          go_roundg 1
          case measure => omega
          case rel => exact ⟨1, by omega, rfl, by go_num, by
            rw [c1]; rw [Nat.zero_add, List.nil_append] at ho3
            have : askList (headLine (catLine h q j) n) = askList h := by
              unfold askList headLine
              rw [E1.out]
              refine List.map_congr_left (fun i hi => ?_)
              have hi' : i < n * 2 := by simpa using hi
              unfold askCell
              simp only
              rw [(cat_lo (q := q) (j := j) (show i / 2 < h.n by rw [E1.out]; omega)).1, (cat_lo (q := q) (j := j) (show i / 2 < h.n by rw [E1.out]; omega)).2]
            rw [this]; exact ho3, hbel.grown hg3 hsz (fun j hj => (ho.lt j hj).1)⟩
        · go_wp2_with (first | (at_builtin; refine wpList_append_any _ (by rfl) (.tmp 31) (.tmp 32) 79 (by rfl) w.heap.size 57 j0 (.agg #[.int .i64 0, .bool false]) 2 16 Try.underlying79 ji jz0 jz1 jz2 rfl (by decide) _ n (askList h) (by rfl) (by
            have : askList (headLine (catLine h q j) n) = askList h := by
              unfold askList headLine
              rw [E1.out]
              refine List.map_congr_left (fun i hi => ?_)
              have hi' : i < n * 2 := by simpa using hi
              unfold askCell
              simp only
              rw [(cat_lo (q := q) (j := j) (show i / 2 < h.n by rw [E1.out]; omega)).1, (cat_lo (q := q) (j := j) (show i / 2 < h.n by rw [E1.out]; omega)).2]
            rw [← this]; exact ho) qa j qc (askList (headLine q j)) (by rfl) hnq (by rw [askList_length]; rfl) (line_cells (headLine_at (hy.below hbel) hq)) (askList_one _) (by unfold maxLen; omega) (by omega) hsz ?_; intro v' w3 ho3 hg3))
          go_roundg 0
          case measure => omega
          case rel => exact ⟨2, by omega, rfl, by go_num, by
            rw [c2]
            have : askList (headLine (catLine h q j) (n + j)) = askList (catLine h q j) := by
              unfold askList headLine catLine
              simp only
              rw [E1.out]
            rw [this, askList_cat]; exact ho3, hbel.grown hg3 hsz (fun j hj => (ho.lt j hj).1)⟩
        · rw [c2] at ho
          have hcat : askList (headLine (catLine h q j) (n + j)) = askList (catLine h q j) := by
            unfold askList headLine catLine
            simp only
            rw [E1.out]
          rw [hcat] at ho
          obtain ⟨ao', c', rfl, _⟩ := own_form ho
          clear hcat
          go_wp2
          go_ret
          exact ⟨⟨ao', c', rfl, ho⟩, hbel⟩

end Go.Proofs.Ytdmkpflphjemoaa
