/-
  OWN TEXT: PutL, ImplL1.
-/
import Derived.Deep.LoopGhost
import Derived.Deep.DeepCutAuto
import Derived.Test.YtdmkpflphjemoaaB05
import Derived.Test.YtdmkpflphjemoaaB09
import Derived.Test.YtdmkpflphjemoaaB04
namespace Go.Proofs.Ytdmkpflphjemoaa
open Go.RowKit

theorem cellsI_map (l : List Int) : cellsI l = l.map (fun x => .int .i64 x) := by
  unfold cellsI intList
  apply List.ext_getElem?
  intro i
  rw [List.getElem?_map, List.getElem?_map]
  by_cases hi : i < l.length
  · rw [List.getElem?_range hi, List.getElem?_eq_getElem hi]; simp [getI, List.getElem?_eq_getElem hi]
  · rw [List.getElem?_eq_none (by simpa using hi), List.getElem?_eq_none (by omega)]; rfl
theorem cellsI_append (a b : List Int) : cellsI (a ++ b) = cellsI a ++ cellsI b := by simp [cellsI_map]
theorem cellsI_length (l : List Int) : (cellsI l).length = l.length := by simp [cellsI_map]
theorem cellsI_one (l : List Int) : ∀ u ∈ cellsI l, u.oneCell' = true := by
  intro u hu
  rw [cellsI_map] at hu
  simp only [List.mem_map] at hu
  obtain ⟨x, _, rfl⟩ := hu
  rfl
/-- The cells of a part of a row of numbers, read at its place. -/
theorem part_cells {w : World} {base g c k m : Nat} {ks ps : List Int} (h : WaitsIs w base (.slice (some ⟨g, 0, none⟩) ks.length c) ks) (hp : ∀ j, j < ps.length → ps[j]? = ks[k + j]?) (hm : k + ps.length ≤ ks.length) (_ : m = ps.length) :
    ∀ ad, some (⟨g, k, none⟩ : Addr) = some ad → ∀ j u, (cellsI ps)[j]? = some u → w.cell? (ad.add j) = some u := by
  intro ad e j u hu
  simp only [Option.some.injEq] at e
  subst e
  rw [cellsI_map, List.getElem?_map] at hu
  by_cases hj : j < ps.length
  · rw [hp j hj] at hu
    rw [Addr.add_lit, World.ownsRow.cellAt h (k + j) (by omega), cellsI_map, List.getElem?_map]
    exact hu
  · rw [List.getElem?_eq_none (by omega)] at hu; cases hu

theorem strict_getI {ks : List Int} (h : Strict ks) {p q : Nat} (hpq : p < q) (hq : q < ks.length) : getI ks p < getI ks q := by
  have hp : p < ks.length := by omega
  have := (List.pairwise_iff_getElem.1 h) p q hp hq hpq
  simpa [getI, List.getElem?_eq_getElem hp, List.getElem?_eq_getElem hq] using this

set_option maxHeartbeats 3200000 in
set_option maxRecDepth 100000 in
theorem l1Put_any (ao : Option Addr) (n c base : Nat) (ks : List Int) (x : Int) (w : World) (hkl : ks.length ≤ 12) (hst : Strict ks) (hw : WaitsIs w base (.slice ao n c) ks) (hbase : base ≤ w.heap.size) :
    Calls Try.prog 58 #[.slice ao n c, .int .i64 x] w fun e w' => (∃ v' ks', e = .returned v' ∧ WaitsIs w' base v' ks' ∧ Hid (Strict ks' ∧ ∀ y, y ∈ ks' ↔ y ∈ ks ∨ y = x)) ∧ Below w.heap.size w w' := by
  obtain ⟨j0, ji, jz0, jz1, jz2⟩ := info_parts Try.infoInt
  have hlen := hw.len
  subst hlen
  have HST : Hid (Strict ks) := hst
  clear hst
  rcases hw.2 with ⟨hv, h0⟩ | ⟨g, cap, cur, hv, hbg, hg, hcap, hcap2, hq1, hq2⟩
  · obtain rfl : ks = [] := List.eq_nil_of_length_eq_zero h0
    simp only [Value.slice.injEq, List.length_nil, true_and] at hv
    obtain ⟨rfl, rfl⟩ := hv
    go_enter Try.func58, Try.ntmps58
    go_wp2
    go_loopg [5] 1 (fun g i wr => g = 1 ∧ i = .int .i64 0 ∧ wr = w)
    case atStart => exact ⟨rfl, rfl, rfl⟩
    case round =>
      obtain ⟨rfl, rfl, rfl⟩ := hrel
      go_wp2_with (first | (at_builtin; refine wpList_append_any _ (by rfl) (.tmp 34) (.tmp 37) 33 (by rfl) wr.heap.size 3 j0 (.int .i64 0) 1 8 Try.underlying33 ji jz0 jz1 jz2 rfl (by decide) (.slice none 0 0) 0 [] (by rfl) (World.ownsRow_nil _ _ _ _) none 0 0 [] (by rfl) (fun _ => ⟨rfl, rfl⟩) (by rfl) (by intro ad h; cases h) (by intro u hu; cases hu) (by unfold maxLen; omega) (by omega) (Nat.le_refl _) ?_; intro v1 w1 ho1 hg1; have hb1 := (Below.refl wr.heap.size wr).grown hg1 (Nat.le_refl _) (by intro j hj; simp [Value.ownBlock] at hj); have hsz1 := hb1.size) | (at_builtin; refine wpList_append_any _ (by rfl) (.tmp 39) (.tmp 41) 33 (by rfl) wr.heap.size 3 j0 (.int .i64 0) 1 8 Try.underlying33 ji jz0 jz1 jz2 rfl (by decide) v1 0 [] (by rfl) (ho1.alloc _) (some ⟨w1.heap.size, 0, none⟩) 1 1 [.int .i64 x] (by rfl) (by intro h; cases h) (by rfl) (by intro ad h; simp only [Option.some.injEq] at h; subst h; exact World.news_of_block (heap_alloc_new w1 _)) (by intro u hu; simp at hu; subst hu; rfl) (by unfold maxLen; omega) (by omega) (by simp; omega) ?_; intro v2 w2 ho2 hg2; have hb2 := (push hb1 (.cells #[.int .i64 x] 3)).grown hg2 (by simp; omega) (fun j hj => (ho1.lt j hj).1); have hsz2 := hb2.size) | (at_builtin; refine wpList_append_any _ (by rfl) (.tmp 43) (.tmp 46) 33 (by rfl) wr.heap.size 3 j0 (.int .i64 0) 1 8 Try.underlying33 ji jz0 jz1 jz2 rfl (by decide) v2 1 [.int .i64 x] (by rfl) ho2 none 0 0 [] (by rfl) (fun _ => ⟨rfl, rfl⟩) (by rfl) (by intro ad h; cases h) (by intro u hu; cases hu) (by unfold maxLen; omega) (by omega) (by omega) ?_; intro v3 w3 ho3 hg3; have hb3 := hb2.grown hg3 hsz2 (fun j hj => (ho2.lt j hj).1)))
      go_ret
      exact ⟨⟨v3, [x], rfl, own_base (base := wr.heap.size) (by unfold WaitsIs at *; simpa [cellsI_map] using ho3) hbase, ⟨by simp [Strict], by simp⟩⟩, hb3⟩
  · simp only [Value.slice.injEq, true_and] at hv
    obtain ⟨rfl, rfl⟩ := hv
    have HW : Hid (WaitsIs w base (.slice (some ⟨g, 0, none⟩) ks.length c) ks) := hw
    have hcell : ∀ j, j < ks.length → w.cell? ⟨g, j, none⟩ = some (.int .i64 (getI ks j)) := fun j hj => own_cell hw j (by omega) (by simp)
    have HC : Hid (∀ j, j < ks.length → w.cell? ⟨g, j, none⟩ = some (.int .i64 (getI ks j))) := hcell
    clear hcell hw
    generalize hn : ks.length = n at *
    have HN : Hid (ks.length = n) := hn
    clear hn hg hq1 hq2 cur
    go_enter Try.func58, Try.ntmps58
    go_wp2
    go_loopg [5] n (fun gh i wr => ∃ k : Nat, k ≤ n ∧ gh = n - k ∧ i = .int .i64 k ∧ (∀ j, j < k → getI ks j < x) ∧ wr = w)
    case atStart => exact ⟨0, Nat.zero_le _, rfl, rfl, fun j hj => by omega, rfl⟩
    case round =>
      obtain ⟨k, hk, rfl, rfl, hlo, hwr⟩ := hrel
      have hwr' := hwr.symm
      subst hwr'
      have HLO : Hid (∀ j, j < k → getI ks j < x) := hlo
      clear hlo hwr
      have hk1 : (k : Int) ≤ (n : Int) := by omega
      by_cases hlt : k < n
      · have c1 := HC.out k hlt
        have hk2 : (k : Int) < (n : Int) := by omega
        by_cases hx : getI ks k < x
        · have d1 : decide (getI ks k < x) = true := by simpa using hx
          have HX : Hid (getI ks k < x) := hx
          clear hx
          go_wp2
          go_roundg (n - (k + 1))
          case measure => omega
          case rel => exact ⟨k + 1, by omega, rfl, by go_num, fun j hj => by
            by_cases e : j = k
            · subst e; exact HX.out
            · exact HLO.out j (by omega), rfl⟩
        · have d1 : decide (getI ks k < x) = false := by simpa using hx
          by_cases he : getI ks k = x
          · have d2 : (getI ks k == x) = true := by simpa using he
            have HE : Hid (getI ks k = x) := he
            clear he hx
            go_wp2
            go_ret
            refine ⟨⟨_, ks, rfl, HW.out, ⟨HST.out, fun y => ⟨.inl, fun h => ?_⟩⟩⟩, Below.refl _ _⟩
            rcases h with h | h
            · exact h
            · rw [h, ← HE.out]; exact getI_mem.2 ⟨k, by rw [HN.out]; exact hlt, rfl⟩
          · have d2 : (getI ks k == x) = false := by simpa using he
            have HX : Hid (x < getI ks k) := by show x < getI ks k; omega
            clear he hx
            have HT : Hid ((ks.take k).length = k ∧ (ks.drop k).length = n - k) := ⟨by rw [List.length_take, HN.out]; omega, by rw [List.length_drop, HN.out]⟩
            have hT := HT.out.1
            have hD := HT.out.2
            have p1 := part_cells (k := 0) (m := k) (ps := ks.take k) (by have := HW.out; rw [← HN.out] at this; exact this) (fun j hj => by rw [List.getElem?_take, if_pos (by omega), Nat.zero_add]) (by rw [hT, HN.out]; omega) hT.symm
            have p3 := fun (w2 : World) (h : Below w.heap.size w w2) => part_cells (w := w2) (k := k) (m := n - k) (ps := ks.drop k) (c := c) (base := base) (by have := HW.out.below h; rw [← HN.out] at this; exact this) (fun j hj => by rw [List.getElem?_drop]) (by rw [hD, HN.out]; omega) hD.symm
            have P3 : Hid (∀ w2, Below w.heap.size w w2 → ∀ ad, some (⟨g, k, none⟩ : Addr) = some ad → ∀ j u, (cellsI (ks.drop k))[j]? = some u → w2.cell? (ad.add j) = some u) := p3
            clear p3
            go_wp2_with (first | (at_builtin; refine wpList_append_any _ (by rfl) (.tmp 34) (.tmp 37) 33 (by rfl) w.heap.size 3 j0 (.int .i64 0) 1 8 Try.underlying33 ji jz0 jz1 jz2 rfl (by decide) (.slice none 0 0) 0 [] (by rfl) (World.ownsRow_nil _ _ _ _) (some ⟨g, 0, none⟩) k c (cellsI (ks.take k)) (by rfl) (by intro h; cases h) (by rw [cellsI_length]; omega) p1 (cellsI_one _) (by unfold maxLen; omega) (by omega) (Nat.le_refl _) ?_; intro v1 w1 ho1 hg1; rw [Nat.zero_add, List.nil_append] at ho1; have hb1 := (Below.refl w.heap.size w).grown hg1 (Nat.le_refl _) (by intro j hj; simp [Value.ownBlock] at hj); have hsz1 := hb1.size) | (at_builtin; refine wpList_append_any _ (by rfl) (.tmp 39) (.tmp 41) 33 (by rfl) w.heap.size 3 j0 (.int .i64 0) 1 8 Try.underlying33 ji jz0 jz1 jz2 rfl (by decide) v1 k (cellsI (ks.take k)) (by rfl) (ho1.alloc _) (some ⟨w1.heap.size, 0, none⟩) 1 1 [.int .i64 x] (by rfl) (by intro h; cases h) (by rfl) (by intro ad h; simp only [Option.some.injEq] at h; subst h; exact World.news_of_block (heap_alloc_new w1 _)) (by intro u hu; simp at hu; subst hu; rfl) (by unfold maxLen; omega) (by omega) (by simp; omega) ?_; intro v2 w2 ho2 hg2; have hb2 := (push hb1 (.cells #[.int .i64 x] 3)).grown hg2 (by simp; omega) (fun j hj => (ho1.lt j hj).1); have hsz2 := hb2.size) | (at_builtin; refine wpList_append_any _ (by rfl) (.tmp 43) (.tmp 46) 33 (by rfl) w.heap.size 3 j0 (.int .i64 0) 1 8 Try.underlying33 ji jz0 jz1 jz2 rfl (by decide) v2 (k + 1) (cellsI (ks.take k) ++ [.int .i64 x]) (by rfl) ho2 (some ⟨g, k, none⟩) (n - k) (c - k) (cellsI (ks.drop k)) (by rfl) (by intro h; cases h) (by rw [cellsI_length]; omega) (P3.out w2 hb2) (cellsI_one _) (by unfold maxLen; omega) (by omega) (by omega) ?_; intro v3 w3 ho3 hg3; have hb3 := hb2.grown hg3 hsz2 (fun j hj => (ho2.lt j hj).1)))
            go_ret
            have hput := strict_put (x := x) k HST.out (fun y hy => by
              obtain ⟨j, hj, e⟩ := getI_mem.1 hy
              rw [hT] at hj
              have : getI (ks.take k) j = getI ks j := by simp [getI, hj]
              rw [← e, this]; exact HLO.out j hj) (fun y hy => by
              obtain ⟨j, hj, e⟩ := getI_mem.1 hy
              have e2 : getI (ks.drop k) j = getI ks (k + j) := by simp [getI, List.getElem?_drop]
              rw [← e, e2]
              by_cases j00 : j = 0
              · subst j00; exact HX.out
              · have := strict_getI HST.out (show k < k + j by omega) (by rw [hD] at hj; have := HN.out; omega); have := HX.out; omega)
            refine ⟨⟨v3, ks.take k ++ [x] ++ ks.drop k, rfl, own_base (base := w.heap.size) ?_ hbase, hput⟩, hb3⟩
            rw [cellsI_append, cellsI_append, show cellsI [x] = [.int .i64 x] by simp [cellsI_map], List.length_append, List.length_append, hT, hD]
            exact ho3
      · obtain rfl : k = n := by omega
        have hT : (ks.take k).length = k := by rw [List.length_take, HN.out]; omega
        have HTK : Hid (ks.take k = ks) := List.take_of_length_le (by rw [HN.out]; exact Nat.le_refl _)
        have p1 := part_cells (k := 0) (m := k) (ps := ks.take k) (by have := HW.out; rw [← HN.out] at this; exact this) (fun j hj => by rw [List.getElem?_take, if_pos (by omega), Nat.zero_add]) (by rw [hT, HN.out]; omega) hT.symm
        by_cases hkc : k = c
        · subst hkc
          go_wp2_with (first | (at_builtin; refine wpList_append_any _ (by rfl) (.tmp 34) (.tmp 37) 33 (by rfl) w.heap.size 3 j0 (.int .i64 0) 1 8 Try.underlying33 ji jz0 jz1 jz2 rfl (by decide) (.slice none 0 0) 0 [] (by rfl) (World.ownsRow_nil _ _ _ _) (some ⟨g, 0, none⟩) k k (cellsI (ks.take k)) (by rfl) (by intro h; cases h) (by rw [cellsI_length]; omega) p1 (cellsI_one _) (by unfold maxLen; omega) (by omega) (Nat.le_refl _) ?_; intro v1 w1 ho1 hg1; rw [Nat.zero_add, List.nil_append] at ho1; have hb1 := (Below.refl w.heap.size w).grown hg1 (Nat.le_refl _) (by intro j hj; simp [Value.ownBlock] at hj); have hsz1 := hb1.size) | (at_builtin; refine wpList_append_any _ (by rfl) (.tmp 39) (.tmp 41) 33 (by rfl) w.heap.size 3 j0 (.int .i64 0) 1 8 Try.underlying33 ji jz0 jz1 jz2 rfl (by decide) v1 k (cellsI (ks.take k)) (by rfl) (ho1.alloc _) (some ⟨w1.heap.size, 0, none⟩) 1 1 [.int .i64 x] (by rfl) (by intro h; cases h) (by rfl) (by intro ad h; simp only [Option.some.injEq] at h; subst h; exact World.news_of_block (heap_alloc_new w1 _)) (by intro u hu; simp at hu; subst hu; rfl) (by unfold maxLen; omega) (by omega) (by simp; omega) ?_; intro v2 w2 ho2 hg2; have hb2 := (push hb1 (.cells #[.int .i64 x] 3)).grown hg2 (by simp; omega) (fun j hj => (ho1.lt j hj).1); have hsz2 := hb2.size) | (at_builtin; refine wpList_append_any _ (by rfl) (.tmp 43) (.tmp 46) 33 (by rfl) w.heap.size 3 j0 (.int .i64 0) 1 8 Try.underlying33 ji jz0 jz1 jz2 rfl (by decide) v2 (k + 1) (cellsI (ks.take k) ++ [.int .i64 x]) (by rfl) ho2 (some ⟨g, 0, none⟩) 0 0 [] (by rfl) (by intro h; cases h) (by rfl) (by intro ad _ j u h; simp at h) (by intro u hu; cases hu) (by unfold maxLen; omega) (by omega) (by omega) ?_; intro v3 w3 ho3 hg3; have hb3 := hb2.grown hg3 hsz2 (fun j hj => (ho2.lt j hj).1)))
          go_ret
          have hput := strict_put (x := x) k HST.out (fun y hy => by
            rw [HTK.out] at hy
            obtain ⟨j, hj, e⟩ := getI_mem.1 hy
            rw [HN.out] at hj
            rw [← e]; exact HLO.out j hj) (fun y hy => by
            rw [List.drop_eq_nil_of_le (by rw [HN.out]; exact Nat.le_refl _)] at hy; cases hy)
          rw [List.drop_eq_nil_of_le (by rw [HN.out]; exact Nat.le_refl _), List.append_nil] at hput
          refine ⟨⟨v3, ks.take k ++ [x], rfl, own_base (base := w.heap.size) ?_ hbase, hput⟩, hb3⟩
          rw [cellsI_append, show cellsI [x] = [.int .i64 x] by simp [cellsI_map], List.length_append, hT]
          rw [List.append_nil, Nat.add_zero] at ho3
          exact ho3
        · have hkc2 : k < c := by omega
          go_wp2_with (first | (at_builtin; refine wpList_append_any _ (by rfl) (.tmp 34) (.tmp 37) 33 (by rfl) w.heap.size 3 j0 (.int .i64 0) 1 8 Try.underlying33 ji jz0 jz1 jz2 rfl (by decide) (.slice none 0 0) 0 [] (by rfl) (World.ownsRow_nil _ _ _ _) (some ⟨g, 0, none⟩) k c (cellsI (ks.take k)) (by rfl) (by intro h; cases h) (by rw [cellsI_length]; omega) p1 (cellsI_one _) (by unfold maxLen; omega) (by omega) (Nat.le_refl _) ?_; intro v1 w1 ho1 hg1; rw [Nat.zero_add, List.nil_append] at ho1; have hb1 := (Below.refl w.heap.size w).grown hg1 (Nat.le_refl _) (by intro j hj; simp [Value.ownBlock] at hj); have hsz1 := hb1.size) | (at_builtin; refine wpList_append_any _ (by rfl) (.tmp 39) (.tmp 41) 33 (by rfl) w.heap.size 3 j0 (.int .i64 0) 1 8 Try.underlying33 ji jz0 jz1 jz2 rfl (by decide) v1 k (cellsI (ks.take k)) (by rfl) (ho1.alloc _) (some ⟨w1.heap.size, 0, none⟩) 1 1 [.int .i64 x] (by rfl) (by intro h; cases h) (by rfl) (by intro ad h; simp only [Option.some.injEq] at h; subst h; exact World.news_of_block (heap_alloc_new w1 _)) (by intro u hu; simp at hu; subst hu; rfl) (by unfold maxLen; omega) (by omega) (by simp; omega) ?_; intro v2 w2 ho2 hg2; have hb2 := (push hb1 (.cells #[.int .i64 x] 3)).grown hg2 (by simp; omega) (fun j hj => (ho1.lt j hj).1); have hsz2 := hb2.size) | (at_builtin; refine wpList_append_any _ (by rfl) (.tmp 43) (.tmp 46) 33 (by rfl) w.heap.size 3 j0 (.int .i64 0) 1 8 Try.underlying33 ji jz0 jz1 jz2 rfl (by decide) v2 (k + 1) (cellsI (ks.take k) ++ [.int .i64 x]) (by rfl) ho2 (some ⟨g, k, none⟩) 0 (c - k) [] (by rfl) (by intro h; cases h) (by rfl) (by intro ad _ j u h; simp at h) (by intro u hu; cases hu) (by unfold maxLen; omega) (by omega) (by omega) ?_; intro v3 w3 ho3 hg3; have hb3 := hb2.grown hg3 hsz2 (fun j hj => (ho2.lt j hj).1)))
          go_ret
          have hput := strict_put (x := x) k HST.out (fun y hy => by
            rw [HTK.out] at hy
            obtain ⟨j, hj, e⟩ := getI_mem.1 hy
            rw [HN.out] at hj
            rw [← e]; exact HLO.out j hj) (fun y hy => by
            rw [List.drop_eq_nil_of_le (by rw [HN.out]; exact Nat.le_refl _)] at hy; cases hy)
          rw [List.drop_eq_nil_of_le (by rw [HN.out]; exact Nat.le_refl _), List.append_nil] at hput
          refine ⟨⟨v3, ks.take k ++ [x], rfl, own_base (base := w.heap.size) ?_ hbase, hput⟩, hb3⟩
          rw [cellsI_append, show cellsI [x] = [.int .i64 x] by simp [cellsI_map], List.length_append, hT]
          rw [List.append_nil, Nat.add_zero] at ho3
          exact ho3

end Go.Proofs.Ytdmkpflphjemoaa

namespace Go.Proofs.Ytdmkpflphjemoaa
open Go.RowKit

def isKeyI (x : Int) : Prop := 0 ≤ x ∧ x ≤ 100000

theorem isTask_yes (x : Int) (w : World) (h : isTask x) : Calls Try.prog 20 #[.int .i64 x] w fun e w' => e = .returned (.bool true) ∧ w' = w := by
  obtain ⟨h1, h2⟩ := h
  have e1 : decide (0 ≤ x) = true := by simpa using h1
  have e2 : decide (x < 12) = true := by simp; omega
  go_enter Try.func20, Try.ntmps20
  go_wp2
  go_ret
  exact ⟨rfl, rfl⟩
theorem isTask_no (x : Int) (w : World) (h : ¬ isTask x) : Calls Try.prog 20 #[.int .i64 x] w fun e w' => e = .returned (.bool false) ∧ w' = w := by
  by_cases h1 : 0 ≤ x
  · have e1 : decide (0 ≤ x) = true := by simpa using h1
    have e2 : decide (x < 12) = false := by simp; exact Int.not_lt.1 (fun h2 => h ⟨h1, by omega⟩)
    clear h
    go_enter Try.func20, Try.ntmps20
    go_wp2
    go_ret
    exact ⟨rfl, rfl⟩
  · have e1 : decide (0 ≤ x) = false := by simpa using h1
    clear h
    go_enter Try.func20, Try.ntmps20
    go_wp2
    go_ret
    exact ⟨rfl, rfl⟩
theorem isKey_yes (x : Int) (w : World) (h : isKeyI x) : Calls Try.prog 21 #[.int .i64 x] w fun e w' => e = .returned (.bool true) ∧ w' = w := by
  obtain ⟨h1, h2⟩ := h
  have e1 : decide (0 ≤ x) = true := by simpa using h1
  have e2 : decide (x ≤ 100000) = true := by simpa using h2
  go_enter Try.func21, Try.ntmps21
  go_wp2
  go_ret
  exact ⟨rfl, rfl⟩
theorem isKey_no (x : Int) (w : World) (h : ¬ isKeyI x) : Calls Try.prog 21 #[.int .i64 x] w fun e w' => e = .returned (.bool false) ∧ w' = w := by
  by_cases h1 : 0 ≤ x
  · have e1 : decide (0 ≤ x) = true := by simpa using h1
    have e2 : decide (x ≤ 100000) = false := by simp; exact Int.not_le.1 (fun h2 => h ⟨h1, h2⟩)
    clear h
    go_enter Try.func21, Try.ntmps21
    go_wp2
    go_ret
    exact ⟨rfl, rfl⟩
  · have e1 : decide (0 ≤ x) = false := by simpa using h1
    clear h
    go_enter Try.func21, Try.ntmps21
    go_wp2
    go_ret
    exact ⟨rfl, rfl⟩

set_option maxHeartbeats 400000 in
theorem mayHold_any (ao : Option Addr) (n c : Nat) (l : Line) (x : Int) (s : Bool) (w : World) (hl : l.n = n) (hz : LineAt w ao l) :
    Calls Try.prog 48 #[.slice ao n c, .agg #[.int .i64 x, .bool s]] w fun e w' => e = .returned (.bool (mayB l s)) ∧ Below w.heap.size w w' := by
  by_cases h0 : n = 0
  · subst h0
    have HM : Hid (mayB l s = true) := by simp [Hid, mayB, hl]
    rw [HM.out]
    clear hl
    go_enter Try.func48, Try.ntmps48
    go_wp2
    go_ret
    exact ⟨rfl, push (Below.refl _ _) _⟩
  · obtain ⟨b, off, rfl, h1, h2⟩ := hz 0 (by omega)
    have HM : Hid (mayB l s = (l.S 0 && s)) := by simp [Hid, mayB, hl, h0]
    rw [HM.out]
    clear hl
    have hb := World.block_lt_of_cell? w _ h1
    have e0 : ((n : Int) == 0) = false := by simpa using (show ¬ (n : Int) = 0 by omega)
    have e1 : (0 : Int) < (n : Int) := by omega
    have c1 : (w.alloc (.cells #[.int .i64 x, .bool s] 57)).cell? ⟨b, off + 1, none⟩ = some (.bool (l.S 0)) := by
      rw [show off + 1 = off + 0 * 2 + 1 by omega]
      exact ((push (Below.refl _ w) _).cell (p := ⟨b, off + 0 * 2 + 1, none⟩) hb).trans h2
    simp only [Nat.zero_mul, Nat.add_zero] at h1 h2
    cases hs : l.S 0 with
    | true =>
      rw [hs] at c1 h2
      go_enter Try.func48, Try.ntmps48
      go_wp2
      go_ret
      exact ⟨rfl, push (Below.refl _ _) _⟩
    | false =>
      rw [hs] at c1 h2
      go_enter Try.func48, Try.ntmps48
      go_wp2
      go_ret
      exact ⟨rfl, push (Below.refl _ _) _⟩

/-- Place k of those that hold, as the program tests it. -/
def heldAt (h : Line) (k : Nat) : Prop := isTask (h.T k) ∧ (0 < k → h.T (k - 1) < h.T k) ∧ (h.S k = true ∨ h.n ≤ 1)
theorem heldI_iff (h : Line) : heldI h ↔ 0 < h.n ∧ ∀ k, k < h.n → heldAt h k := Iff.rfl

set_option maxHeartbeats 1600000 in
set_option maxRecDepth 100000 in
theorem goodHeld_any (ao : Option Addr) (n c : Nat) (l : Line) (w : World) (hl : l.n = n) (hn : n ≤ 1048576) (hz : LineAt w ao l) :
    Calls Try.prog 36 #[.slice ao n c] w fun e w' => SaysIf (heldI l) e ∧ Below w.heap.size w w' := by
  have HL : Hid (l.n = n) := hl
  clear hl
  by_cases h0 : n = 0
  · subst h0
    go_enter Try.func36, Try.ntmps36
    go_wp2
    go_ret
    exact ⟨says_no (fun h => by have := h.1; have := HL.out; omega), Below.refl _ _⟩
  · obtain ⟨b, off, rfl, h1, _⟩ := hz 0 (by rw [HL.out]; omega)
    have hbw := World.block_lt_of_cell? w _ h1
    clear h1
    have hz' : ∀ k, k < n → w.cell? ⟨b, off + k * 2, none⟩ = some (.int .i64 (l.T k)) ∧ w.cell? ⟨b, off + k * 2 + 1, none⟩ = some (.bool (l.S k)) := by
      intro k hk
      obtain ⟨b', off', e, g1, g2⟩ := hz k (by rw [HL.out]; omega)
      simp only [Option.some.injEq, Addr.mk.injEq, and_true] at e
      obtain ⟨rfl, rfl⟩ := e
      exact ⟨g1, g2⟩
    have HZ : Hid (∀ k, k < n → w.cell? ⟨b, off + k * 2, none⟩ = some (.int .i64 (l.T k)) ∧ w.cell? ⟨b, off + k * 2 + 1, none⟩ = some (.bool (l.S k))) := hz'
    clear hz hz'
    have e0 : ((n : Int) == 0) = false := by simpa using (show ¬ (n : Int) = 0 by omega)
    go_enter Try.func36, Try.ntmps36
    go_wp2
    go_loopg [10] n (fun g i wr => ∃ k : Nat, k ≤ n ∧ g = n - k ∧ i = .int .i64 k ∧ (∀ i, i < k → heldAt l i) ∧ Below w.heap.size w wr)
    case atStart => exact ⟨0, Nat.zero_le _, rfl, rfl, fun i hi => by omega, Below.refl _ _⟩
    case round =>
      obtain ⟨k, hk, rfl, rfl, hall, hbel⟩ := hrel
      have HA : Hid (∀ i, i < k → heldAt l i) := hall
      clear hall
      by_cases hlt : k < n
      · have c1 := (hbel.cell (p := ⟨b, off + k * 2, none⟩) hbw).trans (HZ.out k hlt).1
        have c2 := (hbel.cell (p := ⟨b, off + k * 2 + 1, none⟩) hbw).trans (HZ.out k hlt).2
        go_upto_region 6 with fail
        go_cut [10, 33] (fun i c wx => i = .int .i64 k ∧ Tells (isTask (l.T k) ∧ (0 < k → l.T (k - 1) < l.T k)) c ∧ wx.heap[wr.heap.size]? = some (.cells #[.int .i64 (l.T k), .bool (l.S k)] 57 (0, 0)) ∧ Below wr.heap.size wr wx)
        case first =>
          by_cases ht : isTask (l.T k)
          · by_cases k0 : k = 0
            · subst k0
              go_quiet (first | (go_at_call 20; refine Calls.quiet_of_same (isTask_yes _ _ ht)))
              go_wp2
              go_meet
              exact ⟨rfl, tells_good ⟨ht, fun h => by omega⟩, heap_alloc_new wr _, below_drewN (push (Below.refl _ _) _) _⟩
            · have hk1 : (0 : Int) < (k : Int) := by omega
              have d1 : decide (0 < k) = true := by simp; omega
              have hk2 : ((k : Int) - 1).toNat = k - 1 := by omega
              have hk3 : (k : Int) - 1 < (n : Int) := by omega
              have hk4 : (0 : Int) ≤ (k : Int) - 1 := by omega
              have hk5 : IntKind.i64.wrap ((k : Int) - 1) = (k : Int) - 1 := by rw [IntKind.wrap_i64]; omega
              have p1 := ((push hbel (.cells #[.int .i64 (l.T k), .bool (l.S k)] 57)).cell (p := ⟨b, off + (k - 1) * 2, none⟩) hbw).trans (HZ.out (k - 1) (by omega)).1
              by_cases hle : l.T k ≤ l.T (k - 1)
              · have d2 : decide (l.T k ≤ l.T (k - 1)) = true := by simpa using hle
                go_quiet (first | (go_at_call 20; refine Calls.quiet_of_same (isTask_yes _ _ ht)))
                go_wp2
                go_meet
                exact ⟨rfl, tells_bad (fun h => by have := h.2 (by omega); omega), heap_alloc_new wr _, below_drewN (push (Below.refl _ _) _) _⟩
              · have d2 : decide (l.T k ≤ l.T (k - 1)) = false := by simpa using hle
                go_quiet (first | (go_at_call 20; refine Calls.quiet_of_same (isTask_yes _ _ ht)))
                go_wp2
                go_meet
                exact ⟨rfl, tells_good ⟨ht, fun _ => by omega⟩, heap_alloc_new wr _, below_drewN (push (Below.refl _ _) _) _⟩
          · go_quiet (first | (go_at_call 20; refine Calls.quiet_of_same (isTask_no _ _ ht)))
            go_wp2
            go_meet
            exact ⟨rfl, tells_bad (fun h => ht h.1), heap_alloc_new wr _, below_drewN (push (Below.refl _ _) _) _⟩
        case rest =>
          obtain ⟨rfl, ⟨t, rfl, ht⟩, hbox, hbx⟩ := hcut
          have HT : Hid (t = false ↔ isTask (l.T k) ∧ (0 < k → l.T (k - 1) < l.T k)) := ht
          clear ht
          have hbel2 := after hbel hbx
          clear hbx c1 c2
          have q1 := blk_cell hbox 1 _ rfl
          cases t with
          | true =>
            go_wp2
            go_ret
            exact ⟨says_no (fun h => by have := HT.out.2 ⟨(h.2 k (by rw [HL.out]; exact hlt)).1, (h.2 k (by rw [HL.out]; exact hlt)).2.1⟩; cases this), hbel2⟩
          | false =>
            have HK := HT.out.1 rfl
            have HK : Hid (isTask (l.T k) ∧ (0 < k → l.T (k - 1) < l.T k)) := HK
            cases hs : l.S k with
            | true =>
              rw [hs] at q1
              go_wp2
              go_roundg (n - (k + 1))
              case measure => omega
              case rel => exact ⟨k + 1, by omega, rfl, by go_num, fun i hi => by
                by_cases e : i = k
                · subst e; exact ⟨HK.out.1, HK.out.2, .inl hs⟩
                · exact HA.out i (by omega), hbel2⟩
            | false =>
              rw [hs] at q1
              by_cases h1 : n ≤ 1
              · have d1 : decide (1 < n) = false := by simp; omega
                go_wp2
                go_roundg (n - (k + 1))
                case measure => omega
                case rel => exact ⟨k + 1, by omega, rfl, by go_num, fun i hi => by
                  by_cases e : i = k
                  · subst e; exact ⟨HK.out.1, HK.out.2, .inr (by rw [HL.out]; exact h1)⟩
                  · exact HA.out i (by omega), hbel2⟩
              · have d1 : decide (1 < n) = true := by simp; omega
                go_wp2
                go_ret
                exact ⟨says_no (fun h => by
                  rcases (h.2 k (by rw [HL.out]; exact hlt)).2.2 with e | e
                  · rw [hs] at e; cases e
                  · rw [HL.out] at e; omega), hbel2⟩
      · obtain rfl : k = n := by omega
        go_wp2
        go_ret
        exact ⟨says_yes ⟨by rw [HL.out]; omega, fun i hi => HA.out i (by rw [HL.out] at hi; exact hi)⟩, hbel⟩

end Go.Proofs.Ytdmkpflphjemoaa
