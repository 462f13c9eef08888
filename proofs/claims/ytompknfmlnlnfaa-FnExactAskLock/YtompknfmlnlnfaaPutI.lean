/-
  OWN TEXT: the contract of spec.l1Put at a short rising list that the call owns.
-/
import Derived.Test.YtompknfmlnlnfaaKitA
import Derived.Test.YtompknfmlnlnfaaPlainW
import Derived.Test.YtompknfmlnlnfaaSpecL2
import Derived.Deep.LoopGhost
namespace Go.Proofs.Ytompknfmlnlnfaa
open Go.RowKit

theorem cellsI_map (l : List Int) : cellsI l = l.map (fun x => .int .i64 x) := by
  unfold cellsI intList
  apply List.ext_getElem?
  intro i
  rw [List.getElem?_map, List.getElem?_map]
  by_cases hi : i < l.length
  · rw [List.getElem?_range hi, List.getElem?_eq_getElem hi]; simp [getI, List.getElem?_eq_getElem hi]
  · rw [List.getElem?_eq_none (by simpa using hi), List.getElem?_eq_none (by omega)]; rfl
theorem cellsI_append (a b : List Int) : cellsI (a ++ b) = cellsI a ++ cellsI b := by simp [cellsI_map]
theorem cellsI_length (l : List Int) : (cellsI l).length = l.length := by simp [cellsI_map]
theorem cellsI_one (l : List Int) : ∀ u ∈ cellsI l, u.oneCell' = true := by
  intro u hu
  rw [cellsI_map] at hu
  simp only [List.mem_map] at hu
  obtain ⟨x, _, rfl⟩ := hu
  rfl
/-- The cells of a part of a row of numbers, read at its place. -/
theorem part_cells {w : World} {base g c k m : Nat} {ks ps : List Int} (h : WaitsIs w base (.slice (some ⟨g, 0, none⟩) ks.length c) ks) (hp : ∀ j, j < ps.length → ps[j]? = ks[k + j]?) (hm : k + ps.length ≤ ks.length) (_ : m = ps.length) :
    ∀ ad, some (⟨g, k, none⟩ : Addr) = some ad → ∀ j u, (cellsI ps)[j]? = some u → w.cell? (ad.add j) = some u := by
  intro ad e j u hu
  simp only [Option.some.injEq] at e
  subst e
  rw [cellsI_map, List.getElem?_map] at hu
  by_cases hj : j < ps.length
  · rw [hp j hj] at hu
    rw [Addr.add_lit, World.ownsRow.cellAt h (k + j) (by omega), cellsI_map, List.getElem?_map]
    exact hu
  · rw [List.getElem?_eq_none (by omega)] at hu; cases hu

theorem strict_getI {ks : List Int} (h : Strict ks) {p q : Nat} (hpq : p < q) (hq : q < ks.length) : getI ks p < getI ks q := by
  have hp : p < ks.length := by omega
  have := (List.pairwise_iff_getElem.1 h) p q hp hq hpq
  simpa [getI, List.getElem?_eq_getElem hp, List.getElem?_eq_getElem hq] using this

set_option maxHeartbeats 3200000 in
set_option maxRecDepth 100000 in
theorem l1Put_any (ao : Option Addr) (n c base : Nat) (ks : List Int) (x : Int) (w : World) (hkl : ks.length ≤ 12) (hst : Strict ks) (hw : WaitsIs w base (.slice ao n c) ks) (hbase : base ≤ w.heap.size) :
    Calls Try.prog 73 #[.slice ao n c, .int .i64 x] w fun e w' => (∃ v' ks', e = .returned v' ∧ WaitsIs w' base v' ks' ∧ Hid (Strict ks' ∧ ∀ y, y ∈ ks' ↔ y ∈ ks ∨ y = x)) ∧ Below w.heap.size w w' := by
  obtain ⟨j0, ji, jz0, jz1, jz2⟩ := info_parts Try.infoInt
  have hlen := hw.len
  subst hlen
  have HST : Hid (Strict ks) := hst
  clear hst
  rcases hw.2 with ⟨hv, h0⟩ | ⟨g, cap, cur, hv, hbg, hg, hcap, hcap2, hq1, hq2⟩
  · obtain rfl : ks = [] := List.eq_nil_of_length_eq_zero h0
    simp only [Value.slice.injEq, List.length_nil, true_and] at hv
    obtain ⟨rfl, rfl⟩ := hv
    go_enter Try.func73, Try.ntmps73
    go_wp2
    go_loopg [5] 1 (fun g i wr => g = 1 ∧ i = .int .i64 0 ∧ wr = w)
    case atStart => exact ⟨rfl, rfl, rfl⟩
    case round =>
      obtain ⟨rfl, rfl, rfl⟩ := hrel
      go_wp2_with (first | (at_builtin; refine wpList_append_any _ (by rfl) (.tmp 34) (.tmp 37) 33 (by rfl) wr.heap.size 3 j0 (.int .i64 0) 1 8 Try.underlying33 ji jz0 jz1 jz2 rfl (by decide) (.slice none 0 0) 0 [] (by rfl) (World.ownsRow_nil _ _ _ _) none 0 0 [] (by rfl) (fun _ => ⟨rfl, rfl⟩) (by rfl) (by intro ad h; cases h) (by intro u hu; cases hu) (by unfold maxLen; omega) (by omega) (Nat.le_refl _) ?_; intro v1 w1 ho1 hg1; have hb1 := (Below.refl wr.heap.size wr).grown hg1 (Nat.le_refl _) (by intro j hj; simp [Value.ownBlock] at hj); have hsz1 := hb1.size) | (at_builtin; refine wpList_append_any _ (by rfl) (.tmp 39) (.tmp 41) 33 (by rfl) wr.heap.size 3 j0 (.int .i64 0) 1 8 Try.underlying33 ji jz0 jz1 jz2 rfl (by decide) v1 0 [] (by rfl) (ho1.alloc _) (some ⟨w1.heap.size, 0, none⟩) 1 1 [.int .i64 x] (by rfl) (by intro h; cases h) (by rfl) (by intro ad h; simp only [Option.some.injEq] at h; subst h; exact World.news_of_block (heap_alloc_new w1 _)) (by intro u hu; simp at hu; subst hu; rfl) (by unfold maxLen; omega) (by omega) (by simp; omega) ?_; intro v2 w2 ho2 hg2; have hb2 := (push hb1 (.cells #[.int .i64 x] 3)).grown hg2 (by simp; omega) (fun j hj => (ho1.lt j hj).1); have hsz2 := hb2.size) | (at_builtin; refine wpList_append_any _ (by rfl) (.tmp 43) (.tmp 46) 33 (by rfl) wr.heap.size 3 j0 (.int .i64 0) 1 8 Try.underlying33 ji jz0 jz1 jz2 rfl (by decide) v2 1 [.int .i64 x] (by rfl) ho2 none 0 0 [] (by rfl) (fun _ => ⟨rfl, rfl⟩) (by rfl) (by intro ad h; cases h) (by intro u hu; cases hu) (by unfold maxLen; omega) (by omega) (by omega) ?_; intro v3 w3 ho3 hg3; have hb3 := hb2.grown hg3 hsz2 (fun j hj => (ho2.lt j hj).1)))
      go_ret
      exact ⟨⟨v3, [x], rfl, own_base (base := wr.heap.size) (by unfold WaitsIs at *; simpa [cellsI_map] using ho3) hbase, ⟨by simp [Strict], by simp⟩⟩, hb3⟩
  · simp only [Value.slice.injEq, true_and] at hv
    obtain ⟨rfl, rfl⟩ := hv
    have HW : Hid (WaitsIs w base (.slice (some ⟨g, 0, none⟩) ks.length c) ks) := hw
    have hcell : ∀ j, j < ks.length → w.cell? ⟨g, j, none⟩ = some (.int .i64 (getI ks j)) := fun j hj => own_cell hw j (by omega) (by simp)
    have HC : Hid (∀ j, j < ks.length → w.cell? ⟨g, j, none⟩ = some (.int .i64 (getI ks j))) := hcell
    clear hcell hw
    generalize hn : ks.length = n at *
    have HN : Hid (ks.length = n) := hn
    clear hn hg hq1 hq2 cur
    go_enter Try.func73, Try.ntmps73
    go_wp2
    go_loopg [5] n (fun gh i wr => ∃ k : Nat, k ≤ n ∧ gh = n - k ∧ i = .int .i64 k ∧ (∀ j, j < k → getI ks j < x) ∧ wr = w)
    case atStart => exact ⟨0, Nat.zero_le _, rfl, rfl, fun j hj => by omega, rfl⟩
    case round =>
      obtain ⟨k, hk, rfl, rfl, hlo, hwr⟩ := hrel
      have hwr' := hwr.symm
      subst hwr'
      have HLO : Hid (∀ j, j < k → getI ks j < x) := hlo
      clear hlo hwr
      have hk1 : (k : Int) ≤ (n : Int) := by omega
      by_cases hlt : k < n
      · have c1 := HC.out k hlt
        have hk2 : (k : Int) < (n : Int) := by omega
        by_cases hx : getI ks k < x
        · have d1 : decide (getI ks k < x) = true := by simpa using hx
          have HX : Hid (getI ks k < x) := hx
          clear hx
          go_wp2
          go_roundg (n - (k + 1))
          case measure => omega
          case rel => exact ⟨k + 1, by omega, rfl, by go_num, fun j hj => by
            by_cases e : j = k
            · subst e; exact HX.out
            · exact HLO.out j (by omega), rfl⟩
        · have d1 : decide (getI ks k < x) = false := by simpa using hx
          by_cases he : getI ks k = x
          · have d2 : (getI ks k == x) = true := by simpa using he
            have HE : Hid (getI ks k = x) := he
            clear he hx
            go_wp2
            go_ret
            refine ⟨⟨_, ks, rfl, HW.out, ⟨HST.out, fun y => ⟨.inl, fun h => ?_⟩⟩⟩, Below.refl _ _⟩
            rcases h with h | h
            · exact h
            · rw [h, ← HE.out]; exact getI_mem.2 ⟨k, by rw [HN.out]; exact hlt, rfl⟩
          · have d2 : (getI ks k == x) = false := by simpa using he
            have HX : Hid (x < getI ks k) := by show x < getI ks k; omega
            clear he hx
            have HT : Hid ((ks.take k).length = k ∧ (ks.drop k).length = n - k) := ⟨by rw [List.length_take, HN.out]; omega, by rw [List.length_drop, HN.out]⟩
            have hT := HT.out.1
            have hD := HT.out.2
            have p1 := part_cells (k := 0) (m := k) (ps := ks.take k) (by have := HW.out; rw [← HN.out] at this; exact this) (fun j hj => by rw [List.getElem?_take, if_pos (by omega), Nat.zero_add]) (by rw [hT, HN.out]; omega) hT.symm
            have p3 := fun (w2 : World) (h : Below w.heap.size w w2) => part_cells (w := w2) (k := k) (m := n - k) (ps := ks.drop k) (c := c) (base := base) (by have := HW.out.below h; rw [← HN.out] at this; exact this) (fun j hj => by rw [List.getElem?_drop]) (by rw [hD, HN.out]; omega) hD.symm
            have P3 : Hid (∀ w2, Below w.heap.size w w2 → ∀ ad, some (⟨g, k, none⟩ : Addr) = some ad → ∀ j u, (cellsI (ks.drop k))[j]? = some u → w2.cell? (ad.add j) = some u) := p3
            clear p3
            go_wp2_with (first | (at_builtin; refine wpList_append_any _ (by rfl) (.tmp 34) (.tmp 37) 33 (by rfl) w.heap.size 3 j0 (.int .i64 0) 1 8 Try.underlying33 ji jz0 jz1 jz2 rfl (by decide) (.slice none 0 0) 0 [] (by rfl) (World.ownsRow_nil _ _ _ _) (some ⟨g, 0, none⟩) k c (cellsI (ks.take k)) (by rfl) (by intro h; cases h) (by rw [cellsI_length]; omega) p1 (cellsI_one _) (by unfold maxLen; omega) (by omega) (Nat.le_refl _) ?_; intro v1 w1 ho1 hg1; rw [Nat.zero_add, List.nil_append] at ho1; have hb1 := (Below.refl w.heap.size w).grown hg1 (Nat.le_refl _) (by intro j hj; simp [Value.ownBlock] at hj); have hsz1 := hb1.size) | (at_builtin; refine wpList_append_any _ (by rfl) (.tmp 39) (.tmp 41) 33 (by rfl) w.heap.size 3 j0 (.int .i64 0) 1 8 Try.underlying33 ji jz0 jz1 jz2 rfl (by decide) v1 k (cellsI (ks.take k)) (by rfl) (ho1.alloc _) (some ⟨w1.heap.size, 0, none⟩) 1 1 [.int .i64 x] (by rfl) (by intro h; cases h) (by rfl) (by intro ad h; simp only [Option.some.injEq] at h; subst h; exact World.news_of_block (heap_alloc_new w1 _)) (by intro u hu; simp at hu; subst hu; rfl) (by unfold maxLen; omega) (by omega) (by simp; omega) ?_; intro v2 w2 ho2 hg2; have hb2 := (push hb1 (.cells #[.int .i64 x] 3)).grown hg2 (by simp; omega) (fun j hj => (ho1.lt j hj).1); have hsz2 := hb2.size) | (at_builtin; refine wpList_append_any _ (by rfl) (.tmp 43) (.tmp 46) 33 (by rfl) w.heap.size 3 j0 (.int .i64 0) 1 8 Try.underlying33 ji jz0 jz1 jz2 rfl (by decide) v2 (k + 1) (cellsI (ks.take k) ++ [.int .i64 x]) (by rfl) ho2 (some ⟨g, k, none⟩) (n - k) (c - k) (cellsI (ks.drop k)) (by rfl) (by intro h; cases h) (by rw [cellsI_length]; omega) (P3.out w2 hb2) (cellsI_one _) (by unfold maxLen; omega) (by omega) (by omega) ?_; intro v3 w3 ho3 hg3; have hb3 := hb2.grown hg3 hsz2 (fun j hj => (ho2.lt j hj).1)))
            go_ret
            have hput := strict_put (x := x) k HST.out (fun y hy => by
              obtain ⟨j, hj, e⟩ := getI_mem.1 hy
              rw [hT] at hj
              have : getI (ks.take k) j = getI ks j := by simp [getI, hj]
              rw [← e, this]; exact HLO.out j hj) (fun y hy => by
              obtain ⟨j, hj, e⟩ := getI_mem.1 hy
              have e2 : getI (ks.drop k) j = getI ks (k + j) := by simp [getI, List.getElem?_drop]
              rw [← e, e2]
              by_cases j00 : j = 0
              · subst j00; exact HX.out
              · have := strict_getI HST.out (show k < k + j by omega) (by rw [hD] at hj; have := HN.out; omega); have := HX.out; omega)
            refine ⟨⟨v3, ks.take k ++ [x] ++ ks.drop k, rfl, own_base (base := w.heap.size) ?_ hbase, hput⟩, hb3⟩
            rw [cellsI_append, cellsI_append, show cellsI [x] = [.int .i64 x] by simp [cellsI_map], List.length_append, List.length_append, hT, hD]
            exact ho3
      · obtain rfl : k = n := by omega
        have hT : (ks.take k).length = k := by rw [List.length_take, HN.out]; omega
        have HTK : Hid (ks.take k = ks) := List.take_of_length_le (by rw [HN.out]; exact Nat.le_refl _)
        have p1 := part_cells (k := 0) (m := k) (ps := ks.take k) (by have := HW.out; rw [← HN.out] at this; exact this) (fun j hj => by rw [List.getElem?_take, if_pos (by omega), Nat.zero_add]) (by rw [hT, HN.out]; omega) hT.symm
        by_cases hkc : k = c
        · subst hkc
          go_wp2_with (first | (at_builtin; refine wpList_append_any _ (by rfl) (.tmp 34) (.tmp 37) 33 (by rfl) w.heap.size 3 j0 (.int .i64 0) 1 8 Try.underlying33 ji jz0 jz1 jz2 rfl (by decide) (.slice none 0 0) 0 [] (by rfl) (World.ownsRow_nil _ _ _ _) (some ⟨g, 0, none⟩) k k (cellsI (ks.take k)) (by rfl) (by intro h; cases h) (by rw [cellsI_length]; omega) p1 (cellsI_one _) (by unfold maxLen; omega) (by omega) (Nat.le_refl _) ?_; intro v1 w1 ho1 hg1; rw [Nat.zero_add, List.nil_append] at ho1; have hb1 := (Below.refl w.heap.size w).grown hg1 (Nat.le_refl _) (by intro j hj; simp [Value.ownBlock] at hj); have hsz1 := hb1.size) | (at_builtin; refine wpList_append_any _ (by rfl) (.tmp 39) (.tmp 41) 33 (by rfl) w.heap.size 3 j0 (.int .i64 0) 1 8 Try.underlying33 ji jz0 jz1 jz2 rfl (by decide) v1 k (cellsI (ks.take k)) (by rfl) (ho1.alloc _) (some ⟨w1.heap.size, 0, none⟩) 1 1 [.int .i64 x] (by rfl) (by intro h; cases h) (by rfl) (by intro ad h; simp only [Option.some.injEq] at h; subst h; exact World.news_of_block (heap_alloc_new w1 _)) (by intro u hu; simp at hu; subst hu; rfl) (by unfold maxLen; omega) (by omega) (by simp; omega) ?_; intro v2 w2 ho2 hg2; have hb2 := (push hb1 (.cells #[.int .i64 x] 3)).grown hg2 (by simp; omega) (fun j hj => (ho1.lt j hj).1); have hsz2 := hb2.size) | (at_builtin; refine wpList_append_any _ (by rfl) (.tmp 43) (.tmp 46) 33 (by rfl) w.heap.size 3 j0 (.int .i64 0) 1 8 Try.underlying33 ji jz0 jz1 jz2 rfl (by decide) v2 (k + 1) (cellsI (ks.take k) ++ [.int .i64 x]) (by rfl) ho2 (some ⟨g, 0, none⟩) 0 0 [] (by rfl) (by intro h; cases h) (by rfl) (by intro ad _ j u h; simp at h) (by intro u hu; cases hu) (by unfold maxLen; omega) (by omega) (by omega) ?_; intro v3 w3 ho3 hg3; have hb3 := hb2.grown hg3 hsz2 (fun j hj => (ho2.lt j hj).1)))
          go_ret
          have hput := strict_put (x := x) k HST.out (fun y hy => by
            rw [HTK.out] at hy
            obtain ⟨j, hj, e⟩ := getI_mem.1 hy
            rw [HN.out] at hj
            rw [← e]; exact HLO.out j hj) (fun y hy => by
            rw [List.drop_eq_nil_of_le (by rw [HN.out]; exact Nat.le_refl _)] at hy; cases hy)
          rw [List.drop_eq_nil_of_le (by rw [HN.out]; exact Nat.le_refl _), List.append_nil] at hput
          refine ⟨⟨v3, ks.take k ++ [x], rfl, own_base (base := w.heap.size) ?_ hbase, hput⟩, hb3⟩
          rw [cellsI_append, show cellsI [x] = [.int .i64 x] by simp [cellsI_map], List.length_append, hT]
          rw [List.append_nil, Nat.add_zero] at ho3
          exact ho3
        · have hkc2 : k < c := by omega
          go_wp2_with (first | (at_builtin; refine wpList_append_any _ (by rfl) (.tmp 34) (.tmp 37) 33 (by rfl) w.heap.size 3 j0 (.int .i64 0) 1 8 Try.underlying33 ji jz0 jz1 jz2 rfl (by decide) (.slice none 0 0) 0 [] (by rfl) (World.ownsRow_nil _ _ _ _) (some ⟨g, 0, none⟩) k c (cellsI (ks.take k)) (by rfl) (by intro h; cases h) (by rw [cellsI_length]; omega) p1 (cellsI_one _) (by unfold maxLen; omega) (by omega) (Nat.le_refl _) ?_; intro v1 w1 ho1 hg1; rw [Nat.zero_add, List.nil_append] at ho1; have hb1 := (Below.refl w.heap.size w).grown hg1 (Nat.le_refl _) (by intro j hj; simp [Value.ownBlock] at hj); have hsz1 := hb1.size) | (at_builtin; refine wpList_append_any _ (by rfl) (.tmp 39) (.tmp 41) 33 (by rfl) w.heap.size 3 j0 (.int .i64 0) 1 8 Try.underlying33 ji jz0 jz1 jz2 rfl (by decide) v1 k (cellsI (ks.take k)) (by rfl) (ho1.alloc _) (some ⟨w1.heap.size, 0, none⟩) 1 1 [.int .i64 x] (by rfl) (by intro h; cases h) (by rfl) (by intro ad h; simp only [Option.some.injEq] at h; subst h; exact World.news_of_block (heap_alloc_new w1 _)) (by intro u hu; simp at hu; subst hu; rfl) (by unfold maxLen; omega) (by omega) (by simp; omega) ?_; intro v2 w2 ho2 hg2; have hb2 := (push hb1 (.cells #[.int .i64 x] 3)).grown hg2 (by simp; omega) (fun j hj => (ho1.lt j hj).1); have hsz2 := hb2.size) | (at_builtin; refine wpList_append_any _ (by rfl) (.tmp 43) (.tmp 46) 33 (by rfl) w.heap.size 3 j0 (.int .i64 0) 1 8 Try.underlying33 ji jz0 jz1 jz2 rfl (by decide) v2 (k + 1) (cellsI (ks.take k) ++ [.int .i64 x]) (by rfl) ho2 (some ⟨g, k, none⟩) 0 (c - k) [] (by rfl) (by intro h; cases h) (by rfl) (by intro ad _ j u h; simp at h) (by intro u hu; cases hu) (by unfold maxLen; omega) (by omega) (by omega) ?_; intro v3 w3 ho3 hg3; have hb3 := hb2.grown hg3 hsz2 (fun j hj => (ho2.lt j hj).1)))
          go_ret
          have hput := strict_put (x := x) k HST.out (fun y hy => by
            rw [HTK.out] at hy
            obtain ⟨j, hj, e⟩ := getI_mem.1 hy
            rw [HN.out] at hj
            rw [← e]; exact HLO.out j hj) (fun y hy => by
            rw [List.drop_eq_nil_of_le (by rw [HN.out]; exact Nat.le_refl _)] at hy; cases hy)
          rw [List.drop_eq_nil_of_le (by rw [HN.out]; exact Nat.le_refl _), List.append_nil] at hput
          refine ⟨⟨v3, ks.take k ++ [x], rfl, own_base (base := w.heap.size) ?_ hbase, hput⟩, hb3⟩
          rw [cellsI_append, show cellsI [x] = [.int .i64 x] by simp [cellsI_map], List.length_append, hT]
          rw [List.append_nil, Nat.add_zero] at ho3
          exact ho3

end Go.Proofs.Ytompknfmlnlnfaa
