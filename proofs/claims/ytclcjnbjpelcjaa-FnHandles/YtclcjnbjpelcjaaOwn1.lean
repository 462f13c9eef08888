/-
  OWN TEXT: the contract of spec.l1Own: a copy of the arena.
-/
import Derived.Test.YtclcjnbjpelcjaaRows
import Derived.Test.YtclcjnbjpelcjaaInfoI
import Derived.Test.YtclcjnbjpelcjaaInfoS
import Derived.Test.YtclcjnbjpelcjaaKit3
namespace Go.Proofs.Ytclcjnbjpelcjaa
open Go.RowKit

theorem slots_news {w : World} {ao : Option Addr} {n : Nat} {A : Nat → Int} {U : Nat → Bool} {V : Nat → Int} (h : SlotsAt w ao n A U V) : ∀ ad, ao = some ad → ∀ j u, (slotList A U V n)[j]? = some u → w.cell? (ad.add j) = some u := by
  intro ad e j u hu
  unfold slotList at hu
  rw [List.getElem?_map] at hu
  by_cases hj : j < n * 3
  · rw [List.getElem?_range hj] at hu
    simp only [Option.map_some, Option.some.injEq] at hu
    subst hu
    obtain ⟨b, off, e2, h1, h2, h3⟩ := h (j / 3) (by omega)
    rw [e] at e2
    simp only [Option.some.injEq] at e2
    subst e2
    rw [Addr.add_lit]
    have hm : j % 3 = 0 ∨ j % 3 = 1 ∨ j % 3 = 2 := by omega
    rcases hm with hm | hm | hm
    · have e3 : j = j / 3 * 3 := by omega
      generalize hq : j / 3 = q at *
      subst e3
      rw [slotCell_0, ← h1]
    · have e3 : j = j / 3 * 3 + 1 := by omega
      generalize hq : j / 3 = q at *
      subst e3
      rw [slotCell_1, ← h2]; rfl
    · have e3 : j = j / 3 * 3 + 2 := by omega
      generalize hq : j / 3 = q at *
      subst e3
      rw [slotCell_2, ← h3]; rfl
  · rw [List.getElem?_eq_none (by simpa using hj)] at hu
    cases hu
theorem ints_news {w : World} {ao : Option Addr} {n : Nat} {F : Nat → Int} (h : IntsAt w ao n F) : ∀ ad, ao = some ad → ∀ j u, (intList F n)[j]? = some u → w.cell? (ad.add j) = some u := by
  intro ad e j u hu
  obtain ⟨hj, rfl⟩ := intList_get F n j u hu
  obtain ⟨b, off, e2, h1⟩ := h j hj
  rw [e] at e2
  simp only [Option.some.injEq] at e2
  subst e2
  rw [Addr.add_lit]
  exact h1
theorem slotList_length (A : Nat → Int) (U : Nat → Bool) (V : Nat → Int) (n : Nat) : (slotList A U V n).length = n * 3 := by simp [slotList]
theorem slotList_one (A : Nat → Int) (U : Nat → Bool) (V : Nat → Int) (n : Nat) : ∀ u ∈ slotList A U V n, u.oneCell' = true := by
  intro u hu
  unfold slotList at hu
  simp only [List.mem_map] at hu
  obtain ⟨j, _, rfl⟩ := hu
  unfold slotCell
  split
  · rfl
  · split <;> rfl

set_option maxHeartbeats 1600000 in
theorem l1Own_any (ao bo : Option Addr) (n m c1 c2 : Nat) (A : Nat → Int) (U : Nat → Bool) (V F : Nat → Int) (w : World) (hn : n ≤ 1048576) (hm : m ≤ 1048576) (hn1 : ao = none → n = 0 ∧ c1 = 0) (hn2 : bo = none → m = 0 ∧ c2 = 0)
    (hx : SlotsAt w ao n A U V) (hy : IntsAt w bo m F) :
    Calls Try.prog 51 #[.agg #[.slice ao n c1, .slice bo m c2]] w fun e w' => ∃ ao' bo' d1 d2, e = .returned (.agg #[.slice ao' n d1, .slice bo' m d2]) ∧ n ≤ d1 ∧ m ≤ d2 ∧ d2 ≤ maxLen ∧
      SpecRow w' w.heap.size 106 3 (.slice ao' n d1) n (slotList A U V n) ∧ SpecRow w' w.heap.size 3 1 (.slice bo' m d2) m (intList F m) ∧ Below w.heap.size w w' := by
  obtain ⟨i0, hi, hz0, hz1, hz2⟩ := info_parts Try.infoSlot
  obtain ⟨j0, ji, jz0, jz1, jz2⟩ := info_parts Try.infoInt
  go_enter Try.func51, Try.ntmps51
  go_wp2
  have h0 : Below w.heap.size w ((w.alloc (.cells #[.slice ao n c1, .slice bo m c2] 26)).alloc (.cells #[.slice none 0 0, .slice none 0 0] 26)) := push (push (Below.refl _ _) _) _
  have hA0 : ((w.alloc (.cells #[.slice ao n c1, .slice bo m c2] 26)).alloc (.cells #[.slice none 0 0, .slice none 0 0] 26)).heap[w.heap.size]? = some (.cells #[.slice ao n c1, .slice bo m c2] 26 (0, 0)) := blk_alloc (heap_alloc_new w _) _
  have hR0 : ((w.alloc (.cells #[.slice ao n c1, .slice bo m c2] 26)).alloc (.cells #[.slice none 0 0, .slice none 0 0] 26)).heap[w.heap.size + 1]? = some (.cells #[.slice none 0 0, .slice none 0 0] 26 (0, 0)) := by simpa using heap_alloc_new (w.alloc _) _
  have hsz : ((w.alloc (.cells #[.slice ao n c1, .slice bo m c2] 26)).alloc (.cells #[.slice none 0 0, .slice none 0 0] 26)).heap.size = w.heap.size + 1 + 1 := by simp
  generalize (w.alloc (.cells #[.slice ao n c1, .slice bo m c2] 26)).alloc (.cells #[.slice none 0 0, .slice none 0 0] 26) = W0 at *
  have hx0 := hx.below h0
  have hy0 := hy.below h0
  have keepS : ∀ w', Below W0.heap.size W0 w' → w'.cell? ⟨w.heap.size, 0, none⟩ = some (.slice ao n c1) ∧ w'.cell? ⟨w.heap.size, 1, none⟩ = some (.slice bo m c2) := fun w' hb => ⟨blk_cell (blk_below hA0 hb) 0 _ rfl, blk_cell (blk_below hA0 hb) 1 _ rfl⟩
  have keepT : ∀ (w' : World) (u v : Value), (w'.cell? ⟨w.heap.size, 0, none⟩ = some (.slice ao n c1) ∧ w'.cell? ⟨w.heap.size, 1, none⟩ = some (.slice bo m c2)) →
      (((w'.setCell ⟨w.heap.size + 1, 0, none⟩ u).setCell ⟨w.heap.size + 1, 1, none⟩ v).cell? ⟨w.heap.size, 0, none⟩ = some (.slice ao n c1) ∧ ((w'.setCell ⟨w.heap.size + 1, 0, none⟩ u).setCell ⟨w.heap.size + 1, 1, none⟩ v).cell? ⟨w.heap.size, 1, none⟩ = some (.slice bo m c2)) :=
    fun w' u v h => ⟨(World.cell?_setCell_other _ _ _ _ (by simp)).trans ((World.cell?_setCell_other _ _ _ _ (by simp)).trans h.1), (World.cell?_setCell_other _ _ _ _ (by simp)).trans ((World.cell?_setCell_other _ _ _ _ (by simp)).trans h.2)⟩
  go_region_held3 (fun w' => w'.cell? ⟨w.heap.size, 0, none⟩ = some (.slice ao n c1) ∧ w'.cell? ⟨w.heap.size, 1, none⟩ = some (.slice bo m c2))
    (first | (refine keepS _ ?_; (repeat (first | exact (Below.refl _ _).drew | exact Below.refl _ _ | refine Below.drew ?_ | refine push ?_ _ | refine after ?_ (grown_below hgA) | refine after ?_ (grown_below hgB))); done) | (refine keepT _ _ _ (keepS _ ?_); (repeat (first | exact (Below.refl _ _).drew | exact Below.refl _ _ | refine Below.drew ?_ | refine push ?_ _ | refine after ?_ (grown_below hgA) | refine after ?_ (grown_below hgB))); done))
    (first
      | (refine step_append_empty (by rfl) (.tmp 3) (.tmp 5) 23 (by rfl) 106 i0 _ 3 24 Try.underlying23 hi hz0 hz1 hz2 rfl (by decide) _ (by rfl) ao n c1 (slotList A U V n) (by rfl) hn1 (slotList_length A U V n) (slots_news (hx0.below (by (repeat (first | exact (Below.refl _ _).drew | exact Below.refl _ _ | refine Below.drew ?_ | refine push ?_ _ | refine after ?_ (grown_below hgA) | refine after ?_ (grown_below hgB)))))) (slotList_one A U V n) (by unfold maxLen; omega) (by omega) ?_; intro ao1 e1 wA hgA hcA1 hcA2 hrA; have hbA : Below W0.heap.size W0 wA := (by (repeat (first | exact (Below.refl _ _).drew | exact Below.refl _ _ | refine Below.drew ?_ | refine push ?_ _ | refine after ?_ (grown_below hgA) | refine after ?_ (grown_below hgB)))); have hRA := blk_below hR0 hbA; have r0A := blk_cell hRA 0 _ rfl; have r1A := blk_cell hRA 1 _ rfl; have f0A := blk_free hRA 0; have f1A := blk_free hRA 1)
      | (refine step_append_empty (by rfl) (.tmp 7) (.tmp 9) 24 (by rfl) 3 j0 _ 1 8 Try.underlying24 ji jz0 jz1 jz2 rfl (by decide) _ (by rfl) bo m c2 (intList F m) (by rfl) hn2 (by rw [intList_length]; omega) (ints_news (hy0.below (by (repeat (first | exact (Below.refl _ _).drew | exact Below.refl _ _ | refine Below.drew ?_ | refine push ?_ _ | refine after ?_ (grown_below hgA) | refine after ?_ (grown_below hgB)))))) (intList_one F m) (by unfold maxLen; omega) (by omega) ?_; intro bo1 e2 wB hgB hcB1 hcB2 hrB; have hbB : Below W0.heap.size W0 wB := (by (repeat (first | exact (Below.refl _ _).drew | exact Below.refl _ _ | refine Below.drew ?_ | refine push ?_ _ | refine after ?_ (grown_below hgA) | refine after ?_ (grown_below hgB)))); have hRB := blk_below hR0 hbB; have r0B := blk_cell hRB 0 _ rfl; have r1B := blk_cell hRB 1 _ rfl; have f0B := blk_free hRB 0; have f1B := blk_free hRB 1))
  all_goals
    have hsA := hbA.size
    have p1 : SpecRow wA (w.heap.size + 1 + 1) 106 3 (.slice ao1 n e1) n (slotList A U V n) := hrA.base (by simp [hsz])
    have p2 : SpecRow wB (w.heap.size + 1 + 1) 3 1 (.slice bo1 m e2) m (intList F m) := hrB.base (by first | omega | (simp; omega))
    have p3 : SpecRow wB (w.heap.size + 1 + 1) 106 3 (.slice ao1 n e1) n (slotList A U V n) := by first | exact p1.kept hgB | exact (p1.alloc _).kept hgB
    have hbF := h0.trans (hbB.mono h0.size)
    have hRB2 := hRB
    clear hgA hgB hrA hrB hbA hRA r0A r1A f0A f1A keepS keepT p1 hRB
    go_wp2
    have rF := blk_set (blk_set hRB2 0 (.slice ao1 n e1)) 1 (.slice bo1 m e2)
    have z0 := blk_cell rF 0 _ rfl
    have z1 := blk_cell rF 1 _ rfl
    exact bodyPost_ret (v := .agg #[.slice ao1 n e1, .slice bo1 m e2]) (by simp [results, Try.results51, go_sem, z0, z1]) rfl ⟨ao1, bo1, e1, e2, rfl, hcA1, hcB1, hcB2,
      SpecRow.base (SpecRow.set (SpecRow.set p3 (by show w.heap.size + 1 < w.heap.size + 1 + 1; omega) _) (by show w.heap.size + 1 < w.heap.size + 1 + 1; omega) _) (by omega),
      SpecRow.base (SpecRow.set (SpecRow.set p2 (by show w.heap.size + 1 < w.heap.size + 1 + 1; omega) _) (by show w.heap.size + 1 < w.heap.size + 1 + 1; omega) _) (by omega),
      (hbF.setCell (by show w.heap.size ≤ w.heap.size + 1; omega) _).setCell (by show w.heap.size ≤ w.heap.size + 1; omega) _⟩

end Go.Proofs.Ytclcjnbjpelcjaa
