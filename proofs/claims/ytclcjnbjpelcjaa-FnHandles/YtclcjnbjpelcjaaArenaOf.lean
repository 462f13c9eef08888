/-
  OWN TEXT: the contract of impl.arenaOf: a copy of the lists of the store.
-/
import Derived.Test.YtclcjnbjpelcjaaImpl2
namespace Go.Proofs.Ytclcjnbjpelcjaa
open Go.RowKit

set_option maxHeartbeats 1600000 in
set_option maxRecDepth 100000 in
theorem arenaOf_any (ao bo : Option Addr) (n m c1 c2 : Nat) (A : Nat → Int) (U : Nat → Bool) (V F : Nat → Int) (w : World) (hn : n ≤ 1048576) (hm : m ≤ 1048576) (hnil : bo = none → m = 0 ∧ c2 = 0)
    (hx : SlotsAt w ao n A U V) (hy : IntsAt w bo m F) :
    Calls Try.prog 49 #[.agg #[.slice ao n c1, .slice bo m c2]] w fun e w' => ∃ v1 v2, e = .returned (.agg #[v1, v2]) ∧
      w'.ownsRow w.heap.size 106 3 v1 n (slotList A U V n) ∧ w'.ownsRow w.heap.size 3 1 v2 m (intList F m) ∧ Below w.heap.size w w' := by
  obtain ⟨i0, hi, hz0, hz1, hz2⟩ := info_parts Try.infoSlot
  obtain ⟨j0, ji, jz0, jz1, jz2⟩ := info_parts Try.infoInt
  go_enter Try.func49, Try.ntmps49
  go_wp2
  go_loopw [9] (fun i wr => ∃ (k : Nat) (v : Value), k ≤ n ∧ i = .int .i64 k ∧ wr.ownsRow (w.heap.size + 1 + 1 + 1) 106 3 v k (slotList A U V k) ∧
      wr.heap[w.heap.size]? = some (.cells #[.slice ao n c1, .slice bo m c2] 97 (0, 0)) ∧ wr.heap[w.heap.size + 1]? = some (.cells #[.slice none 0 0, .slice none 0 0] 26 (0, 0)) ∧
      wr.heap[w.heap.size + 1 + 1]? = some (.cells #[v, .slice none 0 0] 26 (0, 0)) ∧ Below w.heap.size w wr) (fun i _ => n - (intOf i).toNat)
  case atStart =>
    refine ⟨0, .slice none 0 0, Nat.zero_le _, rfl, World.ownsRow_nil _ _ _ _, blk_alloc (blk_alloc (heap_alloc_new w _) _) _, blk_alloc (by simpa using heap_alloc_new (w.alloc _) _) _, by simpa using heap_alloc_new ((w.alloc _).alloc _) _, push (push (push (Below.refl _ _) _) _) _⟩
  case round =>
    obtain ⟨k, v, hk, rfl, hown, ha, hr, hs, hbel⟩ := hrel
    have hlt3 := blk_lt hs
    by_cases hlt : k < n
    · obtain ⟨b, off, rfl, h1, h2, h3⟩ := hx k (by omega)
      have hb := World.block_lt_of_cell? w _ h1
      have d1 := (hbel.cell (p := ⟨b, off + k * 3, none⟩) hb).trans h1
      have d2 := (hbel.cell (p := ⟨b, off + k * 3 + 1, none⟩) hb).trans h2
      have d3 := (hbel.cell (p := ⟨b, off + k * 3 + 2, none⟩) hb).trans h3
      clear h1 h2 h3
      have q1 := blk_cell hs 0 _ rfl
      have f1 := blk_free hs 0
      have hne : ∀ j, j < w.heap.size + 1 + 1 + 1 → some j ≠ v.ownBlock := fun j hj e => by have := (hown.lt j e.symm).1; omega
      go_wp2_with (first | (at_builtin; refine wpList_append_lies _ (by rfl) (.tmp 14) (.tmp 16) 23 (by rfl) (w.heap.size + 1 + 1 + 1) 106 i0 _ 3 24 Try.underlying23 hi hz0 hz1 hz2 rfl (by decide) v k (slotList A U V k) (by rfl) ((hown.alloc _).alloc _) ⟨wr.heap.size + 1, 0, none⟩ 1 1 [.int .i64 (A k), .bool (U k), .int .i64 (V k)] (by rfl) (by rfl) (World.news_of_block (by simpa using heap_alloc_new (wr.alloc _) _)) (by intro u hu; simp at hu; rcases hu with rfl | rfl | rfl <;> rfl) (by decide) (by unfold maxLen; omega) (by omega) (by simp; omega) _ rfl ?_; intro g cap w1 hown1 hgrow hat hlt1; have hs1 := grown_blk hgrow (blk_alloc (blk_alloc hs _) _) (hne _ (by omega)); have q2 := blk_cell hs1 0 _ rfl; have f2 := blk_free hs1 0))
      go_roundw
      case rel =>
        refine ⟨k + 1, .slice (some ⟨g, 0, none⟩) (k + 1) cap, by omega, by go_num, ?_, ?_, ?_, ?_, ?_⟩
        · rw [slotList_succ]; exact ownsRow_setCell_below hown1 (by show w.heap.size + 1 + 1 < _; omega) _
        · exact blk_set_other (grown_blk hgrow (blk_alloc (blk_alloc ha _) _) (hne _ (by omega))) _ _ (by omega)
        · exact blk_set_other (grown_blk hgrow (blk_alloc (blk_alloc hr _) _) (hne _ (by omega))) _ _ (by omega)
        · exact blk_set hs1 0 _
        · exact ((push (push hbel _) _).grown hgrow (by have := hbel.size; simp; omega) (fun j hj => by have := (hown.lt j hj).1; omega)).setCell (by show w.heap.size ≤ w.heap.size + 1 + 1; omega) _
      case measure => simp [intOf]; omega
    · have hkn : k = n := by omega
      subst hkn
      obtain ⟨ao', c', rfl, _, _, _⟩ := own_form hown
      have q1 := blk_cell hs 1 _ rfl
      have q2 := blk_cell ha 1 _ rfl
      have q3 := blk_cell hs 0 _ rfl
      have q4 := blk_cell hr 0 _ rfl
      have q5 := blk_cell hr 1 _ rfl
      have f1 := blk_free hs 1
      have f2 := blk_free hr 0
      have f3 := blk_free hr 1
      by_cases hm0 : m = 0
      · subst hm0
        cases bo with
        | none =>
          obtain ⟨_, rfl⟩ := hnil rfl
          clear hnil
          go_wp2_with (first | (at_builtin; refine wpList_append_own_none (by rfl) (.tmp 21) (.tmp 23) 24 (by rfl) (w.heap.size + 1 + 1 + 1) 3 j0 1 Try.underlying24 ji _ 0 [] (by rfl) (World.ownsRow_nil _ _ _ _) (by rfl) ?_))
          obtain ⟨z0, z1, z2, z3, _⟩ := box_end (v1 := .slice ao' k c') (v2 := .slice none 0 0) hr hbel _ rfl
          exact bodyPost_ret (v := .agg #[.slice ao' k c', .slice none 0 0]) (by simp [results, Try.results49, go_sem, z0, z1]) rfl ⟨_, _, rfl, z3 _ _ _ _ _ _ (by omega) hown, World.ownsRow_nil _ _ _ _, z2⟩
        | some ad =>
          go_wp2_with (first | (at_builtin; refine wpList_append_own _ (by rfl) (.tmp 21) (.tmp 23) 24 (by rfl) (w.heap.size + 1 + 1 + 1) 3 j0 (.int .i64 0) 1 8 Try.underlying24 ji jz0 jz1 jz2 rfl (by decide) _ 0 [] (by rfl) (World.ownsRow_nil _ _ _ _) ad 0 c2 [] (by rfl) (by rfl) (by intro j u hj; simp at hj) (by intro u hu; simp at hu) (by unfold maxLen; omega) (by omega) (by omega) ?_; intro v' w1 hown2 hgrow hv'; obtain rfl : v' = .slice none 0 0 := hv'.2 ⟨rfl, rfl⟩; have hs1 := grown_blk hgrow hs (by simp [Value.ownBlock]); have hr1 := grown_blk hgrow hr (by simp [Value.ownBlock]); have q1' := blk_cell hs1 1 _ rfl; have q3' := blk_cell hs1 0 _ rfl; have q4' := blk_cell hr1 0 _ rfl; have q5' := blk_cell hr1 1 _ rfl; have f1' := blk_free hs1 1; have f2' := blk_free hr1 0; have f3' := blk_free hr1 1))
          obtain ⟨z0, z1, z2, z3, _⟩ := box_end (v1 := .slice ao' k c') (v2 := .slice none 0 0) hr1 (hbel.grown hgrow (by have := hbel.size; omega) (by simp [Value.ownBlock])) _ rfl
          exact bodyPost_ret (v := .agg #[.slice ao' k c', .slice none 0 0]) (by simp [results, Try.results49, go_sem, z0, z1]) rfl ⟨_, _, rfl, z3 _ _ _ _ _ _ (by omega) (hown.kept hgrow (Classical.em _)), World.ownsRow_nil _ _ _ _, z2⟩
      · obtain ⟨b, off, rfl, _⟩ := hy 0 (by omega)
        go_wp2_with (first | (at_builtin; refine wpList_append_lies _ (by rfl) (.tmp 21) (.tmp 23) 24 (by rfl) (w.heap.size + 1 + 1 + 1) 3 j0 (.int .i64 0) 1 8 Try.underlying24 ji jz0 jz1 jz2 rfl (by decide) _ 0 [] (by rfl) (World.ownsRow_nil _ _ _ _) ⟨b, off, none⟩ m c2 (intList F m) (by rfl) (by rw [intList_length]; omega) (by intro j u hj; obtain ⟨hjm, rfl⟩ := intList_get F m j u hj; obtain ⟨b', off', e, hc⟩ := hy j hjm; simp at e; obtain ⟨rfl, rfl⟩ := e; rw [Addr.add_lit]; exact (hbel.cell (World.block_lt_of_cell? w _ hc)).trans hc) (intList_one F m) (by omega) (by unfold maxLen; omega) (by omega) (by omega) _ rfl ?_; intro g cap w1 hown2 hgrow hat hlt1; have hs1 := grown_blk hgrow hs (by simp [Value.ownBlock]); have hr1 := grown_blk hgrow hr (by simp [Value.ownBlock]); have q1' := blk_cell hs1 1 _ rfl; have q3' := blk_cell hs1 0 _ rfl; have q4' := blk_cell hr1 0 _ rfl; have q5' := blk_cell hr1 1 _ rfl; have f1' := blk_free hs1 1; have f2' := blk_free hr1 0; have f3' := blk_free hr1 1))
        obtain ⟨z0, z1, z2, z3, _⟩ := box_end (v1 := .slice ao' k c') (v2 := .slice (some ⟨g, 0, none⟩) m cap) hr1 (hbel.grown hgrow (by have := hbel.size; omega) (by simp [Value.ownBlock])) _ rfl
        rw [Nat.zero_add, List.nil_append] at hown2
        exact bodyPost_ret (v := .agg #[.slice ao' k c', .slice (some ⟨g, 0, none⟩) m cap]) (by simp [results, Try.results49, go_sem, z0, z1]) rfl ⟨_, _, rfl, z3 _ _ _ _ _ _ (by omega) (hown.kept hgrow (Classical.em _)), z3 _ _ _ _ _ _ (by omega) hown2, z2⟩

end Go.Proofs.Ytclcjnbjpelcjaa
