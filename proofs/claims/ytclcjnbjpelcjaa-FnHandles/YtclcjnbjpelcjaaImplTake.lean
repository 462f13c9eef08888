/-
  OWN TEXT: the contracts of store.handleOf and store.takeFree.
-/
import Derived.Test.YtclcjnbjpelcjaaImpl3
import Derived.Test.YtclcjnbjpelcjaaPlain7
import Derived.Deep.DrawnRows
namespace Go.Proofs.Ytclcjnbjpelcjaa
open Go.RowKit

set_option maxHeartbeats 400000 in
theorem handleOf_is (ao bo : Option Addr) (n m c1 c2 q : Nat) (A : Nat → Int) (U : Nat → Bool) (V : Nat → Int) (w : World) (hq : q < n) (hx : SlotsAt w ao n A U V) :
    Calls Try.prog 125 #[.agg #[.slice ao n c1, .slice bo m c2], .int .i64 q] w fun e w' => e = .returned (.agg #[.int .i64 q, .int .i64 (A q)]) ∧ Below w.heap.size w w' := by
  obtain ⟨b, off, rfl, h1, h2, h3⟩ := hx q hq
  have hb := World.block_lt_of_cell? w _ h1
  have hqn : (q : Int) < (n : Int) := by omega
  go_enter Try.func125, Try.ntmps125
  go_wp2
  exact bodyPost_ret (v := .agg #[.int .i64 q, .int .i64 (A q)]) (by simp [results, Try.results125, go_sem]) rfl ⟨rfl, push (push (Below.refl _ _) _) _⟩

set_option maxHeartbeats 1600000 in
set_option maxRecDepth 100000 in
theorem takeFree_any (sb base : Nat) (ao bo : Option Addr) (n m c1 c2 : Nat) (A : Nat → Int) (U : Nat → Bool) (V F : Nat → Int) (w : World) (hgood : Good n m A U V F)
    (hS : w.heap[sb]? = some (.cells #[.slice ao n c1, .slice bo m c2] 97 (0, 0))) (ho : w.ownsRow base 184 3 (.slice ao n c1) n (slotList A U V n)) (ho' : w.ownsRow base 3 1 (.slice bo m c2) m (intList F m)) (hbase : base ≤ w.heap.size) (hap : ¬ headsOf ao bo sb) :
    Calls Try.prog 124 #[.pointer (some ⟨sb, 0, none⟩)] w fun e w' => e = .returned (.tuple #[.int .i64 (takeOut n m A U V F).2.1, .bool (takeOut n m A U V F).2.2]) ∧ StoreDone sb base ao bo (takeOut n m A U V F).1 w w' := by
  obtain ⟨j0, ji, jz0, jz1, jz2⟩ := info_parts Try.infoRec
  have hsl := blk_lt hS
  have p0 := blk_cell hS 0 _ rfl
  have p1 := blk_cell hS 1 _ rfl
  have p2 := blk_free hS 0
  have p3 := blk_free hS 1
  have hfew := good_few' hgood
  by_cases hm0 : 0 < m
  · obtain ⟨q, hq, hqn⟩ := good_last hgood hm0
    have HO : Hid (takeOut n m A U V F = (⟨n, m - 1, A, U, V, F, 0⟩, (q : Int), true)) := by unfold Hid takeOut; rw [if_pos hm0, hq]
    rw [HO.out]
    obtain ⟨g2, rfl, hg3, hg4⟩ := own_addr ho' (by omega)
    have s3 := own_cell ho' (m - 1) (by omega) (by omega)
    rw [hq] at s3
    have HG : Hid (Good n m A U V F) := hgood
    clear hgood hq
    have n2 : ¬ (g2 = sb) := fun e => hap (.inr ⟨g2, rfl, e.symm⟩)
    have hm1 : (0 : Int) < (m : Int) := by omega
    have hm2 : ((m : Int) - 1).toNat = m - 1 := by omega
    have hm3 : (m : Int) - 1 < (m : Int) := by omega
    have hm4 : (0 : Int) ≤ (m : Int) - 1 := by omega
    have hc1 : m ≤ c2 := by
      obtain ⟨_, _, hv, hc1, _, _⟩ := own_form ho'
      simp only [Value.slice.injEq, true_and] at hv
      omega
    have hm6 : (m : Int) - 1 ≤ (c2 : Int) := by omega
    have hm5 : IntKind.i64.wrap ((m : Int) - 1) = (m : Int) - 1 := by rw [IntKind.wrap_i64]; omega
    go_enter Try.func124, Try.ntmps124
    go_wp2
    have k1 : ((w.setCell ⟨sb, 1, none⟩ (.slice (some ⟨g2, 0, none⟩) (m - 1) c2))).heap[sb]? = some (.cells #[.slice ao n c1, .slice (some ⟨g2, 0, none⟩) (m - 1) c2] 97 (0, 0)) := blk_set hS 1 _
    have hk := (Kept.refl w (fun b => b = sb)).set (a := ⟨sb, 1, none⟩) rfl (.slice (some ⟨g2, 0, none⟩) (m - 1) c2)
    refine bodyPost_ret (v := .tuple #[.int .i64 (q : Int), .bool true]) (by simp [results, Try.results124, go_sem]) rfl ⟨rfl, ao, some ⟨g2, 0, none⟩, c1, c2, k1, hk.own ho (fun b hb e => hap (.inl (e ▸ own_head rfl ho hb))), hk.own (own_cut ho' hm0) (fun b hb e => by simp only [Value.ownBlock, Option.some.injEq] at hb; omega), hk.mono (fun _ h => .inl h), hap, fun _ h _ => h⟩
  · obtain rfl : m = 0 := by omega
    by_cases h20 : n = 20
    · subst h20
      have HO : Hid (takeOut 20 0 A U V F = (⟨20, 0, A, U, V, F, 0⟩, 0, false)) := by unfold Hid takeOut; rw [if_neg hm0, if_pos rfl]
      rw [HO.out]
      go_enter Try.func124, Try.ntmps124
      go_wp2
      exact bodyPost_ret (v := .tuple #[.int .i64 0, .bool false]) (by simp [results, Try.results124, go_sem]) rfl ⟨rfl, ao, bo, c1, c2, hS, ho, ho', Kept.refl _ _, hap, fun _ h _ => h⟩
    · have HO : Hid (takeOut n 0 A U V F = (⟨n + 1, 0, put A n 0, put U n false, put V n 0, F, 0⟩, (n : Int), true)) := by unfold Hid takeOut; rw [if_neg hm0, if_neg h20]
      rw [HO.out]
      have e20 : ((n : Int) == 20) = false := by simpa using (show ¬ (n : Int) = 20 by omega)
      go_enter Try.func124, Try.ntmps124
      have HF : Hid (slotList (put A n 0) (put U n false) (put V n 0) (n + 1) = slotList A U V n ++ [.int .i64 0, .bool false, .int .i64 0]) := slotList_put A U V n 0 0 false
      have n6 : some sb ≠ (Value.slice ao n c1).ownBlock := fun e => hap (.inl (own_head rfl ho e.symm))
      have hwr : IntKind.i64.wrap ((n : Int) + 1 - 1) = (n : Int) := by rw [IntKind.wrap_i64]; omega
      go_wp2_with (first | (at_builtin; refine wpList_append_lies _ (by rfl) (.tmp 41) (.tmp 43) 95 (by rfl) base 184 j0 (.agg #[.int .i64 0, .bool false, .int .i64 0]) 3 24 Try.underlying95 ji jz0 jz1 jz2 rfl (by decide) _ n (slotList A U V n) (by rfl) (ho.alloc (.cells #[.int .i64 0, .bool false, .int .i64 0] 184)) ⟨w.heap.size, 0, none⟩ 1 1 [.int .i64 0, .bool false, .int .i64 0] (by rfl) (by rfl) (World.news_of_block (heap_alloc_new w _)) (by intro u hu; simp at hu; rcases hu with rfl | rfl | rfl <;> rfl) (by decide) (by unfold maxLen; omega) (by omega) (by simp; omega) (w.heap.size + 1) (by simp) ?_; intro g d w3 hown hgrow hat hlt3; have hS3 := grown_blk hgrow (blk_alloc hS (.cells #[.int .i64 0, .bool false, .int .i64 0] 184)) n6; have u0 := blk_cell hS3 0 _ rfl; have u1 := blk_cell hS3 1 _ rfl; have u2 := blk_free hS3 0))
      have hk : Kept w w3 (fun b => b = sb ∨ headsOf ao bo b) := (Kept.of_below (push (Below.refl _ w) (.cells #[.int .i64 0, .bool false, .int .i64 0] 184))).trans (kept_grown hgrow (fun b hb => .inr (.inl (own_head rfl ho hb))))
      have t3 := (ho'.alloc (.cells #[.int .i64 0, .bool false, .int .i64 0] 184)).kept hgrow (by
        cases hr : (Value.slice ao n c1).ownBlock with
        | none => exact Classical.em _
        | some b => exact .inr (fun e => own_apart ho ho' (by decide) b hr e))
      rw [← HF.out] at hown
      have hgs : ¬ (sb = g) := by
        intro e
        rcases hat with h | h
        · exact n6 (by rw [h, e])
        · omega
      have hk2 := (Kept.refl w3 (fun b => b = sb)).set (a := ⟨sb, 0, none⟩) rfl (.slice (some ⟨g, 0, none⟩) (n + 1) d)
      have hnh : ¬ headsOf (some ⟨g, 0, none⟩) bo sb := by
        rintro (⟨g', e1, e2⟩ | h)
        · simp only [Option.some.injEq, Addr.mk.injEq, and_true] at e1; omega
        · exact hap (.inr h)
      refine bodyPost_ret (v := .tuple #[.int .i64 (n : Int), .bool true]) (by simp [results, Try.results124, go_sem]) rfl ⟨rfl, some ⟨g, 0, none⟩, bo, d, c2, blk_set hS3 0 _, hk2.own hown (fun b hb e => hnh (.inl (e ▸ own_head rfl hown hb))), hk2.own t3 (fun b hb e => hap (.inr (e ▸ own_head rfl ho' hb))), hk.set (.inl rfl) _, hnh, ?_⟩
      rintro b (⟨g', e1, e2⟩ | h) hb
      · simp only [Option.some.injEq, Addr.mk.injEq, and_true] at e1
        subst e2
        subst e1
        rcases hat with h | h
        · exact .inl (own_head rfl ho h)
        · omega
      · exact .inr h

end Go.Proofs.Ytclcjnbjpelcjaa
