/-
  OWN TEXT: the contract of impl.PutRecord.
-/
import Derived.Test.YtclcjnbjpelcjaaImpl2
import Derived.Test.YtclcjnbjpelcjaaImplPutS
import Derived.Test.YtclcjnbjpelcjaaArenaOf
namespace Go.Proofs.Ytclcjnbjpelcjaa
open Go.RowKit

theorem own_none {w : World} {base e size n c : Nat} {ao : Option Addr} {xs : List Value} (h : w.ownsRow base e size (.slice ao n c) n xs) : ao = none → n = 0 ∧ c = 0 := by
  intro e0
  obtain ⟨_, _, hv, _, _, hh⟩ := own_form h
  simp only [Value.slice.injEq, true_and] at hv
  obtain ⟨rfl, rfl⟩ := hv
  exact hh e0

set_option maxHeartbeats 3200000 in
set_option maxRecDepth 100000 in
theorem implPut_any (ao bo : Option Addr) (n m c1 c2 : Nat) (A : Nat → Int) (U : Nat → Bool) (V F : Nat → Int) (u : Int) (w : World) (hn : n ≤ 1048576) (hm : m ≤ 1048576) (hnil : bo = none → m = 0 ∧ c2 = 0)
    (hx : SlotsAt w ao n A U V) (hy : IntsAt w bo m F) :
    Calls Try.prog 9 #[.agg #[.slice ao n c1, .slice bo m c2], .int .i64 u] w fun e w' => ∃ ao' bo' d1 d2 o, e = .returned (.tuple #[.agg #[.slice ao' o.1.n d1, .slice bo' o.1.m d2], .agg #[.int .i64 o.2.1, .int .i64 o.2.2], .int .i64 o.1.c]) ∧
      OutHeld w' w.heap.size (.slice ao' o.1.n d1) (.slice bo' o.1.m d2) o.1 ∧ AnswersH (Named n m A U V F) (putOut n m A U V F u) o ∧ Below w.heap.size w w' := by
  have h0 : Below w.heap.size w (((w.alloc (.cells #[.slice ao n c1, .slice bo m c2] 26)).alloc (.cells #[.slice none 0 0, .slice none 0 0] 26)).alloc (.cells #[.int .i64 0, .int .i64 0] 30)) := push (push (push (Below.refl _ _) _) _) _
  have hR0 : (((w.alloc (.cells #[.slice ao n c1, .slice bo m c2] 26)).alloc (.cells #[.slice none 0 0, .slice none 0 0] 26)).alloc (.cells #[.int .i64 0, .int .i64 0] 30)).heap[w.heap.size + 1]? = some (.cells #[.slice none 0 0, .slice none 0 0] 26 (0, 0)) := blk_alloc (by simpa using heap_alloc_new (w.alloc _) _) _
  have hH0 : (((w.alloc (.cells #[.slice ao n c1, .slice bo m c2] 26)).alloc (.cells #[.slice none 0 0, .slice none 0 0] 26)).alloc (.cells #[.int .i64 0, .int .i64 0] 30)).heap[w.heap.size + 1 + 1]? = some (.cells #[.int .i64 0, .int .i64 0] 30 (0, 0)) := by simpa using heap_alloc_new ((w.alloc _).alloc _) _
  go_enter Try.func9, Try.ntmps9
  go_wp2_with fail
  refine (storeOf_any ao bo n m c1 c2 A U V F _ hn hm hnil (hx.below h0) (hy.below h0)).mono ?_
  rintro e w1 ⟨v1, v2, rfl, ho1, ho2, hb1⟩
  obtain ⟨a1, d1, rfl, _, _, _⟩ := own_form ho1
  obtain ⟨a2, d2, rfl, _, _, ha2⟩ := own_form ho2
  have hlt1 : w.heap.size + 1 + 1 < w1.heap.size := blk_lt (blk_below hH0 hb1)
  have hb2 := push (after h0 hb1) (.cells #[.slice a1 n d1, .slice a2 m d2] 97)
  have o1 := own_base (base' := w.heap.size + 1 + 1 + 1) (ho1.alloc (.cells #[.slice a1 n d1, .slice a2 m d2] 97)) (by simp)
  have o2 := own_base (base' := w.heap.size + 1 + 1 + 1) (ho2.alloc (.cells #[.slice a1 n d1, .slice a2 m d2] 97)) (by simp)
  have hH1 := blk_alloc (blk_below hH0 hb1) (.cells #[.slice a1 n d1, .slice a2 m d2] 97)
  have hR1 := blk_alloc (blk_below hR0 hb1) (.cells #[.slice a1 n d1, .slice a2 m d2] 97)
  have hs1 := heap_alloc_new w1 (.cells #[.slice a1 n d1, .slice a2 m d2] 97)
  have hap1 : ∀ b, headsOf a1 a2 b → b < w1.heap.size := fun b hb => by rcases hb with hb | hb; exact (head_ge ho1 b hb).2; exact (head_ge ho2 b hb).2
  clear ho1 ho2 hb1 h0 hH0 hR0
  go_wp2_with fail
  refine (storeGood_any a1 a2 n m d1 d2 A U V F _ hn hm (own_slots o1) (own_ints o2)).mono ?_
  rintro e w3 ⟨bb, rfl, hiff, hb3⟩
  have HI : Hid (bb = true ↔ Named n m A U V F) := hiff
  clear hiff
  have hbw := after hb2 hb3
  have o3 := own_below hb3 o1
  have o4 := own_below hb3 o2
  have hH3 := blk_below hH1 hb3
  have hR3 := blk_below hR1 hb3
  have hs3 := blk_below hs1 hb3
  clear hb2 hb3 o1 o2 hH1 hR1 hs1
  cases bb with
  | false =>
    have HN : Hid (¬ Named n m A U V F) := fun h => by have := HI.out.2 h; cases this
    clear HI
    have y5 := blk_cell hR3 0 _ rfl
    have y6 := blk_cell hR3 1 _ rfl
    have y7 := blk_free hR3 0
    have y8 := blk_free hR3 1
    have y9 := blk_cell hH3 0 _ rfl
    have y10 := blk_cell hH3 1 _ rfl
    have y11 := blk_free hH3 0
    have y12 := blk_free hH3 1
    go_wp2
    generalize hFw : (((w3.setCell ⟨w.heap.size + 1, 0, none⟩ (.slice none 0 0)).setCell ⟨w.heap.size + 1, 1, none⟩ (.slice none 0 0)).setCell ⟨w.heap.size + 1 + 1, 0, none⟩ (.int .i64 0)).setCell ⟨w.heap.size + 1 + 1, 1, none⟩ (.int .i64 0) = Fw
    obtain ⟨z0, z1, z2, z3, hbF, -, -⟩ := two_boxes (X := w3) (.slice none 0 0) (.slice none 0 0) (.int .i64 0) (.int .i64 0) hR3 hH3 hbw _ hFw
    exact bodyPost_ret (v := .tuple #[.agg #[.slice none 0 0, .slice none 0 0], .agg #[.int .i64 0, .int .i64 0], .int .i64 1]) (by simp [results, Try.results9, go_sem, z0, z1, z2, z3]) rfl ⟨none, none, 0, 0, (badOut, 0, 0), rfl, ⟨World.ownsRow_nil _ _ _ _, World.ownsRow_nil _ _ _ _⟩, ⟨fun h => absurd h HN.out, fun _ => rfl⟩, hbF⟩
  | true =>
    have HN : Hid (Named n m A U V F) := HI.out.1 rfl
    clear HI
    have HA : Hid (∀ b, headsOf a1 a2 b → b < w1.heap.size) := hap1
    have HB : Hid (∀ b, headsOf a1 a2 b → w.heap.size + 1 + 1 + 1 ≤ b) := fun b hb => by rcases hb with hb | hb; exact (head_ge o3 b hb).1; exact (head_ge o4 b hb).1
    clear hap1
    go_wp2_with fail
    refine (put_any w1.heap.size (w.heap.size + 1 + 1 + 1) a1 a2 n m d1 d2 A U V F u _ ((good_iff n m A U V F).2 HN.out) hs3 o3 o4 (by have := blk_lt hs3; omega) (fun h => by have := HA.out _ h; omega)).mono ?_
    have hfew := good_few' ((good_iff n m A U V F).2 HN.out)
    have hps : (putOut n m A U V F u).1.n ≤ 21 ∧ (putOut n m A U V F u).1.m ≤ 21 := by
      unfold putOut
      split
      · exact ⟨by show n ≤ 21; omega, by show m - 1 ≤ 21; omega⟩
      · split
        · exact ⟨by show n ≤ 21; omega, by show m ≤ 21; omega⟩
        · exact ⟨by show n + 1 ≤ 21; omega, by show m ≤ 21; omega⟩
    obtain ⟨p, hp⟩ : ∃ p, p = putOut n m A U V F u := ⟨_, rfl⟩
    rw [← hp] at hps ⊢
    have HP : Hid (p = putOut n m A U V F u) := hp
    clear hp
    rintro e w4 ⟨rfl, a3, a4, d3, d4, hs4, o5, o6, hk4, hap4, hin4⟩
    have hbw4 := Kept.below hbw hbw.size hk4 (fun b h => by rcases h with h | h; omega; have := HB.out _ h; omega)
    have hR4 := hk4.blk hR3 (fun h => by rcases h with h | h; omega; have := HB.out _ h; omega)
    have hH4 := hk4.blk hH3 (fun h => by rcases h with h | h; omega; have := HB.out _ h; omega)
    clear o3 o4 hk4 hs3 hR3 hH3 hbw hin4 hap4
    go_wp2
    have hlt4 := blk_lt hH4
    have hlt5 := blk_lt hs4
    have dS := blk_drew (blk_alloc hs4 (.cells #[.int .i64 p.2.1, .int .i64 p.2.2] 30))
    have dG := blk_drew (heap_alloc_new w4 (.cells #[.int .i64 p.2.1, .int .i64 p.2.2] 30))
    have dR := blk_drew (blk_alloc hR4 (.cells #[.int .i64 p.2.1, .int .i64 p.2.2] 30))
    have dH := blk_drew (blk_alloc hH4 (.cells #[.int .i64 p.2.1, .int .i64 p.2.2] 30))
    have hbw5 := push hbw4 (.cells #[.int .i64 p.2.1, .int .i64 p.2.2] 30)
    have o7 := own_slots (o5.alloc (.cells #[.int .i64 p.2.1, .int .i64 p.2.2] 30))
    have o8 := own_ints (o6.alloc (.cells #[.int .i64 p.2.1, .int .i64 p.2.2] 30))
    have ha4 := own_none o6
    have hz5 : w4.heap.size < (w4.alloc (.cells #[.int .i64 p.2.1, .int .i64 p.2.2] 30)).heap.size := by simp
    clear hs4 hR4 hH4 hbw4 o5 o6
    generalize w4.alloc (.cells #[.int .i64 p.2.1, .int .i64 p.2.2] 30) = W at *
    have q0 := blk_cell dS 0 _ rfl
    have q1 := blk_cell dS 1 _ rfl
    have q2 := blk_cell dG 0 _ rfl
    have q3 := blk_cell dG 1 _ rfl
    have keepS : Hid (∀ w', Kept W.drew w' (fun b => b = w.heap.size + 1 ∨ b = w.heap.size + 1 + 1) → w'.cell? ⟨w1.heap.size, 0, none⟩ = some (.slice a3 p.1.n d3) ∧ w'.cell? ⟨w1.heap.size, 1, none⟩ = some (.slice a4 p.1.m d4) ∧ w'.cell? ⟨w4.heap.size, 0, none⟩ = some (.int .i64 p.2.1) ∧ w'.cell? ⟨w4.heap.size, 1, none⟩ = some (.int .i64 p.2.2)) := fun w' hk => ⟨blk_cell (hk.blk dS (by omega)) 0 _ rfl, blk_cell (hk.blk dS (by omega)) 1 _ rfl, blk_cell (hk.blk dG (by omega)) 0 _ rfl, blk_cell (hk.blk dG (by omega)) 1 _ rfl⟩
    go_region_held3 (fun w' => w'.cell? ⟨w1.heap.size, 0, none⟩ = some (.slice a3 p.1.n d3) ∧ w'.cell? ⟨w1.heap.size, 1, none⟩ = some (.slice a4 p.1.m d4) ∧ w'.cell? ⟨w4.heap.size, 0, none⟩ = some (.int .i64 p.2.1) ∧ w'.cell? ⟨w4.heap.size, 1, none⟩ = some (.int .i64 p.2.2))
      (first | exact ⟨q0, q1, q2, q3⟩ | (refine keepS.out _ ?_; (repeat (first | refine Kept.set ?_ (.inl rfl) _ | refine Kept.set ?_ (.inr rfl) _ | exact Kept.of_below hb6 | exact Kept.refl _ _)); done))
      (first | (go_at_call 49; refine (arenaOf_any a3 a4 p.1.n p.1.m d3 d4 p.1.A p.1.U p.1.V p.1.F _ (by omega) (by omega) ha4 (SlotsAt.below o7 ((Below.refl _ _).drew)) (IntsAt.below o8 ((Below.refl _ _).drew))).mono ?_; rintro e w6 ⟨v3, v4, rfl, o9, o10, hb6⟩; obtain ⟨a5, d5, rfl, _, _, _⟩ := own_form o9; obtain ⟨a6, d6, rfl, _, _, _⟩ := own_form o10; have hR6 := blk_below dR hb6; have hH6 := blk_below dH hb6; have y5 := blk_cell hR6 0 _ rfl; have y6 := blk_cell hR6 1 _ rfl; have y7 := blk_free hR6 0; have y8 := blk_free hR6 1; have y9 := blk_cell hH6 0 _ rfl; have y10 := blk_cell hH6 1 _ rfl; have y11 := blk_free hH6 0; have y12 := blk_free hH6 1))
    all_goals
      have hbw6 := after hbw5 (low_undrew hb6)
      have hz6 : W.heap.size ≤ w6.heap.size := hb6.size
      go_wp2
      generalize hFw : (((w6.setCell ⟨w.heap.size + 1, 0, none⟩ (.slice a5 p.1.n d5)).setCell ⟨w.heap.size + 1, 1, none⟩ (.slice a6 p.1.m d6)).setCell ⟨w.heap.size + 1 + 1, 0, none⟩ (.int .i64 p.2.1)).setCell ⟨w.heap.size + 1 + 1, 1, none⟩ (.int .i64 p.2.2) = Fw
      obtain ⟨z0, z1, z2, z3, hbF, -, hl⟩ := two_boxes (X := w6) (.slice a5 p.1.n d5) (.slice a6 p.1.m d6) (.int .i64 p.2.1) (.int .i64 p.2.2) hR6 hH6 hbw6 _ hFw
      exact bodyPost_ret (v := .tuple #[.agg #[.slice a5 p.1.n d5, .slice a6 p.1.m d6], .agg #[.int .i64 p.2.1, .int .i64 p.2.2], .int .i64 p.1.c]) (by simp [results, Try.results9, go_sem, z0, z1, z2, z3]) rfl ⟨a5, a6, d5, d6, p, rfl, ⟨hl _ _ _ _ _ _ (by show w.heap.size + 1 + 1 < W.heap.size; omega) o9, hl _ _ _ _ _ _ (by show w.heap.size + 1 + 1 < W.heap.size; omega) o10⟩, ⟨fun _ => HP.out, fun h => absurd HN.out h⟩, hbF⟩

end Go.Proofs.Ytclcjnbjpelcjaa
