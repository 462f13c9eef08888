/-
  OWN TEXT: the contract of impl.DropRecord.
-/
import Derived.Test.YtclcjnbjpelcjaaImplDropA
namespace Go.Proofs.Ytclcjnbjpelcjaa
open Go.RowKit

theorem own_nil {w : World} {base e size n c : Nat} {ao : Option Addr} {xs : List Value} (h : w.ownsRow base e size (.slice ao n c) n xs) : ao = none → n = 0 ∧ c = 0 := by
  rintro rfl
  rcases h.2 with ⟨h0, h1⟩ | ⟨g, cap, cur, h0, _⟩
  · simp only [Value.slice.injEq, true_and] at h0
    exact ⟨h1, h0.2⟩
  · cases h0

set_option maxHeartbeats 1600000 in
theorem implDrop_any (ao bo : Option Addr) (n m c1 c2 : Nat) (A : Nat → Int) (U : Nat → Bool) (V F : Nat → Int) (x a : Int) (w : World) (hn : n ≤ 1048576) (hm : m ≤ 1048576) (hnil : bo = none → m = 0 ∧ c2 = 0)
    (hx : SlotsAt w ao n A U V) (hy : IntsAt w bo m F) :
    Calls Try.prog 12 #[.agg #[.slice ao n c1, .slice bo m c2], .agg #[.int .i64 x, .int .i64 a]] w fun e w' => ∃ ao' bo' d1 d2 o, e = .returned (.tuple #[.agg #[.slice ao' o.n d1, .slice bo' o.m d2], .int .i64 o.c]) ∧
      OutOwned w' w.heap.size (.slice ao' o.n d1) (.slice bo' o.m d2) o ∧ Answers (Named n m A U V F) (dropOut n m A U V F x a) o ∧ Below w.heap.size w w' := by
  have h0 : Below w.heap.size w (((w.alloc (.cells #[.slice ao n c1, .slice bo m c2] 26)).alloc (.cells #[.int .i64 x, .int .i64 a] 30)).alloc (.cells #[.slice none 0 0, .slice none 0 0] 26)) := push (push (push (Below.refl _ _) _) _) _
  have hH0 : (((w.alloc (.cells #[.slice ao n c1, .slice bo m c2] 26)).alloc (.cells #[.int .i64 x, .int .i64 a] 30)).alloc (.cells #[.slice none 0 0, .slice none 0 0] 26)).heap[w.heap.size + 1]? = some (.cells #[.int .i64 x, .int .i64 a] 30 (0, 0)) := blk_alloc (by simpa using heap_alloc_new (w.alloc _) _) _
  have hR0 : (((w.alloc (.cells #[.slice ao n c1, .slice bo m c2] 26)).alloc (.cells #[.int .i64 x, .int .i64 a] 30)).alloc (.cells #[.slice none 0 0, .slice none 0 0] 26)).heap[w.heap.size + 1 + 1]? = some (.cells #[.slice none 0 0, .slice none 0 0] 26 (0, 0)) := by simpa using heap_alloc_new ((w.alloc _).alloc _) _
  go_enter Try.func12, Try.ntmps12
  go_wp2_with fail
  refine (storeOf_any ao bo n m c1 c2 A U V F _ hn hm hnil (hx.below h0) (hy.below h0)).mono ?_
  rintro e w1 ⟨v1, v2, rfl, ho1, ho2, hb1⟩
  obtain ⟨a1, d1, rfl, _, _, _⟩ := own_form ho1
  obtain ⟨a2, d2, rfl, _, _, ha2⟩ := own_form ho2
  have hlt1 : w.heap.size + 1 + 1 < w1.heap.size := blk_lt (blk_below hR0 hb1)
  have hb2 := push (after h0 hb1) (.cells #[.slice a1 n d1, .slice a2 m d2] 97)
  have o1 := own_base (base' := w.heap.size + 1 + 1 + 1) (ho1.alloc (.cells #[.slice a1 n d1, .slice a2 m d2] 97)) (by simp)
  have o2 := own_base (base' := w.heap.size + 1 + 1 + 1) (ho2.alloc (.cells #[.slice a1 n d1, .slice a2 m d2] 97)) (by simp)
  have hH1 := blk_alloc (blk_below hH0 hb1) (.cells #[.slice a1 n d1, .slice a2 m d2] 97)
  have hR1 := blk_alloc (blk_below hR0 hb1) (.cells #[.slice a1 n d1, .slice a2 m d2] 97)
  have hs1 := heap_alloc_new w1 (.cells #[.slice a1 n d1, .slice a2 m d2] 97)
  have hap1 : ∀ b, headOf a1 b → b < w1.heap.size := fun b hb => (head_ge ho1 b hb).2
  have hap2 : ∀ b, headOf a2 b → b < w1.heap.size := fun b hb => (head_ge ho2 b hb).2
  clear ho1 ho2 hb1 h0 hH0 hR0
  go_wp2_with fail
  refine (storeGood_any a1 a2 n m d1 d2 A U V F _ hn hm (own_slots o1) (own_ints o2)).mono ?_
  rintro e w3 ⟨bb, rfl, hiff, hb3⟩
  have HI : Hid (bb = true ↔ Named n m A U V F) := hiff
  clear hiff
  have hbw := after hb2 hb3
  have o3 := own_below hb3 o1
  have o4 := own_below hb3 o2
  have hH3 := blk_below hH1 hb3
  have hR3 := blk_below hR1 hb3
  have hs3 := blk_below hs1 hb3
  clear hb2 hb3 o1 o2 hH1 hR1 hs1
  cases bb with
  | false =>
    have HN : Hid (¬ Named n m A U V F) := fun h => by have := HI.out.2 h; cases this
    clear HI
    have y5 := blk_cell hR3 0 _ rfl
    have y6 := blk_cell hR3 1 _ rfl
    have y7 := blk_free hR3 0
    have y8 := blk_free hR3 1
    go_wp2
    have rF := blk_set (blk_set hR3 0 (.slice none 0 0)) 1 (.slice none 0 0)
    have z0 := blk_cell rF 0 _ rfl
    have z1 := blk_cell rF 1 _ rfl
    exact bodyPost_ret (v := .tuple #[.agg #[.slice none 0 0, .slice none 0 0], .int .i64 1]) (by simp [results, Try.results12, go_sem, z0, z1]) rfl ⟨none, none, 0, 0, badOut, rfl, ⟨World.ownsRow_nil _ _ _ _, World.ownsRow_nil _ _ _ _⟩, ⟨fun h => absurd h HN.out, fun _ => rfl⟩, (hbw.setCell (by show w.heap.size ≤ w.heap.size + 1 + 1; omega) _).setCell (by show w.heap.size ≤ w.heap.size + 1 + 1; omega) _⟩
  | true =>
    have HN : Hid (Named n m A U V F) := HI.out.1 rfl
    clear HI
    have q0 := blk_cell hH3 0 _ rfl
    have q1 := blk_cell hH3 1 _ rfl
    have HA1 : Hid (∀ b, headOf a1 b → b < w1.heap.size) := hap1
    have HA2 : Hid (∀ b, headOf a2 b → b < w1.heap.size) := hap2
    clear hap1 hap2
    go_wp2_with fail
    refine (drop_any w1.heap.size _ a1 a2 n m d1 d2 A U V F x a _ ((good_iff n m A U V F).2 HN.out) hs3 o3 o4 (by have := hbw.size; have := blk_lt hR3; omega) (fun h => by rcases h with h | h; have := HA1.out _ h; omega; have := HA2.out _ h; omega)).mono ?_
    rintro e w4 ⟨a5, d5, rfl, en, hs4, o5, o6, hk4⟩
    have hge : ∀ b, (b = w1.heap.size ∨ headsOf a1 a2 b) → w.heap.size + 1 + 1 < b := by
      rintro b (h | h | h)
      · omega
      · have := (head_ge o3 _ h).1; omega
      · have := (head_ge o4 _ h).1; omega
    have hR4 := hk4.blk hR3 (fun h => by have := hge _ h; omega)
    have hbw4 := Kept.below hbw hbw.size hk4 (fun b h => by have := hge _ h; omega)
    have hfew := good_few ((good_iff n m A U V F).2 HN.out)
    have hm5 : (dropOut n m A U V F x a).m ≤ 1048576 := by
      have := drop_size (o := dropOut n m A U V F x a) (by omega : n + m ≤ 1048576) ⟨fun _ => rfl, fun h => absurd ((good_iff n m A U V F).2 HN.out) h⟩
      omega
    have ha5 := own_nil o6
    have HO : Hid (dropOut n m A U V F x a = dropOut n m A U V F x a) := rfl
    generalize hoo : dropOut n m A U V F x a = o at *
    have HE : Hid (dropOut n m A U V F x a = o) := hoo
    have HM : Hid (o.n = n) := en
    clear hoo en HO
    clear o3 o4 hk4 hs3 hR3 hH3 hbw q0 q1 hge
    have z0 := blk_cell hs4 0 _ rfl
    have z1 := blk_cell hs4 1 _ rfl
    go_wp2_with fail
    refine (arenaOf_any a1 a5 n o.m d1 d5 o.A o.U o.V o.F _ hn hm5 ha5 (own_slots o5) (own_ints o6)).mono ?_
    rintro e w5 ⟨v3, v4, rfl, o7, o8, hb5⟩
    obtain ⟨a3, d3, rfl, _, _, _⟩ := own_form o7
    obtain ⟨a4, d4, rfl, _, _, _⟩ := own_form o8
    have hR5 := blk_below hR4 hb5
    have hbw5 := after hbw4 hb5
    have hlt4 := blk_lt hR4
    clear hs4 hR4 hbw4 hb5 z0 z1 o5 o6
    have y5 := blk_cell hR5 0 _ rfl
    have y6 := blk_cell hR5 1 _ rfl
    have y7 := blk_free hR5 0
    have y8 := blk_free hR5 1
    go_wp2
    have rF := blk_set (blk_set hR5 0 (.slice a3 n d3)) 1 (.slice a4 o.m d4)
    have z0 := blk_cell rF 0 _ rfl
    have z1 := blk_cell rF 1 _ rfl
    refine bodyPost_ret (v := .tuple #[.agg #[.slice a3 n d3, .slice a4 o.m d4], .int .i64 o.c]) (by simp [results, Try.results12, go_sem, z0, z1]) rfl ⟨a3, a4, d3, d4, o, by rw [HM.out], ⟨?_, ?_⟩, ⟨fun _ => HE.out.symm, fun h => absurd HN.out h⟩, (hbw5.setCell (by show w.heap.size ≤ w.heap.size + 1 + 1; omega) _).setCell (by show w.heap.size ≤ w.heap.size + 1 + 1; omega) _⟩
    · rw [HM.out]
      exact own_base (own_set (own_set o7 (by show w.heap.size + 1 + 1 < _; omega) _) (by show w.heap.size + 1 + 1 < _; omega) _) (by omega)
    · exact own_base (own_set (own_set o8 (by show w.heap.size + 1 + 1 < _; omega) _) (by show w.heap.size + 1 + 1 < _; omega) _) (by omega)

end Go.Proofs.Ytclcjnbjpelcjaa
