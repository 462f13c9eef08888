/-
  OWN TEXT: the contracts of store.set and impl.SetRecord.
-/
import Derived.Test.YteniifnhbogbkafImpl5
import Derived.Test.YteniifnhbogbkafSpecSet
import Derived.Test.YteniifnhbogbkafArenaOf
import Derived.Test.YteniifnhbogbkafMarkSlots
namespace Go.Proofs.Yteniifnhbogbkaf
open Go.RowKit

theorem Kept.drew {w w' : World} {S : Nat → Prop} (h : Kept w w' S) : Kept w w'.drew S := ⟨h.os, h.tape, h.output, h.size, h.block⟩

set_option maxHeartbeats 1600000 in
theorem set_any (sb base : Nat) (ao bo : Option Addr) (n m c1 c2 : Nat) (A : Nat → Int) (U : Nat → Bool) (V : Nat → Int) (x a u : Int) (w : World)
    (hS : w.heap[sb]? = some (.cells #[.slice ao n c1, .slice bo m c2] 57 (0, 0))) (ho : w.ownsRow base 73 3 (.slice ao n c1) n (slotList A U V n)) (hap : ¬ headOf ao sb) :
    Calls Try.prog 34 #[.pointer (some ⟨sb, 0, none⟩), .agg #[.int .i64 x, .int .i64 a], .int .i64 u] w fun e w' => e = .returned (.int .i64 (faultOf n A U x a)) ∧
      w'.ownsRow base 73 3 (.slice ao n c1) n (slotList A U (if faultOf n A U x a = 0 then put V x.toNat u else V) n) ∧ Kept w w' (headOf ao) := by
  have h0 : Below w.heap.size w (w.alloc (.cells #[.int .i64 x, .int .i64 a] 35)) := push (Below.refl _ _) _
  have dS : (w.alloc (.cells #[.int .i64 x, .int .i64 a] 35)).drew.heap[sb]? = some (.cells #[.slice ao n c1, .slice bo m c2] 57 (0, 0)) := blk_alloc hS _
  have dH : (w.alloc (.cells #[.int .i64 x, .int .i64 a] 35)).drew.heap[w.heap.size]? = some (.cells #[.int .i64 x, .int .i64 a] 35 (0, 0)) := heap_alloc_new w _
  have hsl := blk_lt hS
  have p0 := blk_cell hS 0 _ rfl
  have p1 := blk_cell hS 1 _ rfl
  have hx := own_slots ho
  go_enter Try.func34, Try.ntmps34
  go_wp2
  go_region_held3 (fun w' => w'.cell? ⟨sb, 0, none⟩ = some (.slice ao n c1) ∧ w'.cell? ⟨sb, 1, none⟩ = some (.slice bo m c2) ∧ w'.cell? ⟨w.heap.size, 0, none⟩ = some (.int .i64 x) ∧ w'.cell? ⟨w.heap.size, 1, none⟩ = some (.int .i64 a))
    (first | exact ⟨blk_cell (blk_below dS hb2) 0 _ rfl, blk_cell (blk_below dS hb2) 1 _ rfl, blk_cell (blk_below dH hb2) 0 _ rfl, blk_cell (blk_below dH hb2) 1 _ rfl⟩ | exact ⟨blk_cell dS 0 _ rfl, blk_cell dS 1 _ rfl, blk_cell dH 0 _ rfl, blk_cell dH 1 _ rfl⟩)
    (first | (go_at_call 45; refine (codeOf_any ao bo n m c1 c2 A U V x a _ (hx.below h0.drew)).mono ?_; rintro e w2 ⟨rfl, hb2⟩))
  have hbw := after h0.drew hb2
  have hS2 := blk_below dS hb2
  have hH2 := blk_below dH hb2
  have ho2 := own_below hbw ho
  have hlt : w.heap.size < w2.heap.size := by have := hb2.size; simp at this; omega
  clear dS dH h0 hb2 hS p0 p1 hx
  by_cases hf : faultOf n A U x a = 0
  · have ef : (faultOf n A U x a == 0) = true := by simpa using hf
    have HF : Hid (faultOf n A U x a = 0) := hf
    obtain ⟨q, rfl, hq, _, _⟩ := fault_zero hf
    have hqn : (q : Int) < (n : Int) := by omega
    have hq0 : (0 : Int) ≤ (q : Int) := by omega
    obtain ⟨g, rfl, hg1, hg2⟩ := own_addr ho (by omega)
    have s2 := own_cell ho2 (q * 3 + 2) (by omega) rfl
    have sf := ho2.frozenAt (q * 3 + 2)
    have n1 : ¬ (sb = g) := fun e => hap ⟨g, rfl, e⟩
    have n2 : ¬ (w.heap.size = g) := by omega
    have y0 := blk_cell hS2 0 _ rfl
    have y1 := blk_cell hH2 0 _ rfl
    go_wp2
    go_region_held3 (fun w' => w'.cell? ⟨sb, 0, none⟩ = some (.slice (some ⟨g, 0, none⟩) n c1) ∧ w'.cell? ⟨w.heap.size, 0, none⟩ = some (.int .i64 (q : Int)))
      (first | exact ⟨y0, y1⟩ | exact ⟨(World.cell?_setCell_other _ _ _ _ (by simp <;> omega)).trans y0, (World.cell?_setCell_other _ _ _ _ (by simp <;> omega)).trans y1⟩)
      (fail)
    go_wp2
    go_ret
    exact ⟨rfl, (spec_value (q := q) (u := u) ho2).drew, Kept.drew ((Kept.of_below (S := headOf (some ⟨g, 0, none⟩)) hbw).set (a := ⟨g, q * 3 + 2, none⟩) ⟨g, rfl, rfl⟩ (.int .i64 u))⟩
  · have ef : (faultOf n A U x a == 0) = false := by simpa using hf
    go_wp2
    go_ret
    exact ⟨rfl, by first | exact ho2 | (rw [if_neg hf]; exact ho2), Kept.of_below hbw⟩

/-- The lists of an answer, owned. -/
def OutOwned (w : World) (base : Nat) (v1 v2 : Value) (o : Out) : Prop :=
  w.ownsRow base 52 3 v1 o.n (slotList o.A o.U o.V o.n) ∧ w.ownsRow base 3 1 v2 o.m (intList o.F o.m)

set_option maxHeartbeats 1600000 in
theorem implSet_any (ao bo : Option Addr) (n m c1 c2 : Nat) (A : Nat → Int) (U : Nat → Bool) (V F : Nat → Int) (x a u : Int) (w : World) (hn : n ≤ 1048576) (hm : m ≤ 1048576) (hnil : bo = none → m = 0 ∧ c2 = 0)
    (hx : SlotsAt w ao n A U V) (hy : IntsAt w bo m F) :
    Calls Try.prog 14 #[.agg #[.slice ao n c1, .slice bo m c2], .agg #[.int .i64 x, .int .i64 a], .int .i64 u] w fun e w' => ∃ ao' bo' d1 d2 o, e = .returned (.tuple #[.agg #[.slice ao' o.n d1, .slice bo' o.m d2], .int .i64 o.c]) ∧
      OutOwned w' w.heap.size (.slice ao' o.n d1) (.slice bo' o.m d2) o ∧ Answers (Named n m A U V F) (setOut n m A U V F x a u) o ∧ Below w.heap.size w w' := by
  have h0 : Below w.heap.size w (((w.alloc (.cells #[.slice ao n c1, .slice bo m c2] 33)).alloc (.cells #[.int .i64 x, .int .i64 a] 35)).alloc (.cells #[.slice none 0 0, .slice none 0 0] 33)) := push (push (push (Below.refl _ _) _) _) _
  have hH0 : (((w.alloc (.cells #[.slice ao n c1, .slice bo m c2] 33)).alloc (.cells #[.int .i64 x, .int .i64 a] 35)).alloc (.cells #[.slice none 0 0, .slice none 0 0] 33)).heap[w.heap.size + 1]? = some (.cells #[.int .i64 x, .int .i64 a] 35 (0, 0)) := blk_alloc (by simpa using heap_alloc_new (w.alloc _) _) _
  have hR0 : (((w.alloc (.cells #[.slice ao n c1, .slice bo m c2] 33)).alloc (.cells #[.int .i64 x, .int .i64 a] 35)).alloc (.cells #[.slice none 0 0, .slice none 0 0] 33)).heap[w.heap.size + 1 + 1]? = some (.cells #[.slice none 0 0, .slice none 0 0] 33 (0, 0)) := by simpa using heap_alloc_new ((w.alloc _).alloc _) _
  go_enter Try.func14, Try.ntmps14
  go_wp2_with fail
  refine (storeOf_any ao bo n m c1 c2 A U V F _ hn hm hnil (hx.below h0) (hy.below h0)).mono ?_
  rintro e w1 ⟨v1, v2, rfl, ho1, ho2, hb1⟩
  obtain ⟨a1, d1, rfl, _, _, _⟩ := own_form ho1
  obtain ⟨a2, d2, rfl, _, _, ha2⟩ := own_form ho2
  have hlt1 : w.heap.size + 1 + 1 < w1.heap.size := blk_lt (blk_below hR0 hb1)
  have hb2 := push (after h0 hb1) (.cells #[.slice a1 n d1, .slice a2 m d2] 57)
  have o1 := own_base (base' := w.heap.size + 1 + 1 + 1) (ho1.alloc (.cells #[.slice a1 n d1, .slice a2 m d2] 57)) (by simp)
  have o2 := own_base (base' := w.heap.size + 1 + 1 + 1) (ho2.alloc (.cells #[.slice a1 n d1, .slice a2 m d2] 57)) (by simp)
  have hH1 := blk_alloc (blk_below hH0 hb1) (.cells #[.slice a1 n d1, .slice a2 m d2] 57)
  have hR1 := blk_alloc (blk_below hR0 hb1) (.cells #[.slice a1 n d1, .slice a2 m d2] 57)
  have hs1 := heap_alloc_new w1 (.cells #[.slice a1 n d1, .slice a2 m d2] 57)
  have hap1 : ∀ b, headOf a1 b → b < w1.heap.size := fun b hb => (head_ge ho1 b hb).2
  have hap2 : ∀ b, headOf a2 b → b < w1.heap.size := fun b hb => (head_ge ho2 b hb).2
  clear ho1 ho2 hb1 h0 hH0 hR0
  go_wp2_with fail
  refine (storeGood_any a1 a2 n m d1 d2 A U V F _ hn hm (own_slots o1) (own_ints o2)).mono ?_
  rintro e w3 ⟨bb, rfl, hiff, hb3⟩
  have HI : Hid (bb = true ↔ Named n m A U V F) := hiff
  clear hiff
  have hbw := after hb2 hb3
  have o3 := own_below hb3 o1
  have o4 := own_below hb3 o2
  have hH3 := blk_below hH1 hb3
  have hR3 := blk_below hR1 hb3
  have hs3 := blk_below hs1 hb3
  clear hb2 hb3 o1 o2 hH1 hR1 hs1
  cases bb with
  | false =>
    have HN : Hid (¬ Named n m A U V F) := fun h => by have := HI.out.2 h; cases this
    clear HI
    have y5 := blk_cell hR3 0 _ rfl
    have y6 := blk_cell hR3 1 _ rfl
    have y7 := blk_free hR3 0
    have y8 := blk_free hR3 1
    go_wp2
    have rF := blk_set (blk_set hR3 0 (.slice none 0 0)) 1 (.slice none 0 0)
    have z0 := blk_cell rF 0 _ rfl
    have z1 := blk_cell rF 1 _ rfl
    exact bodyPost_ret (v := .tuple #[.agg #[.slice none 0 0, .slice none 0 0], .int .i64 1]) (by simp [results, Try.results14, go_sem, z0, z1]) rfl ⟨none, none, 0, 0, badOut, rfl, ⟨World.ownsRow_nil _ _ _ _, World.ownsRow_nil _ _ _ _⟩, ⟨fun h => absurd h HN.out, fun _ => rfl⟩, (hbw.setCell (by show w.heap.size ≤ w.heap.size + 1 + 1; omega) _).setCell (by show w.heap.size ≤ w.heap.size + 1 + 1; omega) _⟩
  | true =>
    have HN : Hid (Named n m A U V F) := HI.out.1 rfl
    clear HI
    have q0 := blk_cell hH3 0 _ rfl
    have q1 := blk_cell hH3 1 _ rfl
    have HA1 : Hid (∀ b, headOf a1 b → b < w1.heap.size) := hap1
    have HA2 : Hid (∀ b, headOf a2 b → b < w1.heap.size) := hap2
    clear hap1 hap2
    go_wp2_with fail
    refine (set_any w1.heap.size _ a1 a2 n m d1 d2 A U V x a u _ hs3 o3 (fun h => by have := HA1.out _ h; omega)).mono ?_
    rintro e w4 ⟨rfl, o5, hk4⟩
    have o6 := hk4.own o4 (fun b hb hs => heads_apart o3 o4 (by decide) b hs (own_head rfl o4 hb))
    have hs4 := hk4.blk hs3 (fun h => by have := HA1.out _ h; omega)
    have hR4 := hk4.blk hR3 (fun h => by have := (head_ge o3 _ h).1; omega)
    have hbw4 := Kept.below hbw hbw.size hk4 (fun b h => by have := (head_ge o3 _ h).1; omega)
    clear o3 o4 hk4 hs3 hR3 hH3 hbw q0 q1
    have z0 := blk_cell hs4 0 _ rfl
    have z1 := blk_cell hs4 1 _ rfl
    go_wp2_with fail
    refine (arenaOf_any a1 a2 n m d1 d2 A U _ F _ hn hm ha2 (own_slots o5) (own_ints o6)).mono ?_
    rintro e w5 ⟨v3, v4, rfl, o7, o8, hb5⟩
    obtain ⟨a3, d3, rfl, _, _, _⟩ := own_form o7
    obtain ⟨a4, d4, rfl, _, _, _⟩ := own_form o8
    have hR5 := blk_below hR4 hb5
    have hbw5 := after hbw4 hb5
    have hlt4 := blk_lt hR4
    clear hs4 hR4 hbw4 hb5 z0 z1 o5 o6
    have y5 := blk_cell hR5 0 _ rfl
    have y6 := blk_cell hR5 1 _ rfl
    have y7 := blk_free hR5 0
    have y8 := blk_free hR5 1
    go_wp2
    have rF := blk_set (blk_set hR5 0 (.slice a3 n d3)) 1 (.slice a4 m d4)
    have z0 := blk_cell rF 0 _ rfl
    have z1 := blk_cell rF 1 _ rfl
    refine bodyPost_ret (v := .tuple #[.agg #[.slice a3 n d3, .slice a4 m d4], .int .i64 (faultOf n A U x a)]) (by simp [results, Try.results14, go_sem, z0, z1]) rfl ⟨a3, a4, d3, d4, setOut n m A U V F x a u, rfl, ⟨?_, ?_⟩, ⟨fun _ => rfl, fun h => absurd HN.out h⟩, (hbw5.setCell (by show w.heap.size ≤ w.heap.size + 1 + 1; omega) _).setCell (by show w.heap.size ≤ w.heap.size + 1 + 1; omega) _⟩
    · exact own_base (own_set (own_set o7 (by show w.heap.size + 1 + 1 < _; omega) _) (by show w.heap.size + 1 + 1 < _; omega) _) (by omega)
    · exact own_base (own_set (own_set o8 (by show w.heap.size + 1 + 1 < _; omega) _) (by show w.heap.size + 1 + 1 < _; omega) _) (by omega)

end Go.Proofs.Yteniifnhbogbkaf
